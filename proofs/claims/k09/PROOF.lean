import PyProof.Rows.All
import Wide.All
import OpenK.AllK
import Wide.FinOn
import PyProof.FString3
import PyProof.InstNe
import HandS.ForMost
import HandS.FStr
import HandS.StrMore
import HandS.IsInst
import HandS.Codes
import HandS.TryOnly
import HandS.SlotsOwn
import HandS.Defaults
import HandS.MakeKw
import HandS.MakeKwOnly
import HandS.OwnEq
import KE.KCallOwn
import KE.KFmtOwn
import HandS.ExcInit
import HandS.ExcIs
import HandS.ExcField
import HandS.ExcValue
import KE.KExcIs
import KE.KExcInit
import HandS.Conv
import OpenK.KOps
import PyProof.Rows.Range3
import PyProof.ListRange
import HandS.Style
import PyProof.ReprRoads
import PyProof.ExcBaseAll.LookupError
import PyProof.ExcBaseAll.IndexError
import HandS.SortInts
import HandS.SortKw
import HandS.Star
import HandS.Flow
import HandS.WordsExc
import HandS.FStrTup
import HandS.CallSlots
import HandS.Zip
import HandS.Lambda
import HandS.EndTab
import HandS.More
import HandS.List
import KE.KxIndex
import PyProof.Rows.StrRev
import KE.IntTextLaws
import KE.IntTextText
import HandS.SetFor
import HandS.Strs
import HandS.SortInts
import HandS.IntHex
import PySem.Challenge.RW_boatbridge_k09_bridges_as_objects
set_option Elab.async false
set_option linter.all false
set_option maxRecDepth 100000
namespace Bb
open PySem PySem.Spec PyProof.Rows L2 PySem.W
open C8 (pss_cut)
open TL (tl ext_tl partition_app partition_none)
/-! ### a call with keywords alone -/
section
variable {X : Cx} {CX : CXT} {k : Nat} {f : Addr} {fd : FuncData} {ps ks : List Str} {sp : Sp} {E : XK} {x : Str} {p pos : Pos} {kws : List Keyword} {tk : TA} {g : List Value → List Value → List Value} {gV : List V → List V → List V}
theorem pe_callK0 (F : FnOk X.prog X.w X.K X.mg X.base CX k f fd ps sp) (hr : Room k X.A) (hg : Gl X x) (hm : X.mg x = some (.ref f)) (hk : PySem.W.keepIn X.K (.ref f) = true) (hb : KBinds X.K fd ps ks g gV) (hx : Passes CX X E)
    (hkw : PK X kws tk) (hall : (backToKw pos (keywordEach kws X.env)).all (·.1.isSome) = true := by rfl) (hks : (backToKw pos (keywordEach kws X.env)).filterMap (·.1) = ks := by rfl)
    (hdb : (x == ("__debug__" : Str)) = false := by decide)
    (hpl : ((backTo pos (starEach [] X.env)).any (·.1) || (backToKw pos (keywordEach kws X.env)).any (·.1.isNone)) = false := by rfl) :
    PE X (.Call (.Name x p) [] kws pos) (tCallK sp gV E tNil tk) := by
  refine ⟨fun pins s σ H Q I h => ?_⟩
  refine wpAny_Call_Name_kw (ld_glob I hg hm ?_ hdb)
  refine PySem.W.callWith_KW0 (h₀ := X.base) I.ok.mod.kin hk hall ?_ hpl
  refine thn (hkw.run pos pins s σ H _ I h) fun ws s2 ⟨zs, H2, I2, rz, q2⟩ => ⟨I2.kIn, ?_⟩
  rw [hks]
  exact run_fnk F hr hb hx I2 .nil rz q2
/-- keywords in the parameters' own order -/
theorem fun_kbinds {K : Frag} {x qual : Str} {st : Stmt} {f : Addr} {fd : FuncData} {ps ks : List Str} (F : Fun K x qual st f fd)
    (h : ∀ (kV doc pm : Value) (an : Option Addr) (cdv ct : Value) (us ws : List Value), (us ++ ws).length = ps.length → bindArgs (PySem.W.fnOf x qual (defArgs st) (defBody st) (defScope st) .none kV doc pm an cdv ct) ⟨us, ks.zip ws⟩ = pure (ps.zip (us ++ ws))) :
    KBinds K fd ps ks (· ++ ·) (· ++ ·) := by
  obtain ⟨oc, od, kV, doc, pm, an, cdv, ct, osl, rfl, lk, hcd⟩ := F.ex
  exact ⟨fun s us ws _ hl => .of_eq (h kV doc pm an cdv ct us ws hl), fun a b => a.append b⟩
theorem vals_rev : ∀ {zs : List V} {ws : List Value}, Vals zs ws → Vals zs.reverse ws.reverse
  | _, _, .nil => .nil
  | _, _, .cons r t => by
    rw [List.reverse_cons, List.reverse_cons]
    exact (vals_rev t).append (.cons r .nil)
/-- all by keywords -/
def kwAll {α : Type} (n : Nat) (us ws : List α) : List α := if us.length = 0 ∧ ws.length = n then ws else []
theorem kwAll_vals {n : Nat} {vs zs : List V} {us ws : List Value} (a : Vals vs us) (b : Vals zs ws) : Vals (kwAll n vs zs) (kwAll n us ws) := by
  unfold kwAll
  rw [a.length, b.length]
  split
  · exact b
  · exact .nil
theorem fun_kbindsA {K : Frag} {x qual : Str} {st : Stmt} {f : Addr} {fd : FuncData} {ps ks : List Str} (F : Fun K x qual st f fd) (hn : ps ≠ [])
    (h : ∀ (kV doc pm : Value) (an : Option Addr) (cdv ct : Value) (ws : List Value), ws.length = ps.length → bindArgs (PySem.W.fnOf x qual (defArgs st) (defBody st) (defScope st) .none kV doc pm an cdv ct) ⟨[], ks.zip ws⟩ = pure (ps.zip ws)) :
    KBinds K fd ps ks (kwAll ps.length) (kwAll ps.length) := by
  obtain ⟨oc, od, kV, doc, pm, an, cdv, ct, osl, rfl, lk, hcd⟩ := F.ex
  refine ⟨fun s us ws _ hl => ?_, kwAll_vals⟩
  unfold kwAll at hl ⊢
  split at hl
  · rename_i c
    rw [if_pos c, List.eq_nil_of_length_eq_zero c.1]
    exact .of_eq (h kV doc pm an cdv ct ws c.2)
  · exact absurd (List.eq_nil_of_length_eq_zero hl.symm) hn
/-- all by keywords, in the parameters' order turned about -/
theorem fun_kbindsR {K : Frag} {x qual : Str} {st : Stmt} {f : Addr} {fd : FuncData} {ps ks : List Str} (F : Fun K x qual st f fd) (hn : ps ≠ [])
    (h : ∀ (kV doc pm : Value) (an : Option Addr) (cdv ct : Value) (ws : List Value), ws.length = ps.length → bindArgs (PySem.W.fnOf x qual (defArgs st) (defBody st) (defScope st) .none kV doc pm an cdv ct) ⟨[], ks.zip ws⟩ = pure (ps.zip ws.reverse)) :
    KBinds K fd ps ks (fun us ws => (kwAll ps.length us ws).reverse) (fun us ws => (kwAll ps.length us ws).reverse) := by
  obtain ⟨oc, od, kV, doc, pm, an, cdv, ct, osl, rfl, lk, hcd⟩ := F.ex
  refine ⟨fun s us ws _ hl => ?_, fun a b => vals_rev (kwAll_vals a b)⟩
  rw [List.length_reverse] at hl
  unfold kwAll at hl ⊢
  split at hl
  · rename_i c
    rw [if_pos c, List.eq_nil_of_length_eq_zero c.1]
    exact .of_eq (h kV doc pm an cdv ct ws c.2)
  · exact absurd (List.eq_nil_of_length_eq_zero hl.symm) hn
end
/-! ### defs that are called where no repr is under way (so that repr of lists and tuples is known) -/
structure FnOkG (P : Program) (w : World) (K : PySem.W.Frag) (mg : Str → Option Value) (base : Heap) (CX : CXT) (k : Nat) (f : Addr) (fd : FuncData) (ps : List Str) (sp : Sp) : Prop where
  many : ∀ vs H Q E, sp vs H Q E → vs.length = ps.length
  goes : ∀ (A : Around) (outer : List Env) (s : Shared) (H : Hp) (args : Args) (us : List Value) (vs : List V) (Q : VK) (E : XK), A.guards = some [] → Room k A → Env0 P w K mg base A outer s H → BindsTo s fd args (ps.zip us) → Vals vs us → sp vs H Q E →
    codeAny (model P w) A (.call (.ref f) args) (CR CX outer P w H s Q E) s
theorem FnOk.g {P : Program} {w : World} {K : PySem.W.Frag} {mg : Str → Option Value} {base : Heap} {CX : CXT} {k : Nat} {f : Addr} {fd : FuncData} {ps : List Str} {sp : Sp} (F : FnOk P w K mg base CX k f fd ps sp) : FnOkG P w K mg base CX k f fd ps sp :=
  ⟨F.len, fun A o s H a us vs Q E _ => F.run A o s H a us vs Q E⟩
section
variable {P : Program} {w : World} {K : PySem.W.Frag} {mg : Str → Option Value} {base : Heap}
theorem okG {x qual : Str} {st : Stmt} {f : Addr} {fd : FuncData} {N ps : List Str} {k : Nat} {sp : Sp} (F : Fun K x qual st f fd) (S : FnScope N ps (defScope st)) (hn : ∀ vs H Q E, sp vs H Q E → vs.length = ps.length)
    (hb : ∀ (cdv : Value) (A : Around) (outer : List Env) (s : Shared) (H : Hp) (vs : List V) (Q : VK) (E : XK), A.guards = some [] → Room k (A.deeper (envOfC qual (defScope st) s.heap.objs.size f cdv)) → sp vs H Q E →
      ∃ t, PSs (cxOf CX0 P w K mg base N qual (defScope st) f cdv A outer s H E).nox (defBody st) t ∧ t { nx := fun _ H' => Q .non H', rt := Q } (start N vs) H) : FnOkG P w K mg base CX0 (k + 1) f fd ps sp := by
  obtain ⟨oc, od, kV, doc, pm, an, cdv, ct, osl, rfl, lk, hcd⟩ := F.ex
  constructor
  · exact hn
  intro A outer s H args us vs Q E gd hr env bnd rel want
  have olds : ∀ z y, base.get? z = some y → s.heap.get? z = some y := fun z y e => (env.bs z y e).1
  have inK : K.In s.heap := env.mod.kin.keeps olds
  have vis : ∀ q ∈ ps.zip us, (defScope st).names.lookup q.1 = some .local ∨ ((defScope st).names.lookup q.1 = some .cell ∧ ((cellsFrom (s.heap.objs.size + 1) (defScope st).names []).lookup q.1).isSome = true) := by
    intro q hq
    obtain ⟨n, v⟩ := q
    exact (S.par n (List.of_mem_zip hq).1).elim Or.inl fun c => Or.inr ⟨c, PySem.W.cellsFrom_some _ _ _ (Or.inl c)⟩
  apply codeAny_call_function hr.depth (inK _ _ lk) rfl S.co S.gen rfl (PySem.W.codeRec_of inK hcd)
  apply bnd
  refine wpAny_newFunctionEnv_cells S.kind vis fun env' he s1 x => ?_
  cases he
  refine ⟨(env.mod.nolimit.keeps olds).keeps x.toInCall.keep, codeAny_func ?_⟩
  obtain ⟨t, ht, hq⟩ := hb cdv A outer s H vs Q E gd (hr.deeper _) want
  have ht := ht.nox
  have J0 : L2.Inv (cxOf CX0 P w K mg base N qual (defScope st) f cdv A outer s H E) [] (start N vs) H s1 := inv_start S hr.hd env (hn _ _ _ _ want) rel x
  refine wpAny_mono (ht.run [] s1 (start N vs) H _ J0 hq) (fun fl s' z => ?_) fun _ _ z => z
  match fl, z with
  | .ret u, ⟨v, σ', H', J, rv, q⟩ => exact ⟨v, H', J.os, J.bare, J.base, J.hok, rv, q⟩
  | .next, ⟨σ', H', J, q⟩ => exact ⟨V.non, H', J.os, J.bare, J.base, J.hok, rfl, q⟩
  | .brk, ⟨_, _, _, q⟩ => exact q.elim
  | .cont, ⟨_, _, _, q⟩ => exact q.elim
end
section
variable {X : Cx} {CX : CXT} {k : Nat} {f : Addr} {fd : FuncData} {ps : List Str} {sp : Sp} {dvs : List V} {ds : List Value} {E : XK} {x : Str} {p pos : Pos} {e : Expr} {es : List Expr} {t : TA}
/-- f(e, ..), f such a def -/
theorem pe_callG (F : FnOkG X.prog X.w X.K X.mg X.base CX k f fd ps sp) (gd : X.A.guards = some []) (hr : Room k X.A) (hg : Gl X x) (hm : X.mg x = some (.ref f)) (hk : PySem.W.keepIn X.K (.ref f) = true) (hb : L2.Binds X.K fd ps ds) (hd : Vals dvs ds) (hx : Passes CX X E)
    (ha : PA X (e :: es) t) (n1 : (x == ("__debug__" : Str)) = false := by decide) (n2 : starEach (e :: es) X.env = (false, eval e X.env) :: starEach es X.env := by rfl) (n3 : (backTo pos (starEach es X.env)).any (·.1) = false := by rfl) :
    PE X (.Call (.Name x p) (e :: es) [] pos) (tCall sp dvs E t) := by
  constructor
  intro pins s σ H Q I h
  apply wpAny_Call_Name_kw (ld_glob I hg hm ?_ n1)
  refine PySem.W.callWith_K (h₀ := X.base) I.ok.mod.kin hk (thn (ha.run pos pins s σ H _ I h) ?_) n2 n3
  rintro us s1 ⟨vs, H1, I1, r, q⟩
  refine ⟨I1.kIn, ?_⟩
  have rr : Vals (vs ++ dvs) (us ++ ds) := r.append hd
  have ll : (us ++ ds).length = ps.length := rr.length.symm.trans (F.many _ _ _ _ q)
  refine wpAny_call (codeAny_mono (F.goes X.A X.stack s1 H1 ⟨us, []⟩ (us ++ ds) (vs ++ dvs) Q E gd hr I1.env0 (hb s1 us I1.kIn ll) rr q) fun z s' hz => ?_)
  match z, hz with
  | .error er, hz => exact hx pins σ H1 s1 er s' I1 hz
  | .ok (.ret u), hz => exact I1.after hz
  | .ok .next, hz => exact (show False from hz).elim
  | .ok .brk, hz => exact (show False from hz).elim
  | .ok .cont, hz => exact (show False from hz).elim
/-- repr(x) of data -/
def rReprD (K : PySem.W.Frag) : List V → Hp → VK → Prop := fun xs H Q => ∃ x d, xs = [x] ∧ Dp K H x d ∧ SeqAt.shaped d = true ∧ d.showable = true ∧ d.shown.length ≤ sizeLine ∧ Q (.str d.shown) H
theorem call_reprD (gd : X.A.guards = some []) (hr : Room k X.A) : CallR X (.builtin "repr") (rReprD X.K) := by
  intro pins s σ H xs us Q I r h
  obtain ⟨y, d, rfl, hd, sh, sw, sz, q⟩ := h
  obtain ⟨u, rfl, ru⟩ := Vals.one r
  have dd := SeqAt.depth_of_shaped sh
  have un := hr.un
  have nd : d.hasDict = true → sysModules ∉ ([] : List Addr) := fun z => by rw [PyData.hasDict_of_canLay d (SeqAt.canLay_of_shaped sh)] at z; cases z
  cases hd with
  | non =>
    cases (show u = Value.none from ru)
    exact P.repr_of_none ⟨V.str "None", H, I.tok _, ⟨_, rfl⟩, by rw [PyData.shown] at q; exact q⟩
  | bl b =>
    cases (show u = Value.bool b from ru)
    exact P.repr_of_bool ⟨V.str (if b then "True" else "False"), H, I.tok _, ⟨_, rfl⟩, by rw [PyData.shown] at q; exact q⟩
  | int i =>
    obtain ⟨t, rfl⟩ := (show ∃ t, u = Value.int i t from ru)
    refine P.repr_of_int (of_decide_eq_true (by rw [PyData.showable] at sw; exact sw)) ⟨V.str (toString i), H, I.tok _, ⟨_, rfl⟩, by rw [PyData.shown] at q; exact q⟩
  | str z =>
    obtain ⟨t, rfl⟩ := (show ∃ t, u = Value.str z t from ru)
    exact P.repr_of_str ⟨V.str (reprText z), H, I.tok _, ⟨_, rfl⟩, by rw [PyData.shown] at q; exact q⟩ (by rw [PyData.shown] at sz; exact sz)
  | lst a b =>
    obtain ⟨as, rd⟩ := Dp.reads I _ _ u (.lst a b) ru
    cases ru
    exact repr_of_reads' rd sw (fun z => by rw [PyData.hasDict_of_canLay _ (SeqAt.canLay_of_shaped sh)] at z; cases z) gd (by omega) (fun _ _ z => z) (fun h' t' tk hk => ⟨V.str (PyData.shown _), H, I.kept hk, ⟨_, rfl⟩, q⟩) sz
  | tup a b =>
    obtain ⟨as, rd⟩ := Dp.reads I _ _ u (.tup a b) ru
    cases ru
    exact repr_of_reads' rd sw (fun z => by rw [PyData.hasDict_of_canLay _ (SeqAt.canLay_of_shaped sh)] at z; cases z) gd (by omega) (fun _ _ z => z) (fun h' t' tk hk => ⟨V.str (PyData.shown _), H, I.kept hk, ⟨_, rfl⟩, q⟩) sz
end
/-! ### the law's end, for such a law -/
section
variable {P : Program} {w : World} {K : PySem.W.Frag} {mg mb : Str → Option Value} {k : Nat} {fa a : Addr} {fd : FuncData} {x : Str} {sp : Sp} {s₁ : Shared} {vs : List Value} {ns : List Int}
/-- from a heap in which nothing but the script may stand -/
theorem lawG0 (KX : K.In s₁.heap) (g1 : s₁.heap.Ns mainGlobals mg) (g2 : s₁.heap.Ns builtinsNs mb) (g3 : ∀ x : Str, x ≠ "__name__" → mb x = bootBuiltins x) (g4 : s₁.heap.NoLimit) (g5 : s₁.gens = #[])
    (ha : s₁.heap.get? a = some { cls := .type "list", data := .seq vs.toArray }) (hr : Room k callerA)
    (F : ∀ base : Heap, K.In base → base.Ns mainGlobals mg → FnOkG P w K mg base CX0 k fa fd [x] sp) (bd : ∀ (s : Shared) (u : Value), BindsTo s fd ⟨[u], []⟩ [(x, u)])
    (H : Hp) (hO : Only H) (want : sp [.ref a] H (fun v _ => v = .bl true) fun _ _ _ => False) (ok : HOk P w H s₁.heap) (hA : ∀ b, H b ≠ none → b = a) (hK : H a ≠ none → K.lookup a = none) :
    codeAny (model P w) callerA (.call (.ref fa) ⟨[.ref a], []⟩) (fun r s' => r = .ok (.ret (.bool true)) ∧ OldK s₁.heap s'.heap ∧ s'.os = s₁.os ∧ AllBare s'.gens) s₁ := by
  have noA : ∀ {b : Addr} {o : Obj} {es : Array DictEntry} {ep : Nat}, s₁.heap.get? b = some o → o.data = .dict es ep → H b = none := by
    intro b o es ep e d
    apply Classical.byContradiction
    intro z
    have e2 := e
    rw [hA b z, ha] at e2
    cases e2
    exact nomatch (show Data.seq vs.toArray _ = Data.dict es ep from d)
  have nsK : ∀ {b : Addr} {m : Str → Option Value}, s₁.heap.Ns b m → (hidT s₁.heap H).Ns b m := by
    rintro b m ⟨o, es, ep, e, d, r⟩
    exact ⟨o, es, ep, hidT_get e (noA e d), d, r⟩
  have kb : K.In (hidT s₁.heap H) := by
    intro b o e
    refine hidT_get (KX b o e) (Classical.byContradiction fun z => ?_)
    have eb := hA b z
    subst eb
    rw [hK z] at e
    cases e
  have M : Mod K mg (hidT s₁.heap H) := by
    obtain ⟨mc, h1, h2⟩ := g4
    exact ⟨kb, nsK g1, ⟨mb, nsK g2, g3⟩, ⟨mc, nsK h1, h2⟩⟩
  have e0 : Env0 P w K mg (hidT s₁.heap H) callerA [] s₁ H :=
    { frames := rfl, mod := M, bs := fun b o e => of_hidT e, bsz := Nat.le_of_eq (hidT_size _ _), funs := trivial, frf := fun b z => absurd (show b ∈ ([] : List Addr) from z) (by simp), hok := ok, bare := .of_eq g5 }
  have run := (F _ kb (nsK g1)).goes callerA [] s₁ H ⟨[.ref a], []⟩ [.ref a] [.ref a] _ _ rfl hr e0 (bd s₁ (.ref a)) (.cons rfl .nil) want
  refine codeAny_mono run fun r s' h => ?_
  match r, h with
  | .error e, h => exact (show False from h).elim
  | .ok .next, h => exact (show False from h).elim
  | .ok .brk, h => exact (show False from h).elim
  | .ok .cont, h => exact (show False from h).elim
  | .ok (.ret u), ⟨v, H', os, bare, un, ok', rv, (qv : v = .bl true)⟩ =>
    cases qv
    cases (show u = Value.bool true from rv)
    refine ⟨rfl, OldK.of_keep fun b o e => ?_, os, bare⟩
    cases q : H b with
    | none => exact un.keep b o e q (fun z => absurd (show b ∈ ([] : List Addr) from z) (by simp)) (by simp)
    | some y =>
      rcases hO b with z | ⟨ob, xs, z⟩
      · rw [z] at q; cases q
      · have f1 := (ok b _ z).1
        have f2 := (ok' b _ (un.frzs b ob _ z)).1
        rw [f1] at e
        cases e
        exact f2
theorem lawG (KX : K.In s₁.heap) (g1 : s₁.heap.Ns mainGlobals mg) (g2 : s₁.heap.Ns builtinsNs mb) (g3 : ∀ x : Str, x ≠ "__name__" → mb x = bootBuiltins x) (g4 : s₁.heap.NoLimit) (g5 : s₁.gens = #[])
    (ha : s₁.heap.get? a = some { cls := .type "list", data := .seq vs.toArray }) (hi : IntsAre vs ns) (hl : ns.length ≤ sizeLine) (hr : Room k callerA)
    (F : ∀ base : Heap, K.In base → base.Ns mainGlobals mg → FnOkG P w K mg base CX0 k fa fd [x] sp) (bd : ∀ (s : Shared) (u : Value), BindsTo s fd ⟨[u], []⟩ [(x, u)])
    (want : ∀ H : Hp, Only H → SqL K H a (ns.map V.int) → sp [.ref a] H (fun v _ => v = .bl true) fun _ _ _ => False) :
    codeAny (model P w) callerA (.call (.ref fa) ⟨[.ref a], []⟩) (fun r s' => r = .ok (.ret (.bool true)) ∧ OldK s₁.heap s'.heap ∧ s'.os = s₁.os ∧ AllBare s'.gens) s₁ := by
  have rv := vals_ints hi
  rcases hk : K.lookup a with _ | o
  · let H : Hp := fun b => if b = a then some (.frz { cls := .type "list", data := .seq vs.toArray } (.lst (ns.map V.int))) else none
    have Ha : H a = some (.frz { cls := .type "list", data := .seq vs.toArray } (.lst (ns.map V.int))) := if_pos rfl
    have Hn : ∀ b, b ≠ a → H b = none := fun b n => if_neg n
    have hO : Only H := fun b => (Classical.em (b = a)).elim (fun e => .inr ⟨_, _, e ▸ Ha⟩) fun n => .inl (Hn b n)
    have hA : ∀ b, H b ≠ none → b = a := fun b z => Classical.byContradiction fun n => z (Hn b n)
    refine lawG0 KX g1 g2 g3 g4 g5 ha hr F bd H hO (want H hO (.inl (.inr ⟨_, Ha⟩))) (fun b u z => ?_) hA fun _ => hk
    have e := hA b (by rw [z]; intro y; cases y)
    subst e
    rw [Ha] at z
    cases z
    exact ⟨ha, by rw [List.length_map]; exact hl, vs, _, rv, ha⟩
  · have e := KX a o hk
    rw [ha] at e
    cases e
    refine lawG0 KX g1 g2 g3 g4 g5 ha hr F bd (fun _ => none) (fun _ => .inl rfl) (want _ (fun _ => .inl rfl) (.inr ⟨_, vs.toArray, _, hk, rfl, rfl, rfl, by rw [List.size_toArray, hi.length]; exact hl, by simpa using rv⟩)) (fun b u z => nomatch (show (none : Option HO) = some u from z)) (fun b z => absurd rfl z) fun z => absurd rfl z
end
theorem walkG {l : PySem.W.OpenLaw} {n k : Nat} {q : Program} {loose : List Str} {XP : (Str → Option Value) → Heap → Prop} {YP : World → Heap → Prop} {d : DefRec} {K : Params → PySem.W.Frag} {sp : World → Sp} {x : Str}
    (hn : l.most = some n) (hn2 : n ≤ sizeLine) (hdf : d.params.defaults = []) (hr : Room k callerA) (hY : ∀ (w : World) (h : Heap), YP w h → (K w.params).In h)
    (F : ∀ (w : World) (mg : Str → Option Value) (fa : Addr) (h : Heap), (K w.params).In h → h.Ns mainGlobals mg → mg d.name = some (.ref fa) →
      ∃ fd : FuncData, (∀ (s : Shared) (u : Value), BindsTo s fd ⟨[u], []⟩ [(x, u)]) ∧ ∀ base : Heap, (K w.params).In base → base.Ns mainGlobals mg → FnOkG l.prog w (K w.params) mg base CX0 k fa fd [x] (sp w))
    (want : ∀ (w : World) (H : Hp) (a : Addr) (ns : List Int), ns.length ≤ n → Only H → SqL (K w.params) H a (ns.map V.int) → sp w [.ref a] H (fun v _ => v = .bl true) fun _ _ _ => False) :
    PySem.W.WalkO q loose XP YP l.row.toRowW d [] (fun f vs => PySem.call f vs) := by
  apply Att.attach_call hn hdf
  intro w s₀ s₁ mg mb fa o pm cd doc a vs ns G Y ho hd hcd hmg hobj hints hlen hg
  have KX := hY w _ Y
  obtain ⟨fd, bd, hF⟩ := F w mg fa _ KX G.T.g hmg
  exact lawG KX G.T.g G.T.b G.T.builtins G.T.nolimit hg hobj hints (Nat.le_trans hlen hn2) hr hF bd fun H hO hS => want w H a ns hlen hO hS
/-! ### an exception that is kept past its clause -/
/-- at a: an exception object of the class cls, its own dict at d -/
def keptX (cls : Value) (d : Option Addr) (a : Addr) : HO := .ext fun h => ∃ (oe : Obj) (vs : Array Value), h.get? a = some oe ∧ Zc cls d oe ∧ oe.data = .fields vs
theorem keptX_ok {P : Program} {w : World} {H : Hp} {h : Heap} {cls : Value} {d : Option Addr} {a : Addr} {oe : Obj} {vs : Array Value} (g : h.get? a = some oe) (z : Zc cls d oe) (f : oe.data = .fields vs) : ObjOk P w H h a (keptX cls d a) :=
  ⟨⟨oe, vs, g, z, f⟩, ⟨oe, g⟩, fun _ _ ⟨o, v, q, r⟩ k => ⟨o, v, k o q, r⟩⟩
theorem keptX_at {P : Program} {w : World} {H : Hp} {h : Heap} {cls : Value} {d : Option Addr} {a : Addr} (hok : HOk P w H h) (e : H a = some (keptX cls d a)) : ∃ (oe : Obj) (vs : Array Value), h.get? a = some oe ∧ Zc cls d oe ∧ oe.data = .fields vs := by
  have x : ObjOk P w H h a (.ext fun h => ∃ (oe : Obj) (vs : Array Value), h.get? a = some oe ∧ Zc cls d oe ∧ oe.data = .fields vs) := hok a _ e
  exact x.1
section
variable {X : Cx} {pins : List (Addr × Obj)} {σ : L2.St} {H : Hp} {s sI : Shared}
/-- the caught object is told to the ledger: it is none of the objects of the state sI ahead of it -/
theorem inv_keep (J : Inv X pins σ H sI) (ge : sI.heap.get? a = none) (I : Inv X pins σ H s) (hx : X.ex = []) {oe : Obj} {vs : Array Value} {cls : Value} {d : Option Addr} (ha : s.heap.get? a = some oe) (hz : Zc cls d oe) (hd : oe.data = .fields vs) (na : H a = none) :
    Inv X pins σ (upd H a (keptX cls d a)) s := by
  have ne : ∀ {b : Addr} {o : Obj}, sI.heap.get? b = some o → b ≠ a := by
    intro b o e z
    rw [z, ge] at e
    cases e
  have n0 : ∀ {b : Addr} {o : Obj}, X.s_0.heap.get? b = some o → b ≠ a := by
    intro b o e
    obtain ⟨o', e'⟩ := J.base.there b o e (by rw [hx]; exact fun z => nomatch z)
    exact ne e'
  have bs : Un X.fs X.ex X.H_0 (upd H a (keptX cls d a)) X.s_0.heap s.heap := {
    keep := I.base.keep
    slot := I.base.slot
    there := I.base.there
    free := by
      intro b o e n q
      rw [upd_ne (n0 e)]
      exact I.base.free b o e n q
    tups := by
      intro b xs e
      have z := I.base.tups b xs e
      rw [upd_ne (ne_of_none z na)]
      exact z
    frzs := by
      intro b o u e
      have z := I.base.frzs b o u e
      rw [upd_ne (ne_of_none z na)]
      exact z
    tbls := by
      intro b ps e
      obtain ⟨m, z⟩ := I.base.tbls b ps e
      exact ⟨m, by rw [upd_ne (ne_of_none z na)]; exact z⟩ }
  have fr : X.env.locals ≠ a := by
    obtain ⟨m, ⟨o, es, ep, ho, _⟩, _⟩ := J.loc
    exact ne ho
  refine ⟨I.ok, I.os, I.bare, bs, I.loc, I.cell, ?_, ?_, ?_, ?_, I.len⟩
  · rw [upd_ne fr]
    exact I.free
  · intro x c e
    obtain ⟨v, o, ho, _⟩ := J.cell x c e
    rw [upd_ne (ne ho)]
    exact I.freeC x c e
  · intro p hp
    obtain ⟨e, n, r⟩ := I.pin p hp
    refine ⟨e, ?_, r⟩
    rw [upd_ne (ne (J.pin p hp).1)]
    exact n
  · intro b o e
    by_cases hb : b = a
    · subst hb
      rw [upd_same] at e
      cases e
      exact keptX_ok ha hz hd
    · rw [upd_ne hb] at e
      refine (I.hok b o e).stay (fun c v _ q => q) (fun c q => ?_) (fun c xs q => ?_)
      · rw [upd_ne (ne_of_none q na)]
        exact q
      · rw [upd_ne (ne_of_none q na)]
        exact q
/-- into the clause's suite, no object pinned -/
theorem inv_into (I : Inv X pins σ H s) (a : Addr) : Inv (X.suite a (X.pn ++ pins)) [] σ H s where
  ok := I.ok.suite a _
  os := I.os
  bare := I.bare
  base := I.base
  loc := I.loc
  cell := I.cell
  free := I.free
  freeC := I.freeC
  pin := by
    intro p hp
    rw [List.append_nil] at hp
    exact I.pin p hp
  hok := I.hok
  len := I.len
/-- and out of it -/
theorem inv_outof {a : Addr} {pn : List (Addr × Obj)} (I : Inv (X.suite a (X.pn ++ pins)) pn σ H s) (ok : X.Ok) : Inv X pins σ H s where
  ok := ok
  os := I.os
  bare := I.bare
  base := I.base
  loc := I.loc
  cell := I.cell
  free := I.free
  freeC := I.freeC
  pin := fun p hp => I.pin p (List.mem_append_left _ hp)
  hok := I.hok
  len := I.len
end
/-- what the clause leaves: its own name is gone -/
def goneE (i : Nat) (D : Ends) : Ends where
  nx := fun σ H => D.nx (σ.set i none) H
  rt := D.rt
  bk := fun σ H => D.bk (σ.set i none) H
  ct := fun σ H => D.ct (σ.set i none) H
/-- what the clause wishes of the body's exceptions: each is caught, and stays -/
def wKeep (K : PySem.W.Frag) (c : Value) (i : Nat) (ts : Addr → Value → Option Addr → TS) (D : Ends) : WX := fun cls d σ H =>
  PySem.W.exmOne K cls c = some true ∧ ∀ a, H a = none → ts a cls d (goneE i D) (σ.set i (some (.ref a))) (upd H a (keptX cls d a))
section
variable {X : Cx} {x n : Str} {c : Value} {i : Nat} {body suite : List Stmt} {b₀ : Stmt} {np pos pos' : Pos} {tb : WX → TS} {ts : Addr → Value → Option Addr → TS}
theorem ps_try_keep (hs : X.stack = X.env :: X.outer) (hf : X.env.frame = some X.env.locals) (hex : X.ex = []) (hN : X.N.Nodup) (hi : X.N[i]? = some n) (hln : X.env.kindOf n = some .local) (hc : Names X x c)
    (hb : ∀ (W : WX) (pn : List (Addr × Obj)) (xe : Value → Shared → Prop), Takes (X.tr pn xe) W → PassesOwn (model X.prog X.w) X.A X.env xe → PSs (X.tr pn xe) body (tb W))
    (hsu : ∀ (a : Addr) (cls : Value) (d : Option Addr) (pn : List (Addr × Obj)), PSs (X.suite a pn) (b₀ :: suite) (ts a cls d)) :
    PS X (.Try body [.ExceptHandler (some (.Name x np)) (some n) (b₀ :: suite) pos'] [] [] pos) (fun D σ H => tb (wKeep X.K c i ts D) D σ H) := by
  constructor
  intro pins s σ H D I h
  have ok := I.ok
  have fr0 : X.A.frames = some (X.env :: X.outer) := by
    rw [ok.frames, hs]
  refine wpAny_Try_except ?_
  let xe' : Value → Shared → Prop := fun e s₁ => wpAny (model X.prog X.w) X.A (noteFrame e X.env) (fun _ s₂ => wpAny (model X.prog X.w) X.A (setFlight e none) (fun _ s₃ =>
    wpAny (model X.prog X.w) X.A (handleBy e X.env [.ExceptHandler (some (.Name x np)) (some n) (b₀ :: suite) pos']) (SP X pins D) X.xe s₃) X.xe s₂) X.xe s₁
  have catches : Takes (X.tr (X.pn ++ pins) xe') (wKeep X.K c i ts D) := by
    rintro u s' ⟨a, B, sI, pins', σ', H', cls, d, rfl, J', nb, up, sky, na, os, ag, hm, hyes⟩
    have J : Inv X pins σ' H' sI := J'.ofTry ok
    rw [show (X.tr (X.pn ++ pins) xe').stack = X.env :: X.outer from hs] at sky
    show wpAny (model X.prog X.w) X.A (noteFrame (.ref a) X.env) _ _ _
    refine Sky.land Zc.steady fr0 hf sky ?_
    intro h3 fl3 up3
    have J3 : Inv X pins σ' H' { s' with heap := h3 } := J.landed nb fl3.1 (up.trans up3) os ag
    refine wpAny_handleBy_cons (codeAny_handlers_test ?_) (fun q => nomatch q)
    -- the class is looked up and held against
    have look : PySem.W.Looks (model X.prog X.w) h3 (typeOf (.ref a)) cls := by
      obtain ⟨o3, v3, e3, z3, d3⟩ := fl3.there
      intro A Q E s k q
      refine wpAny_typeOf_ref (k _ _ e3) ?_
      rw [z3.1]
      exact q
    have hit := PySem.W.exm_one (M := model X.prog X.w) J3.kIn look hm
    have named : ∀ {Q : Value → Shared → Prop} {E : Value → Shared → Prop}, Q c { s' with heap := h3 } → wpAny (model X.prog X.w) (X.A.mark (some (.ref a))) (eval (.Name x np) X.env) Q E { s' with heap := h3 } := by
      intro Q E q
      have S3 := inv_into J3 a
      obtain ⟨hg, hdb, hv⟩ := hc
      rcases hv with hv | ⟨hv, hw, hn⟩
      · exact ld_glob (X := X.suite a (X.pn ++ pins)) S3 hg hv q hdb
      · exact ld_blt (X := X.suite a (X.pn ++ pins)) S3 hg hv hw q hn hdb
    refine named (hit.here (codeAny_handlers_suite_as (HandSPX.lands_againZ fl3 ?_)))
    intro h4 fl4 up4
    have J4 : Inv X pins σ' H' { s' with heap := h4 } := J.landed nb fl4.1 ((up.trans up3).trans up4) os ag
    obtain ⟨o4, v4, e4, z4, d4⟩ := fl4.there
    have ge : sI.heap.get? a = none := by
      cases q : sI.heap.get? a with
      | none => rfl
      | some o =>
        exfalso
        by_cases hm' : a ∈ frs (X.env :: X.outer)
        · obtain ⟨_, o', q', nf⟩ := fl4.2.2.1.mem hm'
          rw [e4] at q'
          cases q'
          exact nf _ d4
        · have z := nb a o q (by rw [show (X.tr (X.pn ++ pins) xe').stack = X.env :: X.outer from hs]; exact hm')
          rw [fl4.2.1] at z
          cases z
    have S4 := inv_into (inv_keep J ge J4 hex e4 z4 d4 na) a
    refine store_ok (X := X.suite a (X.pn ++ pins)) (v := .ref a) S4 hN hi (.inl hln) rfl ?_ (.inr hln)
    intro s5 S5
    refine wpAny_mono ((hsu a cls d (X.pn ++ pins)).run [] s5 _ _ (goneE i D) S5 (hyes a na)) ?_ (fun _ _ z => False.elim z)
    intro f s6 sp
    have out : ∀ {σ6 : L2.St} {H6 : Hp} {Q : Shared → Prop}, Inv (X.suite a (X.pn ++ pins)) [] σ6 H6 s6 → (∀ s7, Inv X pins (σ6.set i none) H6 s7 → Q s7) →
        wpAny (model X.prog X.w) X.A (do bindName X.env n .none; unbindBehindTheSuite X.env n pos') (fun _ s7 => Q s7) X.xe s6 := by
      intro σ6 H6 Q S6 hq
      exact gone_ok (inv_outof S6 ok) hN hi hln hq
    match f, sp with
    | .next, ⟨_, _, S6, q⟩ => exact out S6 fun s7 J7 => ⟨_, _, J7, q⟩
    | .brk, ⟨_, _, S6, q⟩ => exact out S6 fun s7 J7 => ⟨_, _, J7, q⟩
    | .cont, ⟨_, _, S6, q⟩ => exact out S6 fun s7 J7 => ⟨_, _, J7, q⟩
    | .ret u, ⟨_, _, _, S6, r, q⟩ => exact out S6 fun s7 J7 => ⟨_, _, _, J7, r, q⟩
  refine wpAny_mono ((hb (wKeep X.K c i ts D) (X.pn ++ pins) xe' catches PassesOwn.looking).run [] s σ H D (I.toTry _) h) ?_ (fun _ _ z => z)
  intro f s1 sp
  match f, sp with
  | .next, ⟨σ', H', J, q⟩ => exact wpAny_execs_nil ⟨σ', H', J.ofTry ok, q⟩
  | .brk, ⟨σ', H', J, q⟩ => exact ⟨σ', H', J.ofTry ok, q⟩
  | .cont, ⟨σ', H', J, q⟩ => exact ⟨σ', H', J.ofTry ok, q⟩
  | .ret u, ⟨v, σ', H', J, r, q⟩ => exact ⟨v, σ', H', J.ofTry ok, r, q⟩
end
/-! ### own exceptions under a class that is made by another's __new__ (KeyError, by LookupError's) -/
section
open Builtin Builtin.ObjectAttr
variable {prog : Program} {w : World} {M : Model} {A : Around} {E : Value → Shared → Prop} {R : Result → Shared → Prop} {h : Heap} {g : Array GenState} {d : Drawn} {t : Nat} {os : OsState}
variable {nm q : Str} {C N : Addr} {bs bm bmB : List Value} {hdct : Bool} {sn : List Str} {sub : List Value} {ab : Bool} {col : Option Bool} {dd : Option Addr} {k0 k1 k2 k3 k5 : Option Value} {B newId initId : String}
/-- what is asked of the classes above -/
structure Above (B : String) (bm : List Value) : Prop where
  is : bm.contains (.type B) = true
  noA : bm.contains (.type "AttributeError") = false
  noN : bm.contains (.type "NameError") = false
theorem mk_check (F : ExcBaseFacts B newId initId bmB) (T : Above B bm) {rest : List Value} {Q : Unit → Shared → Prop}
    (hC : h.get? C = some (excClassObj nm q C N bs bm hdct sn sub ab col dd k0 k1 k2 k3 k5 newId)) (hq : Q () ⟨h, g, d, t, os⟩) : wpAny M A (checkBuiltinCall newId ⟨.ref C :: rest, []⟩) Q E ⟨h, g, d, t, os⟩ := by
  have c1 : (Value.ref C :: bm).contains (.type B) = true := by
    rw [List.contains_cons, T.is, Bool.or_true]
  have c2 := F.noStar
  simp only [F.newKind, F.newSplit, F.newRow, checkBuiltinCall]
  repeat (first
    | refine wpAny_loadPart_at hC ?_
    | (refine wpAny_isSubtype_exc hC ?_; rw [c1])
    | refine wpAny_staticBase_exc hC ?_
    | refine wpAny_madeBy_exc hC ?_
    | simp only [bne_self_eq_false, Bool.false_eq_true, if_false]
    | wp_step)
  exact hq
theorem mk_new (F : ExcBaseFacts B newId initId bmB) (T : Above B bm) {rest : List Value}
    (hC : h.get? C = some (excClassObj nm q C N bs bm hdct sn sub ab col dd k0 k1 k2 k3 k5 newId)) (hz : rest.length ≤ sizeLine)
    (hq : R (.ok (.ret (.ref (h.objs.size + 1)))) ⟨(h.push (PySem.W.kdv_tup rest)).push (PySem.HandSPX.excO C h.objs.size), g, d, t, os⟩) :
    codeAny (model prog w) A (.builtin newId ⟨.ref C :: rest, []⟩) R ⟨h, g, d, t, os⟩ := by
  have ends := F.ends
  have c1 : (Value.ref C :: bm).contains (.type B) = true := by
    rw [List.contains_cons, T.is, Bool.or_true]
  have c2 : (Value.ref C :: bm).contains (.type "AttributeError") = false := by
    rw [List.contains_cons, T.noA]
    rfl
  have c3 : (Value.ref C :: bm).contains (.type "NameError") = false := by
    rw [List.contains_cons, T.noN]
    rfl
  refine PySem.codeAny_builtinAt F.entry ?_
  unfold Builtin.«BaseException.__new__»
  refine PySem.wpAt_bind ?_
  show PySem.wpAt _ _ _ (stack >>= _) _ _ _
  refine PySem.wpAt_bind (PySem.wpAt_stack ?_)
  intro p below
  refine PySem.wpAt_of_wpAny ?_
  wp_walk
  refine PySem.wpAt_of_wpAny ?_
  rw [F.owner]
  repeat (first
    | with_reducible refine wpAny_madeHere_exc F.canon hC ?_
    | with_reducible refine wpAny_loadPart_at hC ?_
    | (with_reducible refine wpAny_isSubtype_exc hC ?_; first | rw [c1] | rw [c2] | rw [c3])
    | wp_step)
  show R _ _
  rw [Heap.size_push]
  exact hq
theorem mk_type (F : ExcBaseFacts B newId initId bmB) (T : Above B bm) {rest : List Value} {fI : Addr} {Q : Fin → Shared → Prop}
    (hC : h.get? C = some (excClassObj nm q C N bs bm hdct sn sub ab col dd k0 k1 k2 k3 k5 newId)) (hi : PySem.W.Looks (model prog w) h (typeLookup (.ref C) "__init__") (some (.ref fI)))
    (hb : ∀ self, PySem.W.Looks (model prog w) h (bindSpecial (.ref fI) self) (.ref fI, [self])) (hz : rest.length ≤ sizeLine)
    (hq : codeAny (model prog w) A (.call (.ref fI) ⟨.ref (h.objs.size + 1) :: rest, []⟩) (fun r s' => match r with | .ok (.ret v) => v = .none ∧ Q (.done (.ret (.ref (h.objs.size + 1)))) s' | .ok _ => False | .error e => E e s')
      ⟨(h.push (PySem.W.kdv_tup rest)).push (PySem.HandSPX.excO C h.objs.size), g, d, t, os⟩) :
    wpAny (model prog w) A (Builtin.«type.__call__» ⟨.ref C :: rest, []⟩) Q E ⟨h, g, d, t, os⟩ := by
  have k : ∀ b o, h.get? b = some o → ((h.push (PySem.W.kdv_tup rest)).push (PySem.HandSPX.excO C h.objs.size)).get? b = some o := by
    intro b o e
    exact Heap.get?_push_of_some _ (Heap.get?_push_of_some _ e)
  have hC1 := k _ _ hC
  have got : ((h.push (PySem.W.kdv_tup rest)).push (PySem.HandSPX.excO C h.objs.size)).get? (h.objs.size + 1) = some (PySem.HandSPX.excO C h.objs.size) := by heap_get
  have self : (Value.ref C :: bm).contains (.ref C) = true := by simp
  repeat (first
    | with_reducible refine wpAny_loadPart_at hC ?_
    | with_reducible refine wpAny_madeBy_exc hC ?_
    | wp_step)
  refine codeAny_call_builtin_code (Code.quiet_builtin _ F.quiet) (mk_check F T hC (mk_new F T hC hz ?_))
  show wpAny _ _ _ _ _ _
  have look := hi.keeps k
  have bind := (hb (.ref (h.objs.size + 1))).keeps k
  unfold isInstance
  repeat (first
    | with_reducible refine wpAny_loadPart_at got ?_
    | (with_reducible refine wpAny_isSubtype_exc hC1 ?_; rw [self])
    | wp_step)
  show wpAny _ _ (typeLookup (.ref C) _) _ _ _
  refine look.at (wpAny_holding (wpAny_bind (bind.at (wpAny_bind (wpAny_call (codeAny_mono hq ?_))))))
  intro r s' z
  match r, z with
  | .error e, z => exact z
  | .ok (.ret v), ⟨e, z⟩ =>
    subst e
    first
      | exact wpAny_pure (wpAny_pure z)
      | (wp_walk; exact z)
theorem mk_call (F : ExcBaseFacts B newId initId bmB) (T : Above B bm) {rest : List Value} {fI : Addr}
    (hC : h.get? C = some (excClassObj nm q C N bs bm hdct sn sub ab col dd k0 k1 k2 k3 k5 newId)) (hi : PySem.W.Looks (model prog w) h (typeLookup (.ref C) "__init__") (some (.ref fI)))
    (hb : ∀ self, PySem.W.Looks (model prog w) h (bindSpecial (.ref fI) self) (.ref fI, [self])) (hz : rest.length ≤ sizeLine)
    (hq : codeAny (model prog w) (A.under (.builtin "type.__call__" ⟨.ref C :: rest, []⟩)) (.call (.ref fI) ⟨.ref (h.objs.size + 1) :: rest, []⟩) (PySem.W.InitBack (h.objs.size + 1) R)
      ⟨(h.push (PySem.W.kdv_tup rest)).push (PySem.HandSPX.excO C h.objs.size), g, d, t, os⟩) : codeAny (model prog w) A (.call (.ref C) ⟨rest, []⟩) R ⟨h, g, d, t, os⟩ := by
  have l1 := tc_lookup
  have l2 := tc_bind (.ref C)
  have ty : (⟨h, g, d, t, os⟩ : Shared).TypeIs (.ref C) "type" := ⟨_, hC, rfl⟩
  refine codeAny_of_tree ?_
  show wpAny _ _ (callAny (.ref C) _) _ _ _
  repeat (any_goals (first
    | assumption
    | with_reducible refine wpAny_loadPart_at hC ?_
    | wp_step))
  refine ⟨rfl, codeAny_call_builtin_at (Code.quiet_builtin _ (by decide +kernel)) entry_typeCall (wpAny_check_type_call_sub hC (mk_type F T hC hi hb hz (codeAny_mono hq ?_)))⟩
  intro r s' z
  rcases r with e | (v | _ | _ | _) <;> exact z
end
/-! ### own exceptions over any built-in class, with fields -/
section
open Builtin Builtin.ObjectAttr
/-- what the written part says of such a class -/
structure OexB (K : PySem.W.Frag) (C : Addr) : Prop where
  made : ∃ (B newId initId : String) (bmB bm : List Value) (nm q : Str) (N : Addr) (bs : List Value) (hdct : Bool) (sn : List Str) (sub : List Value) (ab : Bool) (col : Option Bool) (dd : Option Addr) (k0 k1 k2 k3 k5 : Option Value),
    PySem.ExcBaseFacts B newId initId bmB ∧ Above B bm ∧ K.lookup C = some (excClassObj nm q C N bs bm hdct sn sub ab col dd k0 k1 k2 k3 k5 newId)
  st : ∃ (T : String) (bmT : List Value), PySem.StoreFacts T bmT "object.__setattr__" "object" ∧ PySem.W.excOver K C bmT = true
  hd : PySem.W.hasDictIn K C = true
  sa : PySem.W.findIn K (.ref C) "__setattr__" = some (some (.builtin "object.__setattr__"))
  exC : PySem.W.subIn K (.ref C) (.type "BaseException") = some true
  tyC : PySem.W.typeIn K (.ref C) = some (.type "type")
  kC : PySem.W.keepIn K (.ref C) = true
theorem OexB.cd {K : PySem.W.Frag} {C : Addr} (T : OexB K C) : ∃ cd, PySem.W.clsIn K C = some cd ∧ cd.hasDict = true := PySem.W.any_some T.hd
theorem taker_none {K : PySem.W.Frag} {C : Addr} {f : Str} (h : PySem.W.findIn K (.ref C) f = some none) : PySem.W.takerIn K C f = some none := by
  unfold PySem.W.takerIn
  rw [h]
  rfl
variable {prog : Program} {w : World} {A : Around} {R : Result → Shared → Prop} {hp : Heap} {g : Array GenState} {d : Drawn} {t : Nat} {os : OsState} {K : PySem.W.Frag} {name : Str} {tk : Tok} {v : Value} {x C : Addr} {fv : Array Value}
theorem sa_first (T : OexB K C) (X : K.In hp) (hx : hp.get? x = some { cls := .ref C, data := .fields fv }) (ha : PySem.W.findIn K (.ref C) name = some none)
    (hq : ∀ h' tk' dx, (∀ b o, b ≠ x → hp.get? b = some o → h'.get? b = some o) → hp.objs.size ≤ dx → dx ≠ x → h'.get? x = some { cls := .ref C, dict := some dx, data := .fields fv } → h'.Ns1 dx (fun y => if y = name then some v else none) → R (.ok (.ret .none)) ⟨h', g, d, tk', os⟩) :
    codeAny (model prog w) A (.call (.builtin "object.__setattr__") ⟨[.ref x, .str name tk, v], []⟩) R ⟨hp, g, d, t, os⟩ := by
  obtain ⟨TT, bmT, SF, ov⟩ := T.st
  obtain ⟨cd, hcd, hdd⟩ := T.cd
  have I : PySem.W.InstAt hp x { cls := .ref C, data := .fields fv } C none := ⟨hx, rfl, rfl, trivial⟩
  have hxs : x ≠ hp.objs.size := Nat.ne_of_lt (Heap.lt_size hx)
  refine PySem.W.osa_openX SF X I ov (taker_none ha) (fun b => ?_)
  have lc : PySem.W.Looks (model prog w) hp (classData C) cd := PySem.W.looks_clsIn X hcd
  obtain ⟨z1, z2, z3, z4, z5, z6, z7, z8, z9, z10, z11⟩ := cd
  dsimp only at hdd
  subst hdd
  show wpAny _ _ (storeInOwnDict (.ref x) (.ref C) (.str name tk) name v b) _ _ _
  unfold storeInOwnDict ownDictForStores
  cases b <;>
  · repeat (first | with_reducible refine PySem.HandSPX.store_in_new ?_ ?_ | with_reducible refine wpAny_loadPart_at hx ?_ | with_reducible refine lc.at ?_ | wp_step)
    · exact ⟨_, #[], _, (Heap.get?_update_ne _ _ _ _ hxs.symm).trans (Heap.get?_push_at rfl rfl), rfl, fun e he => absurd he (by simp), fun _ => rfl⟩
    · intro h' tk' hn' hs
      have hx1 : (hp.push { cls := .type "dict", data := .dict #[] }).get? x = some { cls := .ref C, data := .fields fv } := Heap.get?_push_of_some _ hx
      refine hq h' tk' hp.objs.size ?_ (Nat.le_refl _) hxs.symm ?_ hn'
      · intro b o hb ho
        have e1 := hs.2 b (Nat.ne_of_lt (Heap.lt_size ho))
        rw [e1, Heap.get?_update_ne _ _ _ _ hb]
        exact Heap.get?_push_of_some _ ho
      · rw [hs.2 x hxs]
        exact Heap.get?_update_self _ hx1 rfl
theorem sa_further {dx : Addr} {m0 : Str → Option Value} {nl : List Str} (T : OexB K C) (X : K.In hp) (hx : hp.get? x = some { cls := .ref C, dict := some dx, data := .fields fv }) (hns : hp.Ns1 dx m0) (hw : Within m0 nl) (hz : nl.length ≤ 1000) (ha : PySem.W.findIn K (.ref C) name = some none)
    (hq : ∀ h' tk', (∀ b o, b ≠ dx → hp.get? b = some o → h'.get? b = some o) → h'.Ns1 dx (fun y => if y = name then some v else m0 y) → R (.ok (.ret .none)) ⟨h', g, d, tk', os⟩) :
    codeAny (model prog w) A (.call (.builtin "object.__setattr__") ⟨[.ref x, .str name tk, v], []⟩) R ⟨hp, g, d, t, os⟩ := by
  obtain ⟨TT, bmT, SF, ov⟩ := T.st
  obtain ⟨cd, hcd, hdd⟩ := T.cd
  obtain ⟨oD, _, _, hoD, _, _⟩ := hns.count hw
  have I : PySem.W.InstAt hp x { cls := .ref C, dict := some dx, data := .fields fv } C (some oD) := ⟨hx, rfl, rfl, hoD⟩
  refine PySem.W.osa_openX SF X I ov (taker_none ha) (fun b => ?_)
  have lc : PySem.W.Looks (model prog w) hp (classData C) cd := PySem.W.looks_clsIn X hcd
  obtain ⟨z1, z2, z3, z4, z5, z6, z7, z8, z9, z10, z11⟩ := cd
  dsimp only at hdd
  subst hdd
  show wpAny _ _ (storeInOwnDict (.ref x) (.ref C) (.str name tk) name v b) _ _ _
  unfold storeInOwnDict ownDictForStores
  cases b <;>
  · repeat (first | with_reducible refine PySem.OEX.store_in_old hns hw hz ?_ | with_reducible refine wpAny_loadPart_at hx ?_ | with_reducible refine lc.at ?_ | wp_step)
    intro h' tk' hn' hs
    exact hq h' tk' (fun b o hb ho => (hs.2 b hb).trans ho) hn'
end
section
variable {X : Cx} {pins : List (Addr × Obj)} {σ : L2.St} {H : Hp} {s : Shared} {a C dx : Addr} {f : Str} {y : V} {u : Value} {fs : List (Str × V)} {Q : Unit → Shared → Prop} {E : Value → Shared → Prop} {A : Around}
theorem put_first (T : OexB X.K C) (I : Inv X pins σ H s) (e : H a = some (exo a C none)) (hno : PySem.W.findIn X.K (.ref C) f = some none) (ry : RelV y u)
    (h : ∀ dx s', H dx = none → dx ≠ a → Inv X pins σ (upd (upd H dx (exd dx [(f, y)])) a (exo a C (some dx))) s' → Q () s') : wpAny (model X.prog X.w) A (setAttr (.ref a) f u) Q E s := by
  obtain ⟨t1, ho⟩ := exo_at I.hok e
  obtain ⟨hp, g, d, t, os⟩ := s
  refine PySem.W.set_plain I.kIn (od := none) ⟨ho, rfl, rfl, trivial⟩ T.sa (sa_first T I.kIn ho hno ?_)
  intro h' tk' dx k big ne hx hn
  have fresh : H dx = none := I.hok.fresh big
  have notd : ∀ {b : Addr} {o : Obj}, hp.get? b = some o → b ≠ dx := by
    intro b o q
    exact Nat.ne_of_lt (Nat.lt_of_lt_of_le (Heap.lt_size q) big)
  have nota : ∀ {b : Addr}, H b = none → b ≠ a := by
    intro b n z
    rw [z, e] at n
    cases n
  have step : Un X.fs [] H (upd (upd H dx (exd dx [(f, y)])) a (exo a C (some dx))) hp h' := by
    constructor
    case keep => exact fun b o q n _ _ => k b o (nota n) q
    case slot => exact fun b o q n _ _ => ⟨o.slots, k b o (nota n) q⟩
    case free =>
      intro b o q n _
      rw [upd_ne (nota n), upd_ne (notd q)]
      exact n
    case there =>
      intro b o q _
      by_cases hb : b = a
      · subst hb
        exact ⟨_, hx⟩
      · exact ⟨o, k b o hb q⟩
    case tups =>
      intro b xs q
      rw [upd_ne (at_ne e q exo_tup), upd_ne (ne_of_none q fresh)]
      exact q
    case frzs =>
      intro b o v q
      rw [upd_ne (at_ne e q exo_frz), upd_ne (ne_of_none q fresh)]
      exact q
    case tbls =>
      intro b ps q
      refine ⟨#[], ?_⟩
      rw [upd_ne (at_ne e q exo_tbl), upd_ne (ne_of_none q fresh), q]
      simp
  refine h dx _ fresh ne (I.un (t' := tk') step ?_)
  intro b o q
  by_cases hb : b = a
  · subst hb
    rw [upd_same] at q
    cases q
    exact exo_ok hx
  rw [upd_ne hb] at q
  by_cases hd : b = dx
  · subst hd
    rw [upd_same] at q
    cases q
    exact exd_ok hn (relO_put (fs := []) ry fun _ => True.intro)
  rw [upd_ne hd] at q
  refine (I.hok b o q).stay (fun c v hc z => k c v ?_ z) (fun c hc => ?_) (fun c xs hc => ?_)
  · rcases hc with rfl | hc
    · exact hb
    · exact at_ne e hc exo_own
  · rw [upd_ne (at_ne e hc exo_own), upd_ne (ne_of_none hc fresh)]
    exact hc
  · rw [upd_ne (at_ne e hc exo_tup), upd_ne (ne_of_none hc fresh)]
    exact hc
theorem put_further (T : OexB X.K C) (I : Inv X pins σ H s) (e : H a = some (exo a C (some dx))) (ed : H dx = some (exd dx fs)) (hl : fs.length ≤ 900) (hno : PySem.W.findIn X.K (.ref C) f = some none) (ry : RelV y u)
    (h : ∀ s', Inv X pins σ (upd H dx (exd dx ((f, y) :: fs))) s' → Q () s') : wpAny (model X.prog X.w) A (setAttr (.ref a) f u) Q E s := by
  obtain ⟨t1, ho⟩ := exo_at I.hok e
  obtain ⟨mA, hns, rel⟩ := exd_at I.hok ed
  have hw := within_of rel
  obtain ⟨hp, g, d, t, os⟩ := s
  obtain ⟨oD, _, _, hoD, _, _⟩ := hns.count hw
  refine PySem.W.set_plain I.kIn (od := some oD) ⟨ho, rfl, rfl, hoD⟩ T.sa (sa_further T I.kIn ho hns hw ?_ hno ?_)
  · rw [List.length_map]
    omega
  · intro h' tk' k hn
    have there : ∃ o, h'.get? dx = some o := by
      obtain ⟨o, _, _, e', _⟩ := hn
      exact ⟨o, e'⟩
    refine h _ (I.write (t' := tk') (x := dx) (e := dx) (o := exd dx ((f, y) :: fs)) ?_ (.inl rfl) k there (exd_ok hn (relO_put ry rel)))
    rw [ed]
    exact True.intro
end
/-- self.f = y in the __init__ of an exception -/
def tPut (K : PySem.W.Frag) (f : Str) (to te : TE) : TS := fun D σ H => te σ H fun y H1 => to σ H1 fun x H2 => ∃ a C : Addr, x = .ref a ∧ OexB K C ∧ PySem.W.findIn K (.ref C) f = some none ∧
  ((H2 a = some (exo a C none) ∧ ∀ dx, H2 dx = none → dx ≠ a → D.nx σ (upd (upd H2 dx (exd dx [(f, y)])) a (exo a C (some dx)))) ∨
    ∃ (dx : Addr) (fs : List (Str × V)), H2 a = some (exo a C (some dx)) ∧ H2 dx = some (exd dx fs) ∧ fs.length ≤ 900 ∧ D.nx σ (upd H2 dx (exd dx ((f, y) :: fs))))
section
variable {X : Cx} {o e : Expr} {es : List Expr} {to te : TE} {ta : TA} {f : Str} {p p' pos : Pos}
theorem ps_put (ho : PE X o to) (he : PE X e te) (hs : swapsWith e (some (.Attribute o f p')) pos.line X.env = pure false := by rfl) : PS X (.Assign [.Attribute o f p'] e pos) (tPut X.K f to te) := by
  constructor
  intro pins s σ H D I h
  refine plainObj_wpAny_Assign_Attribute (thn (he.run pins s σ H _ I h) ?_) hs
  rintro v s1 ⟨y, H1, I1, r1, q1⟩
  refine thn (ho.run pins s1 σ H1 _ I1 q1) ?_
  rintro u s2 ⟨x, H2, I2, r2, a, C, rfl, T, hno, q⟩
  obtain rfl : u = Value.ref a := r2
  rcases q with ⟨ea, q⟩ | ⟨dx, fs, ea, ed, hl, q⟩
  · exact put_first T I2 ea hno r1 fun dx s' n ne J => ⟨σ, _, J, q dx n ne⟩
  · exact put_further T I2 ea ed hl hno r1 fun s' J => ⟨σ, _, J, q⟩
/-- C(e, ..) of such a class, to be raised -/
theorem pmk_oexB {CX : CXT} {x : Str} {C fI : Addr} {k : Nat} {fd : FuncData} {ps : List Str} {sp : Sp} (T : OexB X.K C) (iC : PySem.W.findIn X.K (.ref C) "__init__" = some (some (.ref fI))) (tI : PySem.W.typeIn X.K (.ref fI) = some (.type "function"))
    (G : FnOk X.prog X.w X.K X.mg X.base CX k fI fd ps sp) (hr : Room (k + 1) X.A) (hb : Binds X.K fd ps []) (hx : Passes CX X (fun _ _ _ => False)) (hg : Gl X x) (hm : X.mg x = some (.ref C)) (ha : PA X (e :: es) ta)
    (hdb : (x == ("__debug__" : Str)) = false := by decide) (he : starEach (e :: es) X.env = (false, eval e X.env) :: starEach es X.env := by rfl) (hpl : (backTo pos (starEach es X.env)).any (·.1) = false := by rfl) :
    PMk X (.Call (.Name x p) (e :: es) [] pos) (tMkO C sp [] ta) := by
  intro pins s σ H Q I h
  obtain ⟨B, newId, initId, bmB, bm, nm, qn, N, bs, hdct, sn, sub, ab, col, dd, k0, k1, k2, k3, k5, FB, hT, hC0⟩ := T.made
  refine wpAny_Call_Name_kw (ld_glob I hg hm ?_ hdb)
  refine PySem.W.callWith_K (h₀ := X.base) I.ok.mod.kin T.kC (thn (ha.run pos pins s σ H _ I h) ?_) he hpl
  rintro us s1 ⟨vs, H1, I1, r1, hz, q1⟩
  refine ⟨I1.kIn, ?_⟩
  show wpAny _ _ (call (.ref C) us) _ _ _
  obtain ⟨hp, g, dr, tk, os⟩ := s1
  have hC := I1.kIn _ _ hC0
  let A1 := hp.objs.size + 1
  let hp2 := (hp.push (PySem.W.kdv_tup us)).push (PySem.HandSPX.excO C hp.objs.size)
  have big : hp.objs.size ≤ A1 := Nat.le_succ _
  have q2 := q1 A1 (I1.hok.fresh big)
  have kk : ∀ b o, hp.get? b = some o → hp2.get? b = some o := fun b o e => Heap.get?_push_of_some _ (Heap.get?_push_of_some _ e)
  have got : hp2.get? A1 = some (PySem.HandSPX.excO C hp.objs.size) := by
    show ((hp.push (PySem.W.kdv_tup us)).push (PySem.HandSPX.excO C hp.objs.size)).get? (hp.objs.size + 1) = _
    heap_get
  have I2 : Inv X pins σ (upd H1 A1 (exo A1 C none)) ⟨hp2, g, dr, tk, os⟩ := I1.laid (t' := tk) (a := A1) (o := exo A1 C none) (h' := hp2) kk big (exo_ok got)
  have r2 : Vals (V.ref A1 :: (vs ++ [])) (Value.ref A1 :: us) := by
    rw [List.append_nil]
    exact .cons rfl r1
  have hlen : (Value.ref A1 :: us).length = ps.length := by
    rw [← r2.length]
    exact G.len _ _ _ _ q2
  have hus : us.length ≤ sizeLine := by
    rw [← Paired.length r1, sizeLine_eq]
    omega
  have bd := hb ⟨hp2, g, dr, tk, os⟩ (Value.ref A1 :: us) I2.kIn (by rw [List.append_nil]; exact hlen)
  rw [List.append_nil] at bd
  refine wpAny_call (mk_call FB hT hC (PySem.W.looks_findIn I1.kIn iC) (fun self => PySem.W.bind_fn I1.kIn self tI) hus ?_)
  refine codeAny_mono (G.run _ X.stack _ _ ⟨Value.ref A1 :: us, []⟩ (Value.ref A1 :: us) _ _ (fun _ _ _ => False) (hr.make C us []) (I2.env0.make C us []) bd r2 q2) ?_
  intro r s' hq'
  match r, hq' with
  | .error er, hq' => exact hx pins σ _ _ er s' I2 hq'
  | .ok (.ret u), ⟨v, H2, os2, bare2, un2, hok2, rv, ev, d, fs, ea, ed, hd1, q3⟩ =>
    subst ev
    obtain ⟨h2, g2, d2, t2, os'⟩ := s'
    exact ⟨rv, mk_end (raises_own T.exC T.tyC) I1 big kk un2 hok2 os2 bare2 ea ed hd1 q3⟩
end
/-! ### a kept exception, looked at -/
/-- at a stands a kept exception of the class C with these fields -/
def KeptE (H : Hp) (a C : Addr) (fs : List (Str × V)) : Prop := ∃ dd : Addr, H a = some (keptX (.ref C) (some dd) a) ∧ H dd = some (.xd fs)
theorem keptE_inst {X : Cx} {pins : List (Addr × Obj)} {σ : L2.St} {H : Hp} {s : Shared} {a C : Addr} {fs : List (Str × V)} (I : Inv X pins σ H s) (h : KeptE H a C fs) : ∃ (ox od : Obj), PySem.W.InstAt s.heap a ox C (some od) ∧
    ∀ f, ∃ u, RelO (fs.lookup f) u ∧ PySem.W.lookIn f od = some u := by
  obtain ⟨dd, ea, ed⟩ := h
  obtain ⟨oe, vs, ho, hz, hd⟩ := keptX_at I.hok ea
  have hx : ObjOk X.prog X.w H s.heap dd (.xd fs) := I.hok dd _ ed
  obtain ⟨mA, hns, hr⟩ := hx
  obtain ⟨od, h1, hl⟩ := lookIn_ns hns
  refine ⟨oe, od, ⟨ho, hz.1, ?_, ?_⟩, fun f => ⟨mA f, hr f, hl f⟩⟩
  · unfold PySem.W.notCls
    rw [hd] <;> rfl
  · rw [hz.2]
    exact h1
/-- e.f, e a kept exception -/
def tFldX (K : PySem.W.Frag) (f : Str) (te : TE) : TE := fun σ H Q => te σ H fun x H1 => ∃ (a C : Addr) (fs : List (Str × V)) (v : V), x = .ref a ∧ XfC K C ∧ PySem.W.findIn K (.ref C) f = some none ∧ KeptE H1 a C fs ∧ fs.lookup f = some v ∧ Q v H1
theorem pe_fldX {X : Cx} {e : Expr} {te : TE} {pos : Pos} {n : Str} (he : PE X e te) (hb : attributeBase e n X.env (eval e X.env) = eval e X.env := by rfl) : PE X (.Attribute e n pos) (tFldX X.K n te) := by
  constructor
  intro pins s σ H Q I h
  refine attr_of hb (thn (he.run pins s σ H _ I h) ?_)
  rintro u s1 ⟨x, H1, I1, rx, a, C, fs, v, rfl, T, hno, hk, l, q⟩
  obtain rfl : u = Value.ref a := rx
  obtain ⟨ox, od, J, look⟩ := keptE_inst I1 hk
  obtain ⟨m, r, hl⟩ := look n
  obtain ⟨u, hu, ru⟩ := RelO.some_of (v := v) (o := m) (by rw [← l]; exact r)
  exact HandSPX.exc_get I1.kIn J T.ga T.gg T.exC (PySem.W.findObj_own T.hdC hno rfl (by rw [hl, hu])) (handed_of ru) ⟨v, H1, I1.tok _, ru, q⟩
theorem keptE_kit {K : PySem.W.Frag} {a C : Addr} {od : Option Obj} {ox : Obj} (T : ExcC K C) : PySem.W.KitX K (.ref a) (.ref C) (fun h => PySem.W.InstAt h a ox C od) := by
  obtain ⟨cd, hc, _⟩ := PySem.W.any_some T.hd
  exact PySem.W.kitx_exc (by rw [hc]; rfl) T.hg T.hk T.hs T.ha T.hn T.ht T.hm
/-- isinstance(e, c) of a kept exception, or of what the layer knows already -/
def rIsO (K : PySem.W.Frag) : List V → Hp → VK → Prop := fun xs H Q => rIsi K xs H Q ∨ ∃ (a C : Addr) (fs : List (Str × V)) (c : V) (u : Value) (b : Bool), xs = [.ref a, c] ∧ KeptE H a C fs ∧ ExcC K C ∧ ClsV c u ∧ PySem.W.kitOne K (.ref C) u = some b ∧ Q (.bl b) H
theorem call_isO {X : Cx} : CallR X (.builtin "isinstance") (rIsO X.K) := by
  intro pins s σ H xs us Q I r h
  rcases h with h | ⟨a, C, fs, c, u, b, rfl, hk, T, k, e, q⟩
  · exact call_isi pins s σ H xs us Q I r h
  obtain ⟨u1, u2, rfl, r1, r2⟩ := vals2 r
  obtain rfl : u1 = Value.ref a := r1
  have e2 := k.eq r2
  subst e2
  obtain ⟨ox, od, J, _⟩ := keptE_inst I hk
  exact PySem.W.kia_one (keptE_kit T) I.kIn J e (fun z => nomatch z) fun tk => ⟨.bl b, H, I.tok tk, rfl, q⟩
/-- isinstance(e, (c1, c2, ..)) of a kept exception, or of what the layer knows already -/
def rIsOT (K : PySem.W.Frag) : List V → Hp → VK → Prop := fun xs H Q => rIsiT K xs H Q ∨ ∃ (a C : Addr) (fs : List (Str × V)) (tp : Addr) (cs : List V) (us : List Value) (b : Bool), xs = [.ref a, .ref tp] ∧ KeptE H a C fs ∧ ExcC K C ∧ H tp = some (.tup cs) ∧ Paired ClsV cs us ∧
  PySem.W.kitAny K (.ref C) us = some b ∧ Q (.bl b) H
theorem call_isOT {X : Cx} : CallR X (.builtin "isinstance") (rIsOT X.K) := by
  intro pins s σ H xs us Q I r h
  rcases h with h | ⟨a, C, fs, tp, cs, ws, b, rfl, hk, T, hT, k, e, q⟩
  · exact call_isiT pins s σ H xs us Q I r h
  obtain ⟨u1, u2, rfl, r1, r2⟩ := vals2 r
  obtain rfl : u1 = Value.ref a := r1
  obtain rfl : u2 = Value.ref tp := r2
  obtain ⟨ox, od, J, _⟩ := keptE_inst I hk
  have ht : ObjOk X.prog X.w H s.heap tp (.tup cs) := I.hok tp _ hT
  obtain ⟨_, its, rv, o, h1, h2, n, h3⟩ := ht
  have e3 := ClsV.all k rv
  subst e3
  obtain ⟨oc, od', dt, sl⟩ := o
  simp only at h2 h3
  subst h2 h3
  exact PySem.W.kia_tup (keptE_kit T) I.kIn J h1 e (fun z => nomatch z) fun tk => ⟨.bl b, H, I.tok tk, rfl, q⟩
/-! ### an object made that may refuse -/
section
variable {X : Cx} {CX : CXT} {k : Nat} {f C : Addr} {fd : FuncData} {ps : List Str} {sp : Sp} {dvs : List V} {ds : List Value} {E : L2.St → XK} {x : Str} {p pos : Pos} {e : Expr} {es : List Expr} {t : TA}
def tMakeS (C : Addr) (sp : Sp) (dvs : List V) (E : L2.St → XK) (t : TA) : TE := fun σ H Q => t σ H fun vs H1 => ∀ x dx, H1 x = none → H1 dx = none → dx ≠ x → sp (.ref x :: (vs ++ dvs)) (upd (upd H1 dx (.own x)) x (.ins C dx [])) (fun v H2 => v = .non ∧ Q (.ref x) H2) (E σ)
theorem pe_makeS (M : Mk X.K C f) (G : FnOk X.prog X.w X.K X.mg X.base CX k f fd ps sp) (hr : Room (k + 1) X.A) (hg : Gl X x) (hm : X.mg x = some (.ref C)) (hb : Binds X.K fd ps ds) (hd : Vals dvs ds) (hx : ∀ σ, PassesAt CX X σ (E σ))
    (ha : PA X (e :: es) t) (hdb : (x == ("__debug__" : Str)) = false := by decide) (he : starEach (e :: es) X.env = (false, eval e X.env) :: starEach es X.env := by rfl) (hpl : (backTo pos (starEach es X.env)).any (·.1) = false := by rfl) :
    PE X (.Call (.Name x p) (e :: es) [] pos) (tMakeS C sp dvs E t) := by
  constructor
  intro pins s σ H Q I h
  refine wpAny_Call_Name_kw (ld_glob I hg hm ?_ hdb)
  refine PySem.W.callWith_K (h₀ := X.base) I.ok.mod.kin M.kp (thn (ha.run pos pins s σ H _ I h) ?_) he hpl
  rintro us s1 ⟨vs, H1, I1, r, q⟩
  refine ⟨I1.kIn, ?_⟩
  have q2 := q (s1.heap.objs.size + 1) s1.heap.objs.size (I1.hok.fresh (Nat.le_succ _)) (I1.hok.fresh (Nat.le_refl _)) (Nat.ne_of_lt (Nat.lt_succ_self _))
  have J := Inv.made (C := C) I1
  have r2 : Vals (V.ref (s1.heap.objs.size + 1) :: (vs ++ dvs)) (Value.ref (s1.heap.objs.size + 1) :: (us ++ ds)) := .cons rfl (r.append hd)
  have hl : (Value.ref (s1.heap.objs.size + 1) :: us ++ ds).length = ps.length := by
    have e := r2.length
    rw [G.len _ _ _ _ q2] at e
    exact e.symm
  refine wpAny_call (make_map (f := f) I1.kIn M.makes M.init (beq_iff_eq.mp M.fn) (codeAny_mono (G.run _ X.stack _ _ ⟨Value.ref (s1.heap.objs.size + 1) :: us, []⟩ (Value.ref (s1.heap.objs.size + 1) :: (us ++ ds)) _ _ (E σ) (hr.make C us [])
    (J.env0.make C us []) (hb _ (Value.ref (s1.heap.objs.size + 1) :: us) J.kIn hl) r2 q2) ?_))
  intro r s' hq
  match r, hq with
  | .error er, hq => exact hx σ pins _ _ er s' J hq
  | .ok (.ret u), hq =>
    obtain ⟨v, H', I3, rv, ev, q3⟩ := J.after hq
    subst ev
    exact ⟨rv, ⟨V.ref (s1.heap.objs.size + 1), H', I3, rfl, q3⟩⟩
end
theorem oex_of {K : PySem.W.Frag} {B newId initId : String} {nm q : Str} {C N : Addr} {bs bm : List Value} {sn : List Str} {sub : List Value} {ab : Bool} {col : Option Bool} {dd : Option Addr} {m0 m1 m2 m3 m5 : Option Value}
    (FB : PySem.ExcBaseFacts B newId initId bm) (SF : PySem.StoreFacts B bm "object.__setattr__" "object") (xL : K.lookup C = some (excClassObj nm q C N bs bm true sn sub ab col dd m0 m1 m2 m3 m5 newId)) (ht : PySem.W.excTail bm bm = true)
    (hd : PySem.W.hasDictIn K C = true) (sa : PySem.W.findIn K (.ref C) "__setattr__" = some (some (.builtin "object.__setattr__"))) (exC : PySem.W.subIn K (.ref C) (.type "BaseException") = some true) (tyC : PySem.W.typeIn K (.ref C) = some (.type "type")) (kC : PySem.W.keepIn K (.ref C) = true) : OexB K C := by
  refine ⟨⟨B, newId, initId, bm, bm, nm, q, N, bs, true, sn, sub, ab, col, dd, m0, m1, m2, m3, m5, FB, ⟨FB.hasB, FB.noAttr, FB.noName⟩, xL⟩, ⟨B, bm, SF, ?_⟩, hd, sa, exC, tyC, kC⟩
  unfold PySem.W.excOver PySem.W.clsIn
  rw [xL]
  simp [excClassObj, ht]
/-- KeyError: stores by its own facts, made by LookupError's __new__ -/
abbrev keyTail : List Value := [.type "KeyError", .type "LookupError", .type "Exception", .type "BaseException", .type "object"]
theorem store_KeyError : PySem.StoreFacts "KeyError" keyTail "object.__setattr__" "object" :=
  ⟨by kernel_rfl, .of (n := "__setattr__") (owner := "object") (by rw [typeLookup_type, builtinLookup_eq_fast]; kernel_rfl) (by decide +kernel) (by decide +kernel) (by decide +kernel) (.inl (by decide +kernel)) (by rw [isSubtype_type]; kernel_rfl),
    PySem.F.entry_object_sa, by decide +kernel, by decide +kernel, by decide +kernel, fun a b c => by unfold argsOk; kernel_rfl, fun self => by kernel_rfl⟩
theorem oex_key {K : PySem.W.Frag} {nm q : Str} {C N : Addr} {bs : List Value} {sn : List Str} {sub : List Value} {ab : Bool} {col : Option Bool} {dd : Option Addr} {m0 m1 m2 m3 m5 : Option Value}
    (xL : K.lookup C = some (excClassObj nm q C N bs keyTail true sn sub ab col dd m0 m1 m2 m3 m5 "LookupError.__new__"))
    (hd : PySem.W.hasDictIn K C = true) (sa : PySem.W.findIn K (.ref C) "__setattr__" = some (some (.builtin "object.__setattr__"))) (exC : PySem.W.subIn K (.ref C) (.type "BaseException") = some true) (tyC : PySem.W.typeIn K (.ref C) = some (.type "type")) (kC : PySem.W.keepIn K (.ref C) = true) : OexB K C := by
  refine ⟨⟨"LookupError", _, _, _, keyTail, nm, q, N, bs, true, sn, sub, ab, col, dd, m0, m1, m2, m3, m5, PySem.F.excBase_LookupError, ⟨by decide +kernel, by decide +kernel, by decide +kernel⟩, xL⟩, ⟨"KeyError", keyTail, store_KeyError, ?_⟩, hd, sa, exC, tyC, kC⟩
  unfold PySem.W.excOver PySem.W.clsIn
  rw [xL]
  simp [excClassObj, show PySem.W.excTail keyTail keyTail = true by decide +kernel]
theorem kit_up {K : PySem.W.Frag} {C : Addr} {T : String} (m : PySem.W.kitMeta T = true) (s : PySem.W.subIn K (.ref C) (.type T) = some true) : PySem.W.kitOne K (.ref C) (.type T) = some true := by
  show (if (Value.ref C == Value.type T) = true then some true else if PySem.W.kitMeta T = true then PySem.W.subIn K (.ref C) (.type T) else none) = some true
  rw [if_neg (by intro z; cases z), if_pos m]
  exact s
theorem kit_cls2 {K : PySem.W.Frag} {C D : Addr} {b : Bool} (ic : PySem.W.isClsIn K D = true) (ty : PySem.W.typeIn K (.ref D) = some (.type "type")) (s : PySem.W.subIn K (.ref C) (.ref D) = some b) : PySem.W.kitCls K (.ref C) (.ref D) = some b := by
  have ic' : (PySem.W.clsIn K D).isSome = true := ic
  have e : ((PySem.W.clsIn K D).isSome && PySem.W.typeIn K (.ref D) == some (.type "type")) = true := by rw [ic', ty]; rfl
  show (if ((PySem.W.clsIn K D).isSome && PySem.W.typeIn K (.ref D) == some (.type "type")) = true then PySem.W.subIn K (.ref C) (.ref D) else none) = some b
  rw [if_pos e]
  exact s
theorem kit_other {K : PySem.W.Frag} {C D : Addr} (self : PySem.W.subIn K (.ref C) (.ref C) = some true) (ic : PySem.W.isClsIn K D = true) (ty : PySem.W.typeIn K (.ref D) = some (.type "type")) (s : PySem.W.subIn K (.ref C) (.ref D) = some false) : PySem.W.kitOne K (.ref C) (.ref D) = some false := by
  have ne : ¬ (Value.ref C == Value.ref D) = true := by
    intro z
    have e := eq_of_beq z
    injection e with e
    subst e
    rw [self] at s
    cases s
  show (if (Value.ref C == Value.ref D) = true then some true else PySem.W.kitCls K (.ref C) (.ref D)) = some false
  rw [if_neg ne]
  exact kit_cls2 ic ty s
theorem exm_hit {K : PySem.W.Frag} {C : Addr} (ex : PySem.W.subIn K (.ref C) (.type "BaseException") = some true) (ic : PySem.W.isClsIn K C = true) (ty : PySem.W.typeIn K (.ref C) = some (.type "type")) (s : PySem.W.subIn K (.ref C) (.ref C) = some true) : PySem.W.exmOne K (.ref C) (.ref C) = some true := by
  show (if (PySem.W.subIn K (.ref C) (.type "BaseException") == some true) = true then PySem.W.kitCls K (.ref C) (.ref C) else none) = some true
  rw [if_pos (by rw [ex]; rfl)]
  exact kit_cls2 ic ty s
theorem any_no {K : PySem.W.Frag} {t c : Value} {cs : List Value} (h : PySem.W.kitOne K t c = some false) (r : PySem.W.kitAny K t cs = some false) : PySem.W.kitAny K t (c :: cs) = some false := kitAny_cons h (fun _ => r) (fun z => nomatch z)
/-! ### a block by a reading of one's own -/
theorem pss_imp {X : Cx} {b : List Stmt} {t t' : TS} (h : PSs X b t) (i : ∀ D σ H, t' D σ H → t D σ H) : PSs X b t' := ⟨fun pins s σ H D I z => h.run pins s σ H D I (i _ _ _ z)⟩
/-! ### o.m(e, .., k = v, ..), what is raised wished for at the caller's slots -/
section
variable {X : Cx} {CX : CXT} {k n : Nat} {f C : Addr} {fd : FuncData} {ps ks : List Str} {sp : Sp} {E : L2.St → XK} {m : Str} {apos pos : Pos} {o e : Expr} {es : List Expr} {kws : List Keyword} {ta : TE} {t tk : TA} {g : List Value → List Value → List Value} {gV : List V → List V → List V}
theorem passNo {P : Program} {w : World} {σ : L2.St} (hP : X.prog = P) (hw : X.w = w) : PassesAt (L2.CX P w) X σ E0 := by
  intro pins H s e s' I h
  obtain ⟨_, _, _, _, _, _, _, _, _, _, _, _, z⟩ := h
  exact (show False from z).elim
theorem run_kbn {pins : List (Addr × Obj)} {σ : L2.St} {H : Hp} {s : Shared} {Q : VK} {us ws : List Value} {vs zs : List V} (F : FnOk X.prog X.w X.K X.mg X.base CX k f fd ps sp) (hr : Room k X.A) (hb : KBn X.K fd ps n ks g gV) (hx : PassesAt CX X σ (E σ))
    (I : L2.Inv X pins σ H s) (r : Vals vs us) (rz : Vals zs ws) (l1 : vs.length = n) (l2 : zs.length = ks.length) (h : sp (gV vs zs) H Q (E σ)) : wpAny (model X.prog X.w) X.A (call (.ref f) us (ks.zip ws)) (EP X pins σ Q) X.xe s := by
  have bd := hb.to s us ws I.kIn (r.length.symm.trans l1) (rz.length.symm.trans l2)
  refine wpAny_call (codeAny_mono (F.run X.A X.stack s H ⟨us, ks.zip ws⟩ (g us ws) (gV vs zs) Q (E σ) hr I.env0 bd (hb.rel r rz) h) fun z s' hz => ?_)
  match z, hz with
  | .error er, hz => exact hx pins H s er s' I hz
  | .ok (.ret u), hz => exact I.after hz
  | .ok .next, hz => exact (show False from hz).elim
  | .ok .brk, hz => exact (show False from hz).elim
  | .ok .cont, hz => exact (show False from hz).elim
def tMethA (C : Addr) (m : Str) (n nk : Nat) (sp : Sp) (gV : List V → List V → List V) (E : L2.St → XK) (ta : TE) (t tk : TA) : TE := fun σ H Q => ta σ H fun x H1 => ∃ a dx fs, x = .ref a ∧ H1 a = some (.ins C dx fs) ∧ fs.lookup m = none ∧
  t σ H1 fun vs H2 => tk σ H2 fun zs H3 => vs.length = n ∧ zs.length = nk ∧ sp (gV (.ref a :: vs) zs) H3 Q (E σ)
theorem pe_methA {pl : Sem Bool} (he : PE X o ta) (c : Cls X.K C) (hm : Meth X.K C m f) (F : FnOk X.prog X.w X.K X.mg X.base CX k f fd ps sp) (hr : Room k X.A) (hb : KBn X.K fd ps (n + 1) ks g gV) (hx : ∀ σ, PassesAt CX X σ (E σ))
    (ha : PA X (e :: es) t) (hkw : PK X kws tk) (n1 : (backToKw pos (keywordEach kws X.env)).all (·.1.isSome) = true := by rfl) (n2 : (backToKw pos (keywordEach kws X.env)).filterMap (·.1) = ks := by rfl)
    (n3 : starEach (e :: es) X.env = (false, eval e X.env) :: starEach es X.env := by rfl) (n4 : ((backTo pos (starEach (e :: es) X.env)).any (·.1) || (backToKw pos (keywordEach kws X.env)).any (·.1.isNone)) = false := by rfl)
    (n5 : eval (.Call (.Attribute o m apos) (e :: es) kws pos) X.env = (do
      let ov ← eval o X.env
      standAt apos.atName
      let (f, first) ← holding [ov] (getMethod ov m pl)
      callWith pos f first (backTo pos (starEach (e :: es) X.env)) (backToKw pos (keywordEach kws X.env))) := by rfl) :
    PE X (.Call (.Attribute o m apos) (e :: es) kws pos) (tMethA C m n ks.length sp gV E ta t tk) := by
  constructor
  intro pins s σ H Q I h
  refine PySem.W.methodCall_KW (pl := pl) (thn (he.run pins s σ H _ I h) ?_) n5
  rintro u s1 ⟨x, H1, I1, rx, a, dx, fs, rfl, ea, l, q⟩
  cases (show u = Value.ref a from rx)
  refine getmeth_ok I1 ea c hm l ?_
  refine PySem.W.callWith_KW (first := [.ref a]) (h₀ := X.base) I.ok.mod.kin hm.kp n1 (thn (ha.run pos pins s1 σ H1 _ I1 q) ?_) n4 n3
  rintro us s2 ⟨vs, H2, I2, r, q2⟩
  refine thn (hkw.run pos pins s2 σ H2 _ I2 q2) ?_
  rintro ws s3 ⟨zs, H3, I3, rz, l1, l2, q3⟩
  refine ⟨I3.kIn, ?_⟩
  rw [n2]
  exact run_kbn (us := .ref a :: us) (vs := .ref a :: vs) F hr hb (hx σ) I3 (.cons rfl r) rz (congrArg Nat.succ l1) l2 q3
/-- o.m(k = v, ..) -/
theorem pe_methA0 {pl : Sem Bool} (he : PE X o ta) (c : Cls X.K C) (hm : Meth X.K C m f) (F : FnOk X.prog X.w X.K X.mg X.base CX k f fd ps sp) (hr : Room k X.A) (hb : KBn X.K fd ps 1 ks g gV) (hx : ∀ σ, PassesAt CX X σ (E σ))
    (hkw : PK X kws tk) (n1 : (backToKw pos (keywordEach kws X.env)).all (·.1.isSome) = true := by rfl) (n2 : (backToKw pos (keywordEach kws X.env)).filterMap (·.1) = ks := by rfl)
    (n4 : ((backTo pos (starEach [] X.env)).any (·.1) || (backToKw pos (keywordEach kws X.env)).any (·.1.isNone)) = false := by rfl)
    (n5 : eval (.Call (.Attribute o m apos) [] kws pos) X.env = (do
      let ov ← eval o X.env
      standAt apos.atName
      let (f, first) ← holding [ov] (getMethod ov m pl)
      callWith pos f first (backTo pos (starEach [] X.env)) (backToKw pos (keywordEach kws X.env))) := by rfl) :
    PE X (.Call (.Attribute o m apos) [] kws pos) (tMethA C m 0 ks.length sp gV E ta tNil tk) := by
  constructor
  intro pins s σ H Q I h
  refine PySem.W.methodCall_KW (pl := pl) (thn (he.run pins s σ H _ I h) ?_) n5
  rintro u s1 ⟨x, H1, I1, rx, a, dx, fs, rfl, ea, l, q⟩
  cases (show u = Value.ref a from rx)
  refine getmeth_ok I1 ea c hm l ?_
  refine PySem.W.callWith_KW0 (first := [.ref a]) (h₀ := X.base) I.ok.mod.kin hm.kp n1 ?_ n4
  refine thn (hkw.run pos pins s1 σ H1 _ I1 q) ?_
  rintro ws s3 ⟨zs, H3, I3, rz, l1, l2, q3⟩
  refine ⟨I3.kIn, ?_⟩
  rw [n2]
  exact run_kbn (us := [.ref a]) (vs := [.ref a]) F hr hb (hx σ) I3 (.cons rfl .nil) rz rfl l2 q3
/-- places alone, as a case of both -/
theorem kbn_of {K : Frag} {ds : List Value} {dvs : List V} (hb : L2.Binds K fd ps ds) (hd : Vals dvs ds) (hn : n + ds.length = ps.length) : KBn K fd ps n [] (fun us _ => us ++ ds) (fun vs _ => vs ++ dvs) :=
  ⟨fun s us ws X l1 l2 => hb s us X (by rw [List.length_append, l1, hn]), fun a _ => a.append hd⟩
end
/-! ### max(xs, default=d) of a list of ints -/
section
variable {prog : Program} {w : World} {A : Around} {R : Result → Shared → Prop} {I : Addr} {fp wr : List Addr} {n : Nat} {Pi : Nat → Value → Prop} {St : Nat → Heap → Prop}
theorem max_turns (W : Walks prog w A.in1 I fp wr n Pi St) (bt : Nat → Nat → Bool) (cm : CmpOf prog w A.in1 .Gt Pi bt) (S : Addr) (out : S ∉ fp) (kw : List (Str × Value)) : ∀ (k j : Nat) (s : Shared) (vb : Value) (c : Nat), n - (j + 1) = k → j + 1 ≤ n → St (j + 1) s.heap → Pi (argBest bt j) vb →
    s.heap.get? S = some { cls := .type "list", dict := none, data := .seq #[vb, vb] c, slots := #[] } →
    (∀ v h' tk, Pi (argBest bt (n - 1)) v → (∀ b o, b ∉ wr → b ≠ S → s.heap.get? b = some o → h'.get? b = some o) → R (.ok (.ret v)) { s with heap := h', toks := tk }) → codeAny (model prog w) A (.builtin "max.loop" ⟨[.ref I, .none, .ref S], kw⟩) R s := by
  have outW : S ∉ wr := fun z => out (W.sub _ z)
  have nm : (toString "max" ++ toString ".loop" : String) = "max.loop" := by decide
  intro k
  induction k with
  | zero =>
    intro j s vb c hk hj st hP hS q
    have last : j + 1 = n := by omega
    refine codeAny_builtin PySem.F.entry_max_loop ?_; rw [Around.under_plainId PySem.F.plain_max_loop _]
    show wpAny _ A.in1 (seqItems? (.ref S) >>= _) _ _ s; refine wpAny_bind (wpAny_seqItems hS rfl ?_)
    show wpAny _ A.in1 (tryCatch (pyNext (.ref I)) _ >>= _) _ _ s; refine wpAny_bind (wpAny_tryCatch (W.done s _ _ (last ▸ st) fun h' tk kk => ?_))
    have hS2 := kk S _ outW hS
    show wpAny _ A.in1 (updateSeq S (fun _ => #[]) >>= _) _ _ _; refine wpAny_bind (wpAny_updateSeq hS2 rfl (wpAny_bind (wpAny_letGo (wpAny_pure ?_))))
    exact q vb _ tk (by rw [← last]; exact hP) fun b o nb nS e => (Heap.get?_update_other _ _ (Ne.symm nS)).trans (kk b o nb e)
  | succ k ih =>
    intro j s vb c hk hj st hP hS q
    have more : j + 1 < n := by omega
    refine codeAny_builtin PySem.F.entry_max_loop ?_; rw [Around.under_plainId PySem.F.plain_max_loop _]
    show wpAny _ A.in1 (seqItems? (.ref S) >>= _) _ _ s; refine wpAny_bind (wpAny_seqItems hS rfl ?_)
    show wpAny _ A.in1 (tryCatch (pyNext (.ref I)) _ >>= _) _ _ s; refine wpAny_bind (wpAny_tryCatch (W.item (j + 1) s _ _ more st fun v h' tk hv st2 kk => ?_))
    have hS2 := kk S _ outW hS
    show wpAny _ A.in1 (tryCatch (holding [v, v] (richCompare .Gt v vb >>= _)) _ >>= _) _ _ _; refine wpAny_bind (wpAny_tryCatch (wpAny_holding (wpAny_bind (cm (j + 1) (argBest bt j) v vb _ _ _ hv hP ?_))))
    refine wpAny_bind (wpAny_holding (wpAny_truthy_bool (wpAny_bind (wpAny_letGo (wpAny_pure ?_)))))
    cases hb : bt (j + 1) (argBest bt j) with
    | true =>
      simp only [if_true]; refine wpAny_bind (wpAny_updateSeq hS2 rfl (wpAny_bind (wpAny_letGo ?_))); rw [nm]
      refine wpAny_pure ⟨plainId_quiet PySem.F.plain_max_loop _, ih (j + 1) _ v _ (by omega) more (W.frame _ _ _ st2 fun b nb o e => ?_) (by simp only [argBest, hb, if_true]; exact hv) (Heap.get?_update_self _ hS2 rfl) fun v3 h3 tk3 hv3 kk3 => ?_⟩
      · exact (Heap.get?_update_other _ _ (fun z : S = b => out (by rw [z]; exact nb))).trans e
      · exact q v3 h3 tk3 hv3 fun b o nb nS e => kk3 b o nb nS ((Heap.get?_update_other _ _ (Ne.symm nS)).trans (kk b o nb e))
    | false =>
      simp only [Bool.false_eq_true, if_false]; refine wpAny_bind (wpAny_letGo ?_); rw [nm]
      refine wpAny_pure ⟨plainId_quiet PySem.F.plain_max_loop _, ih (j + 1) _ vb c (by omega) more st2 (by simp only [argBest, hb, Bool.false_eq_true, if_false]; exact hP) hS2 fun v3 h3 tk3 hv3 kk3 => ?_⟩
      exact q v3 h3 tk3 hv3 fun b o nb nS e => kk3 b o nb nS (kk b o nb e)
theorem max_first (W : Walks prog w A.in1 I fp wr n Pi St) (bt : Nat → Nat → Bool) (cm : CmpOf prog w A.in1 .Gt Pi bt) (S : Addr) (out : S ∉ fp) (kw : List (Str × Value)) (hn : 0 < n) {s : Shared} {c : Nat} (st : St 0 s.heap)
    (hS : s.heap.get? S = some { cls := .type "list", dict := none, data := .seq #[] c, slots := #[] })
    (q : ∀ v h' tk, Pi (argBest bt (n - 1)) v → (∀ b o, b ∉ wr → b ≠ S → s.heap.get? b = some o → h'.get? b = some o) → R (.ok (.ret v)) { s with heap := h', toks := tk }) : codeAny (model prog w) A (.builtin "max.loop" ⟨[.ref I, .none, .ref S], kw⟩) R s := by
  have outW : S ∉ wr := fun z => out (W.sub _ z)
  have nm : (toString "max" ++ toString ".loop" : String) = "max.loop" := by decide
  refine codeAny_builtin PySem.F.entry_max_loop ?_; rw [Around.under_plainId PySem.F.plain_max_loop _]
  show wpAny _ A.in1 (seqItems? (.ref S) >>= _) _ _ s; refine wpAny_bind (wpAny_seqItems hS rfl ?_)
  show wpAny _ A.in1 (tryCatch (pyNext (.ref I)) _ >>= _) _ _ s; refine wpAny_bind (wpAny_tryCatch (W.item 0 s _ _ hn st fun v h' tk hv st2 kk => ?_))
  have hS2 := kk S _ outW hS
  show wpAny _ A.in1 (updateSeq S (fun _ => #[v, v]) >>= _) _ _ _; refine wpAny_bind (wpAny_updateSeq hS2 rfl ?_); rw [nm]
  refine wpAny_pure ⟨plainId_quiet PySem.F.plain_max_loop _, max_turns W bt cm S out kw _ 0 _ v _ rfl hn (W.frame _ _ _ st2 fun b nb o e => ?_) hv (Heap.get?_update_self _ hS2 rfl) fun v3 h3 tk3 hv3 kk3 => ?_⟩
  · exact (Heap.get?_update_other _ _ (fun z : S = b => out (by rw [z]; exact nb))).trans e
  · exact q v3 h3 tk3 hv3 fun b o nb nS e => kk3 b o nb nS ((Heap.get?_update_other _ _ (Ne.symm nS)).trans (kk b o nb e))
theorem max_empty (W : Walks prog w A.in1 I fp wr 0 Pi St) (S : Addr) (out : S ∉ fp) (d : Value) {s : Shared} {c : Nat} (st : St 0 s.heap)
    (hS : s.heap.get? S = some { cls := .type "list", dict := none, data := .seq #[] c, slots := #[] })
    (q : ∀ h' tk, (∀ b o, b ∉ wr → s.heap.get? b = some o → h'.get? b = some o) → R (.ok (.ret d)) { s with heap := h', toks := tk }) : codeAny (model prog w) A (.builtin "max.loop" ⟨[.ref I, .none, .ref S], [(Str.ofString "default", d)]⟩) R s := by
  refine codeAny_builtin PySem.F.entry_max_loop ?_; rw [Around.under_plainId PySem.F.plain_max_loop _]
  show wpAny _ A.in1 (seqItems? (.ref S) >>= _) _ _ s; refine wpAny_bind (wpAny_seqItems hS rfl ?_)
  show wpAny _ A.in1 (tryCatch (pyNext (.ref I)) _ >>= _) _ _ s; refine wpAny_bind (wpAny_tryCatch (W.done s _ _ st fun h' tk kk => ?_))
  refine wpAny_bind (wpAny_rule ?_)
  exact wpAny_pure (q h' tk kk)
end
section
variable {prog : Program} {w : World} {A : Around} {E : Value → Shared → Prop} {s : Shared} {l : Addr} {its : List Value} {ns : List Int} {Q : Value → Shared → Prop}
theorem max_args (a v : Value) : argsOk "max" ⟨[a], [(Str.ofString "default", v)]⟩ := by unfold argsOk; kernel_rfl
theorem max_dflt (d : Value) (hh : A.handled = none) (hl : s.heap.IsList l its.toArray) (hi : IntsAre its ns)
    (q0 : ns = [] → ∀ h' tk, (∀ b o, s.heap.get? b = some o → h'.get? b = some o) → Q d { s with heap := h', toks := tk })
    (q1 : ∀ h' tk M t', (∀ b o, s.heap.get? b = some o → h'.get? b = some o) → M ∈ ns → (∀ a, a ∈ ns → a ≤ M) → Q (.int M t') { s with heap := h', toks := tk }) : wpAny (model prog w) A (call (.builtin "max") [.ref l] [(Str.ofString "default", d)]) Q E s := by
  obtain ⟨xs, e⟩ := hi.allInts.items
  have hn : numsOf (intItems xs).toList = ns := by rw [← e]; exact hi.numsOf
  rw [nums_intItems] at hn
  subst hn
  rw [e] at hl
  have nm : (toString "max" ++ toString ".loop" : String) = "max.loop" := by decide
  refine kmk_tree PySem.F.kind_max PySem.F.plain_max PySem.F.entry_max (max_args _ _) ?_
  show wpAny _ A.in1 (Builtin.Builtins.bindParams "max" ["key", "default"] 0 ⟨[], [(Str.ofString "default", d)]⟩ >>= _) _ _ s
  refine wpAny_bind (wpAny_of_eq (show Builtin.Builtins.bindParams "max" ["key", "default"] 0 ⟨[], [(Str.ofString "default", d)]⟩ = pure [none, some d] from rfl) (wpAny_bind (wpAny_pure (wpAny_bind ?_))))
  refine iter_intList hl fun s₂ es st hfp hlI => ?_
  subst es
  refine wpAny_bind (wpAny_newObj_type ?_); rw [nm]
  have out : (s.heap.push { cls := .type "list_iterator", data := .fields #[.ref l, .int 0 0] }).objs.size ∉ [s.heap.objs.size, l] := fun z => Nat.lt_irrefl _ (hfp _ z)
  have W := Walks.list (prog := prog) (w := w) (A := A.in1) hh s.heap.objs.size l hlI (intItems xs)
  have hsz : (intItems xs).size = xs.size := by simp [intItems]
  rcases Nat.eq_zero_or_pos xs.size with z | z
  · have ez : (xs.toList.map (·.1)) = [] := by
      have : xs = #[] := Array.eq_empty_of_size_eq_zero z
      rw [this]; rfl
    rw [hsz, z] at W
    refine wpAny_pure ⟨plainId_quiet PySem.F.plain_max_loop _, max_empty W _ out d (W.frame _ _ _ st fun b _ o e => Heap.get?_push_of_some _ e) (Heap.get?_push_size _ rfl) fun h' tk kk => ?_⟩
    exact q0 ez h' tk (old_kept fun b o nb e => kk b o nb (Heap.get?_push_of_some _ e))
  · refine wpAny_pure ⟨plainId_quiet PySem.F.plain_max_loop _, max_first W _ (CmpOf.ints_gt (numAt xs) (fun _ _ => intItems_at)) _ out _ (by rw [hsz]; exact z) (W.frame _ _ _ st fun b _ o e => Heap.get?_push_of_some _ e) (Heap.get?_push_size _ rfl) fun v h' tk hv kk => ?_⟩
    rw [hsz] at hv
    obtain ⟨t, rfl⟩ := intItems_at hv
    obtain ⟨h1, h2⟩ := argBest_gt (numAt xs) (xs.size - 1)
    refine q1 h' tk _ t (old_kept fun b o nb e => kk b o nb (Nat.ne_of_lt (Heap.lt_size e)) (Heap.get?_push_of_some _ e)) ?_ fun a ha => ?_
    · rw [numAt_eq]; exact PySem.getD_mem (by rw [List.length_map, Array.length_toList]; omega)
    · obtain ⟨j, hj, rfl⟩ := mem_getD ha
      rw [List.length_map, Array.length_toList] at hj
      rw [← numAt_eq]; exact h2 j (by omega)
/-- max(xs, default=d): d of none -/
def rDmax (K : PySem.W.Frag) : List V → List V → Hp → VK → Prop := fun vs zs H Q => ∃ (a : Addr) (ns : List Int) (d : V), vs = [V.ref a] ∧ zs = [d] ∧ SqL K H a (ns.map V.int) ∧ (ns = [] → Q d H) ∧ ∀ M, M ∈ ns → (∀ a, a ∈ ns → a ≤ M) → Q (.int M) H
theorem call_Dmax {X : Cx} (hc : X.calm = true) : CallRK X (.builtin "max") ["default"] (rDmax X.K) := by
  intro pins s σ H xs zs us ws Q I r rz h
  obtain ⟨a, ns, d, rfl, rfl, hs, q0, q1⟩ := h
  obtain ⟨its, rv, hl, _⟩ := I.list hs
  obtain ⟨ud, rfl, rd⟩ := Vals.one rz
  rw [Vals.ref1 r]
  exact max_dflt ud (I.ok.hd hc) hl.isList rv.ints (fun e h' tk hk => ⟨d, H, I.kept hk, rd, q0 e⟩) fun h' tk M t' hk h1 h2 => ⟨.int _, H, I.kept hk, ⟨_, rfl⟩, q1 M h1 h2⟩
end
/-! ### min(xs, default=d) of a list of ints -/
section
variable {prog : Program} {w : World} {A : Around} {R : Result → Shared → Prop} {I : Addr} {fp wr : List Addr} {n : Nat} {Pi : Nat → Value → Prop} {St : Nat → Heap → Prop}
theorem min_turns (W : Walks prog w A.in1 I fp wr n Pi St) (bt : Nat → Nat → Bool) (cm : CmpOf prog w A.in1 .Lt Pi bt) (S : Addr) (out : S ∉ fp) (kw : List (Str × Value)) : ∀ (k j : Nat) (s : Shared) (vb : Value) (c : Nat), n - (j + 1) = k → j + 1 ≤ n → St (j + 1) s.heap → Pi (argBest bt j) vb →
    s.heap.get? S = some { cls := .type "list", dict := none, data := .seq #[vb, vb] c, slots := #[] } →
    (∀ v h' tk, Pi (argBest bt (n - 1)) v → (∀ b o, b ∉ wr → b ≠ S → s.heap.get? b = some o → h'.get? b = some o) → R (.ok (.ret v)) { s with heap := h', toks := tk }) → codeAny (model prog w) A (.builtin "min.loop" ⟨[.ref I, .none, .ref S], kw⟩) R s := by
  have outW : S ∉ wr := fun z => out (W.sub _ z)
  have nm : (toString "min" ++ toString ".loop" : String) = "min.loop" := by decide
  intro k
  induction k with
  | zero =>
    intro j s vb c hk hj st hP hS q
    have last : j + 1 = n := by omega
    refine codeAny_builtin PySem.F.entry_min_loop ?_; rw [Around.under_plainId PySem.F.plain_min_loop _]
    show wpAny _ A.in1 (seqItems? (.ref S) >>= _) _ _ s; refine wpAny_bind (wpAny_seqItems hS rfl ?_)
    show wpAny _ A.in1 (tryCatch (pyNext (.ref I)) _ >>= _) _ _ s; refine wpAny_bind (wpAny_tryCatch (W.done s _ _ (last ▸ st) fun h' tk kk => ?_))
    have hS2 := kk S _ outW hS
    show wpAny _ A.in1 (updateSeq S (fun _ => #[]) >>= _) _ _ _; refine wpAny_bind (wpAny_updateSeq hS2 rfl (wpAny_bind (wpAny_letGo (wpAny_pure ?_))))
    exact q vb _ tk (by rw [← last]; exact hP) fun b o nb nS e => (Heap.get?_update_other _ _ (Ne.symm nS)).trans (kk b o nb e)
  | succ k ih =>
    intro j s vb c hk hj st hP hS q
    have more : j + 1 < n := by omega
    refine codeAny_builtin PySem.F.entry_min_loop ?_; rw [Around.under_plainId PySem.F.plain_min_loop _]
    show wpAny _ A.in1 (seqItems? (.ref S) >>= _) _ _ s; refine wpAny_bind (wpAny_seqItems hS rfl ?_)
    show wpAny _ A.in1 (tryCatch (pyNext (.ref I)) _ >>= _) _ _ s; refine wpAny_bind (wpAny_tryCatch (W.item (j + 1) s _ _ more st fun v h' tk hv st2 kk => ?_))
    have hS2 := kk S _ outW hS
    show wpAny _ A.in1 (tryCatch (holding [v, v] (richCompare .Lt v vb >>= _)) _ >>= _) _ _ _; refine wpAny_bind (wpAny_tryCatch (wpAny_holding (wpAny_bind (cm (j + 1) (argBest bt j) v vb _ _ _ hv hP ?_))))
    refine wpAny_bind (wpAny_holding (wpAny_truthy_bool (wpAny_bind (wpAny_letGo (wpAny_pure ?_)))))
    cases hb : bt (j + 1) (argBest bt j) with
    | true =>
      simp only [if_true]; refine wpAny_bind (wpAny_updateSeq hS2 rfl (wpAny_bind (wpAny_letGo ?_))); rw [nm]
      refine wpAny_pure ⟨plainId_quiet PySem.F.plain_min_loop _, ih (j + 1) _ v _ (by omega) more (W.frame _ _ _ st2 fun b nb o e => ?_) (by simp only [argBest, hb, if_true]; exact hv) (Heap.get?_update_self _ hS2 rfl) fun v3 h3 tk3 hv3 kk3 => ?_⟩
      · exact (Heap.get?_update_other _ _ (fun z : S = b => out (by rw [z]; exact nb))).trans e
      · exact q v3 h3 tk3 hv3 fun b o nb nS e => kk3 b o nb nS ((Heap.get?_update_other _ _ (Ne.symm nS)).trans (kk b o nb e))
    | false =>
      simp only [Bool.false_eq_true, if_false]; refine wpAny_bind (wpAny_letGo ?_); rw [nm]
      refine wpAny_pure ⟨plainId_quiet PySem.F.plain_min_loop _, ih (j + 1) _ vb c (by omega) more st2 (by simp only [argBest, hb, Bool.false_eq_true, if_false]; exact hP) hS2 fun v3 h3 tk3 hv3 kk3 => ?_⟩
      exact q v3 h3 tk3 hv3 fun b o nb nS e => kk3 b o nb nS (kk b o nb e)
theorem min_first (W : Walks prog w A.in1 I fp wr n Pi St) (bt : Nat → Nat → Bool) (cm : CmpOf prog w A.in1 .Lt Pi bt) (S : Addr) (out : S ∉ fp) (kw : List (Str × Value)) (hn : 0 < n) {s : Shared} {c : Nat} (st : St 0 s.heap)
    (hS : s.heap.get? S = some { cls := .type "list", dict := none, data := .seq #[] c, slots := #[] })
    (q : ∀ v h' tk, Pi (argBest bt (n - 1)) v → (∀ b o, b ∉ wr → b ≠ S → s.heap.get? b = some o → h'.get? b = some o) → R (.ok (.ret v)) { s with heap := h', toks := tk }) : codeAny (model prog w) A (.builtin "min.loop" ⟨[.ref I, .none, .ref S], kw⟩) R s := by
  have outW : S ∉ wr := fun z => out (W.sub _ z)
  have nm : (toString "min" ++ toString ".loop" : String) = "min.loop" := by decide
  refine codeAny_builtin PySem.F.entry_min_loop ?_; rw [Around.under_plainId PySem.F.plain_min_loop _]
  show wpAny _ A.in1 (seqItems? (.ref S) >>= _) _ _ s; refine wpAny_bind (wpAny_seqItems hS rfl ?_)
  show wpAny _ A.in1 (tryCatch (pyNext (.ref I)) _ >>= _) _ _ s; refine wpAny_bind (wpAny_tryCatch (W.item 0 s _ _ hn st fun v h' tk hv st2 kk => ?_))
  have hS2 := kk S _ outW hS
  show wpAny _ A.in1 (updateSeq S (fun _ => #[v, v]) >>= _) _ _ _; refine wpAny_bind (wpAny_updateSeq hS2 rfl ?_); rw [nm]
  refine wpAny_pure ⟨plainId_quiet PySem.F.plain_min_loop _, min_turns W bt cm S out kw _ 0 _ v _ rfl hn (W.frame _ _ _ st2 fun b nb o e => ?_) hv (Heap.get?_update_self _ hS2 rfl) fun v3 h3 tk3 hv3 kk3 => ?_⟩
  · exact (Heap.get?_update_other _ _ (fun z : S = b => out (by rw [z]; exact nb))).trans e
  · exact q v3 h3 tk3 hv3 fun b o nb nS e => kk3 b o nb nS ((Heap.get?_update_other _ _ (Ne.symm nS)).trans (kk b o nb e))
theorem min_empty (W : Walks prog w A.in1 I fp wr 0 Pi St) (S : Addr) (out : S ∉ fp) (d : Value) {s : Shared} {c : Nat} (st : St 0 s.heap)
    (hS : s.heap.get? S = some { cls := .type "list", dict := none, data := .seq #[] c, slots := #[] })
    (q : ∀ h' tk, (∀ b o, b ∉ wr → s.heap.get? b = some o → h'.get? b = some o) → R (.ok (.ret d)) { s with heap := h', toks := tk }) : codeAny (model prog w) A (.builtin "min.loop" ⟨[.ref I, .none, .ref S], [(Str.ofString "default", d)]⟩) R s := by
  refine codeAny_builtin PySem.F.entry_min_loop ?_; rw [Around.under_plainId PySem.F.plain_min_loop _]
  show wpAny _ A.in1 (seqItems? (.ref S) >>= _) _ _ s; refine wpAny_bind (wpAny_seqItems hS rfl ?_)
  show wpAny _ A.in1 (tryCatch (pyNext (.ref I)) _ >>= _) _ _ s; refine wpAny_bind (wpAny_tryCatch (W.done s _ _ st fun h' tk kk => ?_))
  refine wpAny_bind (wpAny_rule ?_)
  exact wpAny_pure (q h' tk kk)
end
section
variable {prog : Program} {w : World} {A : Around} {E : Value → Shared → Prop} {s : Shared} {l : Addr} {its : List Value} {ns : List Int} {Q : Value → Shared → Prop}
theorem min_args (a v : Value) : argsOk "min" ⟨[a], [(Str.ofString "default", v)]⟩ := by unfold argsOk; kernel_rfl
theorem min_dflt (d : Value) (hh : A.handled = none) (hl : s.heap.IsList l its.toArray) (hi : IntsAre its ns)
    (q0 : ns = [] → ∀ h' tk, (∀ b o, s.heap.get? b = some o → h'.get? b = some o) → Q d { s with heap := h', toks := tk })
    (q1 : ∀ h' tk M t', (∀ b o, s.heap.get? b = some o → h'.get? b = some o) → M ∈ ns → (∀ a, a ∈ ns → M ≤ a) → Q (.int M t') { s with heap := h', toks := tk }) : wpAny (model prog w) A (call (.builtin "min") [.ref l] [(Str.ofString "default", d)]) Q E s := by
  obtain ⟨xs, e⟩ := hi.allInts.items
  have hn : numsOf (intItems xs).toList = ns := by rw [← e]; exact hi.numsOf
  rw [nums_intItems] at hn
  subst hn
  rw [e] at hl
  have nm : (toString "min" ++ toString ".loop" : String) = "min.loop" := by decide
  refine kmk_tree PySem.F.kind_min PySem.F.plain_min PySem.F.entry_min (min_args _ _) ?_
  show wpAny _ A.in1 (Builtin.Builtins.bindParams "min" ["key", "default"] 0 ⟨[], [(Str.ofString "default", d)]⟩ >>= _) _ _ s
  refine wpAny_bind (wpAny_of_eq (show Builtin.Builtins.bindParams "min" ["key", "default"] 0 ⟨[], [(Str.ofString "default", d)]⟩ = pure [none, some d] from rfl) (wpAny_bind (wpAny_pure (wpAny_bind ?_))))
  refine iter_intList hl fun s₂ es st hfp hlI => ?_
  subst es
  refine wpAny_bind (wpAny_newObj_type ?_); rw [nm]
  have out : (s.heap.push { cls := .type "list_iterator", data := .fields #[.ref l, .int 0 0] }).objs.size ∉ [s.heap.objs.size, l] := fun z => Nat.lt_irrefl _ (hfp _ z)
  have W := Walks.list (prog := prog) (w := w) (A := A.in1) hh s.heap.objs.size l hlI (intItems xs)
  have hsz : (intItems xs).size = xs.size := by simp [intItems]
  rcases Nat.eq_zero_or_pos xs.size with z | z
  · have ez : (xs.toList.map (·.1)) = [] := by
      have : xs = #[] := Array.eq_empty_of_size_eq_zero z
      rw [this]; rfl
    rw [hsz, z] at W
    refine wpAny_pure ⟨plainId_quiet PySem.F.plain_min_loop _, min_empty W _ out d (W.frame _ _ _ st fun b _ o e => Heap.get?_push_of_some _ e) (Heap.get?_push_size _ rfl) fun h' tk kk => ?_⟩
    exact q0 ez h' tk (old_kept fun b o nb e => kk b o nb (Heap.get?_push_of_some _ e))
  · refine wpAny_pure ⟨plainId_quiet PySem.F.plain_min_loop _, min_first W _ (CmpOf.ints_lt (numAt xs) (fun _ _ => intItems_at)) _ out _ (by rw [hsz]; exact z) (W.frame _ _ _ st fun b _ o e => Heap.get?_push_of_some _ e) (Heap.get?_push_size _ rfl) fun v h' tk hv kk => ?_⟩
    rw [hsz] at hv
    obtain ⟨t, rfl⟩ := intItems_at hv
    obtain ⟨h1, h2⟩ := argBest_lt (numAt xs) (xs.size - 1)
    refine q1 h' tk _ t (old_kept fun b o nb e => kk b o nb (Nat.ne_of_lt (Heap.lt_size e)) (Heap.get?_push_of_some _ e)) ?_ fun a ha => ?_
    · rw [numAt_eq]; exact PySem.getD_mem (by rw [List.length_map, Array.length_toList]; omega)
    · obtain ⟨j, hj, rfl⟩ := mem_getD ha
      rw [List.length_map, Array.length_toList] at hj
      rw [← numAt_eq]; exact h2 j (by omega)
/-- min(xs, default=d): d of none -/
def rDmin (K : PySem.W.Frag) : List V → List V → Hp → VK → Prop := fun vs zs H Q => ∃ (a : Addr) (ns : List Int) (d : V), vs = [V.ref a] ∧ zs = [d] ∧ SqL K H a (ns.map V.int) ∧ (ns = [] → Q d H) ∧ ∀ M, M ∈ ns → (∀ a, a ∈ ns → M ≤ a) → Q (.int M) H
theorem call_Dmin {X : Cx} (hc : X.calm = true) : CallRK X (.builtin "min") ["default"] (rDmin X.K) := by
  intro pins s σ H xs zs us ws Q I r rz h
  obtain ⟨a, ns, d, rfl, rfl, hs, q0, q1⟩ := h
  obtain ⟨its, rv, hl, _⟩ := I.list hs
  obtain ⟨ud, rfl, rd⟩ := Vals.one rz
  rw [Vals.ref1 r]
  exact min_dflt ud (I.ok.hd hc) hl.isList rv.ints (fun e h' tk hk => ⟨d, H, I.kept hk, rd, q0 e⟩) fun h' tk M t' hk h1 h2 => ⟨.int _, H, I.kept hk, ⟨_, rfl⟩, q1 M h1 h2⟩
end
/-! ### a stable sort, as a plain function -/
section
open SrtO (Swo Srtd Stb)
variable {α β : Type} {lt : α → α → Bool}
def ins (lt : α → α → Bool) (x : α) : List α → List α
  | [] => [x]
  | y :: r => if lt x y = true then x :: y :: r else y :: ins lt x r
def iSort (lt : α → α → Bool) (l : List α) : List α := l.foldl (fun acc x => ins lt x acc) []
theorem ins_perm (x : α) : ∀ l : List α, (ins lt x l).Perm (x :: l)
  | [] => List.Perm.refl _
  | y :: r => by
    unfold ins
    split
    · exact List.Perm.refl _
    · exact ((ins_perm x r).cons y).trans (List.Perm.swap x y r)
theorem ins_srtd (O : Swo lt) (x : α) : ∀ l : List α, Srtd lt l → Srtd lt (ins lt x l)
  | [], _ => List.pairwise_singleton _ _
  | y :: r, h => by
    have hy := List.pairwise_cons.mp h
    unfold ins
    split
    · rename_i c
      refine List.pairwise_cons.mpr ⟨fun z hz => ?_, h⟩
      rcases List.mem_cons.mp hz with rfl | hz
      · exact O.asym _ _ c
      · exact O.tr x y z (O.asym _ _ c) (hy.1 z hz)
    · rename_i c
      refine List.pairwise_cons.mpr ⟨fun z hz => ?_, ins_srtd O x r hy.2⟩
      rcases List.mem_cons.mp ((ins_perm x r).mem_iff.mp hz) with rfl | hz
      · exact Bool.eq_false_iff.mpr c
      · exact hy.1 z hz
theorem filt_none {p : α → Bool} {l : List α} (h : ∀ x ∈ l, p x = false) : l.filter p = [] := List.filter_eq_nil_iff.mpr fun x hx z => by rw [h x hx] at z; cases z
/-- past what isn't above it, in a class of its own place -/
theorem ins_cls (O : Swo lt) (x z : α) : ∀ l : List α, Srtd lt l → (ins lt x l).filter (SrtO.eqv lt z) = l.filter (SrtO.eqv lt z) ++ [x].filter (SrtO.eqv lt z)
  | [], _ => rfl
  | y :: r, h => by
    have hy := List.pairwise_cons.mp h
    unfold ins
    split
    · rename_i c
      by_cases hx : SrtO.eqv lt z x = true
      · have e := SrtO.eqv_iff.mp hx
        have no : ∀ w ∈ y :: r, SrtO.eqv lt z w = false := fun w hw => by
          apply Bool.eq_false_iff.mpr
          intro q
          have q2 := SrtO.eqv_iff.mp q
          have xw : lt x w = true := by
            rcases List.mem_cons.mp hw with rfl | hw
            · exact c
            · exact O.ltle c (hy.1 w hw)
          have := O.tr w z x q2.1 e.2
          rw [xw] at this; cases this
        rw [List.filter_cons_of_pos hx, filt_none no, List.nil_append, List.filter_cons_of_pos hx]; rfl
      · rw [List.filter_cons_of_neg hx, List.filter_cons_of_neg (l := []) hx]
        simp
    · by_cases hyz : SrtO.eqv lt z y = true
      · rw [List.filter_cons_of_pos hyz, List.filter_cons_of_pos hyz, ins_cls O x z r hy.2]; rfl
      · rw [List.filter_cons_of_neg hyz, List.filter_cons_of_neg hyz, ins_cls O x z r hy.2]
theorem iSort_go (O : Swo lt) : ∀ (l acc : List α), Srtd lt acc → Srtd lt (l.foldl (fun acc x => ins lt x acc) acc) ∧ Stb lt (l.foldl (fun acc x => ins lt x acc) acc) (acc ++ l)
  | [], acc, h => ⟨h, Stb.of_eq (by rw [List.append_nil]; rfl)⟩
  | x :: l, acc, h => by
    obtain ⟨a, b⟩ := iSort_go O l (ins lt x acc) (ins_srtd O x acc h)
    refine ⟨a, b.trans ?_⟩
    have : Stb lt (ins lt x acc) (acc ++ [x]) := ⟨(ins_perm x acc).trans (List.perm_append_comm (l₁ := [x]) (l₂ := acc)), fun z => by rw [ins_cls O x z acc h, List.filter_append]⟩
    have e : acc ++ x :: l = (acc ++ [x]) ++ l := by rw [List.append_assoc]; rfl
    rw [e]
    exact this.app (Stb.refl l)
theorem iSort_ok (O : Swo lt) (l : List α) : Srtd lt (iSort lt l) ∧ Stb lt (iSort lt l) l := iSort_go O l [] List.Pairwise.nil
theorem srt_one (O : Swo lt) : ∀ (l m : List α), Srtd lt l → Srtd lt m → Stb lt l m → l = m
  | [], m, _, _, h => (List.perm_nil.mp h.perm.symm).symm
  | x :: l, [], _, _, h => absurd h.perm.length_eq (by simp)
  | x :: l, y :: m, hl, hm, h => by
    have hx := List.pairwise_cons.mp hl
    have hy := List.pairwise_cons.mp hm
    have yl : y ∈ x :: l := h.perm.mem_iff.mpr List.mem_cons_self
    have xm : x ∈ y :: m := h.perm.mem_iff.mp List.mem_cons_self
    have a : lt y x = false := by
      rcases List.mem_cons.mp yl with rfl | z
      · exact O.refl _
      · exact hx.1 y z
    have b : lt x y = false := by
      rcases List.mem_cons.mp xm with rfl | z
      · exact O.refl _
      · exact hy.1 x z
    have c := h.cls x
    rw [List.filter_cons_of_pos (SrtO.eqv_iff.mpr ⟨O.refl x, O.refl x⟩), List.filter_cons_of_pos (SrtO.eqv_iff.mpr ⟨b, a⟩)] at c
    have exy : x = y := (List.cons.inj c).1
    subst exy
    refine congrArg (x :: ·) (srt_one O l m hx.2 hy.2 ⟨List.Perm.cons_inv h.perm, fun z => ?_⟩)
    have d := h.cls z
    by_cases q : SrtO.eqv lt z x = true
    · rw [List.filter_cons_of_pos q, List.filter_cons_of_pos q] at d
      exact (List.cons.inj d).2
    · rw [List.filter_cons_of_neg q, List.filter_cons_of_neg q] at d
      exact d
theorem srt_iSort (O : Swo lt) {out l : List α} (a : Srtd lt out) (b : Stb lt out l) : out = iSort lt l := by
  obtain ⟨c, d⟩ := iSort_ok O l
  exact srt_one O _ _ a c (b.trans ⟨d.perm.symm, fun z => (d.cls z).symm⟩)
/-- lists side by side are sorted side by side -/
theorem ins_two {lt' : β → β → Bool} {R : α → β → Prop} (hR : ∀ a b a' b', R a b → R a' b' → lt a a' = lt' b b') {x : α} {y : β} (hx : R x y) : ∀ {l : List α} {m : List β}, Paired R l m → Paired R (ins lt x l) (ins lt' y m)
  | _, _, .nil => .cons hx .nil
  | _, _, .cons (a := a) (b := b) r t => by
    unfold ins
    rw [hR _ _ _ _ hx r]
    split
    · exact .cons hx (.cons r t)
    · exact .cons r (ins_two hR hx t)
theorem iSort_two {lt' : β → β → Bool} {R : α → β → Prop} (hR : ∀ a b a' b', R a b → R a' b' → lt a a' = lt' b b') {l : List α} {m : List β} (h : Paired R l m) : Paired R (iSort lt l) (iSort lt' m) := by
  have go : ∀ {l : List α} {m : List β}, Paired R l m → ∀ {acc : List α} {bcc : List β}, Paired R acc bcc → Paired R (l.foldl (fun acc x => ins lt x acc) acc) (m.foldl (fun acc x => ins lt' x acc) bcc) := by
    intro l m h
    induction h with
    | nil => exact fun h => h
    | cons r _ ih => exact fun h2 => ih (ins_two hR r h2)
  exact go h .nil
theorem ins_at (x : α) : ∀ (l : List α) (k : Nat), k ≤ l.length → (∀ j y, j < k → l[j]? = some y → lt x y = false) → (∀ y, l[k]? = some y → lt x y = true) → ins lt x l = l.take k ++ [x] ++ l.drop k
  | [], 0, _, _, _ => rfl
  | [], k + 1, h, _, _ => absurd h (by simp)
  | y :: r, 0, _, _, h => by
    unfold ins
    rw [if_pos (h y rfl)]; rfl
  | y :: r, k + 1, hk, h1, h2 => by
    unfold ins
    rw [if_neg (by rw [h1 0 y (Nat.succ_pos k) rfl]; decide), ins_at x r k (by simpa using hk) (fun j z hj e => h1 (j + 1) z (by omega) e) (fun z e => h2 z e)]
    rfl
theorem srtd_at (O : Swo lt) : ∀ {l : List α}, Srtd lt l → ∀ {i j : Nat} {x y : α}, i < j → l[i]? = some x → l[j]? = some y → lt y x = false
  | [], _, _, _, _, _, _, e, _ => by cases e
  | a :: r, h, 0, 0, _, _, hij, _, _ => absurd hij (by decide)
  | a :: r, h, 0, j + 1, x, y, _, e1, e2 => by
    cases e1
    exact (List.pairwise_cons.mp h).1 y (List.mem_of_getElem? e2)
  | a :: r, h, i + 1, 0, _, _, hij, _, _ => absurd hij (by omega)
  | a :: r, h, i + 1, j + 1, x, y, hij, e1, e2 => srtd_at O (List.pairwise_cons.mp h).2 (i := i) (j := j) (by omega) e1 e2
theorem iSort_succ {l : List α} {i : Nat} {x : α} (h : l[i]? = some x) : iSort lt (l.take (i + 1)) = ins lt x (iSort lt (l.take i)) := by
  unfold iSort
  rw [List.take_succ, h, List.foldl_append]; rfl
theorem ins_len (x : α) (l : List α) : (ins lt x l).length = l.length + 1 := by rw [(ins_perm x l).length_eq]; rfl
theorem iSort_len (l : List α) : (iSort lt l).length = l.length := by
  have go : ∀ (l acc : List α), (l.foldl (fun acc x => ins lt x acc) acc).length = acc.length + l.length := by
    intro l
    induction l with
    | nil => intro acc; rfl
    | cons x r ih => intro acc; rw [List.foldl_cons, ih, ins_len, List.length_cons]; omega
  have := go l []
  unfold iSort
  simpa using this
theorem iSort_mem {x : α} : ∀ {l : List α}, x ∈ iSort lt l ↔ x ∈ l := by
  have go : ∀ (l acc : List α), x ∈ l.foldl (fun acc x => ins lt x acc) acc ↔ x ∈ acc ∨ x ∈ l := by
    intro l
    induction l with
    | nil => intro acc; simp
    | cons y r ih =>
      intro acc
      rw [List.foldl_cons, ih, (ins_perm y acc).mem_iff, List.mem_cons, List.mem_cons]
      constructor
      · rintro ((h | h) | h)
        · exact .inr (.inl h)
        · exact .inl h
        · exact .inr (.inr h)
      · rintro (h | h | h)
        · exact .inl (.inr h)
        · exact .inl (.inl h)
        · exact .inr h
  intro l
  have := go l []
  unfold iSort
  rw [this]; simp
end
/-! ### sorted(xs, key=f), f any callable -/
set_option maxHeartbeats 8000000
section
open SrtO (Swo Srtd Stb lt2 swo2 SortableO)
open PySem.Builtin
/-- from s to s', as behind a call: what stood at s stands, but what is tracked -/
structure Gone (X : Cx) (H : Hp) (s : Shared) (H' : Hp) (s' : Shared) : Prop where
  os : s'.os = s.os
  bare : AllBare s'.gens
  un : Un (frs X.stack) [] H H' s.heap s'.heap
  hok : HOk X.prog X.w H' s'.heap
variable {X : Cx} {pins : List (Addr × Obj)} {σ : L2.St} {H H1 H2 : Hp} {s s1 s2 : Shared}
theorem Gone.refl (I : Inv X pins σ H s) : Gone X H s H s := ⟨rfl, I.bare, Un.refl, I.hok⟩
theorem Gone.inv (I : Inv X pins σ H s) (g : Gone X H s H1 s1) : Inv X pins σ H1 s1 := I.call' g.os g.un g.hok g.bare fun b z => absurd z (by simp)
theorem Gone.on (g : Gone X H s H1 s1) (g2 : Gone X H1 s1 H2 s2) : Gone X H s H2 s2 := ⟨g2.os.trans g.os, g2.bare, g.un.trans g2.un, g2.hok⟩
theorem un_poke {fs ex : List Addr} {h h1 h2 : Heap} {a : Addr} (u : Un fs ex H H1 h h1) (na : h.objs.size ≤ a) (k : ∀ b o, b ≠ a → h1.get? b = some o → h2.get? b = some o) : Un fs ex H H1 h h2 := by
  have ne : ∀ {b : Addr} {o : Obj}, h.get? b = some o → b ≠ a := fun e => Nat.ne_of_lt (Nat.lt_of_lt_of_le (Heap.lt_size e) na)
  exact ⟨fun b o e n f x => k b o (ne e) (u.keep b o e n f x), fun b o e n f x => let ⟨sl, z⟩ := u.slot b o e n f x; ⟨sl, k b _ (ne e) z⟩, u.free, fun b o e x => let ⟨o', z⟩ := u.there b o e x; ⟨o', k b _ (ne e) z⟩, u.tups, u.frzs, u.tbls⟩
theorem hok_poke {P : Program} {w : World} {h1 h2 : Heap} {a : Addr} (x : HOk P w H h1) (n : H a = none) (k : ∀ b o, b ≠ a → h1.get? b = some o → h2.get? b = some o) : HOk P w H h2 := fun b o e =>
  (x b o e).stay (fun c v hc q => k c v (fun z => by
    subst z
    rcases hc with rfl | hc
    · rw [n] at e; cases e
    · rw [n] at hc; cases hc) q) (fun _ q => q) fun _ _ q => q
theorem Gone.poke {a : Addr} {h2 : Heap} {t : Nat} (g : Gone X H s H1 s1) (na : s.heap.objs.size ≤ a) (n : H1 a = none) (k : ∀ b o, b ≠ a → s1.heap.get? b = some o → h2.get? b = some o) : Gone X H s H1 { s1 with heap := h2, toks := t } :=
  ⟨g.os, g.bare, un_poke g.un na k, hok_poke g.hok n k⟩
theorem Gone.kept {h2 : Heap} {t : Nat} (g : Gone X H s H1 s1) (k : ∀ b o, s1.heap.get? b = some o → h2.get? b = some o) : Gone X H s H1 { s1 with heap := h2, toks := t } :=
  ⟨g.os, g.bare, g.un.trans (Un.kept k), g.hok.kept k⟩
theorem nostk (I : Inv X pins σ H s) {a : Addr} (na : s.heap.objs.size ≤ a) : a ∉ frs X.stack := fun z => by
  rcases List.mem_cons.mp (I.stkSub a z) with e | e
  · exact absurd I.lt (by rw [← e]; exact Nat.not_lt.mpr na)
  · exact I.nofs na e
/-- a call of the key, and what stands apart from it -/
def Keyed1 (X : Cx) (A : Around) (q : Value) (v : Value) (H1 : Hp) (s1 : Shared) (R : Hp → Value → Prop) : Prop :=
  wpAny (model X.prog X.w) A (call q [v]) (fun u s2 => ∃ H2, Gone X H1 s1 H2 s2 ∧ R H2 u) (fun _ _ => False) s1
section
variable {a kS : Addr} {q : Value} {vs : List Value} {A : Around} {Pq : PySem.Fin → Shared → Prop} {E : Value → Shared → Prop} {R : Nat → Hp → List Value → Prop} {ltv : Value → Value → Bool}
theorem sk_tail {st : SortSt} {keys : List Value} {e e1 : Nat} (I : Inv X pins σ H s) (g : Gone X H s H1 s1) (na : s.heap.objs.size ≤ a) (nk : s.heap.objs.size ≤ kS) (n1 : H1 a = none) (n2 : H1 kS = none) (nak : kS ≠ a)
    (ea : s1.heap.get? a = some (seqObj "list" #[] e1)) (ek : s1.heap.get? kS = some (seqObj "list" keys.toArray e)) (hz : keys.length ≤ sizeLine) (ho : (arrOf st).size ≤ sizeLine) (hf : failedOf st = none)
    (fin : ∀ s2, Gone X H s H1 s2 → (∃ c, s2.heap.get? a = some (seqObj "list" ((arrOf st).toList.map (·.2)).toArray c)) → Pq (.done (.ret .none)) s2) : wpAny (model X.prog X.w) A (ksk_tail a false e1 (.ref kS) st) Pq E s1 := by
  have b1 := Heap.SameBut.update s1.heap kS (Obj.mapSeq fun _ => (#[] : Array Value))
  have a1 : (s1.heap.update kS (Obj.mapSeq fun _ => (#[] : Array Value))).get? a = some (seqObj "list" #[] e1) := (b1.2 a nak.symm).trans ea
  have b2 := Heap.SameBut.update (s1.heap.update kS (Obj.mapSeq fun _ => (#[] : Array Value))) a (Obj.mapSeq fun _ => (arrOf st).map (·.2))
  have g1 := g.poke (t := s1.toks) (h2 := s1.heap.update kS (Obj.mapSeq fun _ => (#[] : Array Value))) nk n2 fun b o nb z => (b1.2 b nb).trans z
  have g2 := g1.poke (t := s1.toks) (h2 := (s1.heap.update kS (Obj.mapSeq fun _ => (#[] : Array Value))).update a (Obj.mapSeq fun _ => (arrOf st).map (·.2))) na n1 fun b o nb z => (b2.2 b nb).trans z
  unfold ksk_tail
  try dsimp only
  refine wpAny_bind (listUpdate_at ek rfl ?_ (by rw [List.size_toArray]; exact hz) (Nat.zero_le _)); refine wpAny_bind (wpAny_letGo ?_); refine wpAny_bind (seqEpoch_at a1 rfl ?_)
  refine wpAny_bind (listUpdate_at a1 rfl ?_ (Nat.zero_le _) (Nat.le_succ_of_le (by rw [if_neg (by decide), Array.size_map]; exact ho)))
  rw [hf]; simp only [bne_self_eq_false, Bool.false_eq_true, if_false]
  obtain ⟨c2, e3⟩ : ∃ c, ((s1.heap.update kS (Obj.mapSeq fun _ => (#[] : Array Value))).update a (Obj.mapSeq fun _ => (arrOf st).map (·.2))).get? a = some (seqObj "list" ((arrOf st).map (·.2)) c) := ⟨_, get?_update_seq a1 fun _ => (arrOf st).map (·.2)⟩
  have e4 : (arrOf st).map (·.2) = ((arrOf st).toList.map (·.2)).toArray := by rw [← Array.toList_map, Array.toArray_toList]
  exact wpAny_pure (fin _ g2 ⟨c2, e3.trans (by rw [e4])⟩)
theorem sk_end {keys : List Value} {e e1 : Nat} (O : Swo ltv) (I : Inv X pins σ H s) (g : Gone X H s H1 s1) (na : s.heap.objs.size ≤ a) (nk : s.heap.objs.size ≤ kS) (n1 : H1 a = none) (n2 : H1 kS = none) (nak : kS ≠ a)
    (ea : s1.heap.get? a = some (seqObj "list" #[] e1)) (ek : s1.heap.get? kS = some (seqObj "list" keys.toArray e)) (hl : keys.length = vs.length) (hz : vs.length ≤ sizeLine) (hS : 2 ≤ keys.length → SortableO X.prog X.w A s1 a keys ltv)
    (fin : ∀ s2 (out : List Keyed), Srtd (lt2 ltv) out → Stb (lt2 ltv) out (keys.zip vs) → Gone X H s H1 s2 → (∃ c, s2.heap.get? a = some (seqObj "list" (out.map (·.2)).toArray c)) → Pq (.done (.ret .none)) s2) : wpAny (model X.prog X.w) A (ksk_end a false vs.toArray e1 (.ref kS) keys.toArray) Pq E s1 := by
  have zl : (keys.toArray.zip vs.toArray).toList = keys.zip vs := by simp [Array.toList_zip]
  have zs : (keys.toArray.zip vs.toArray).size = vs.length := by rw [Array.size_zip, List.size_toArray, List.size_toArray]; omega
  unfold ksk_end
  try dsimp only
  rw [if_neg (by decide)]
  have hsz : vs.toArray.size = vs.length := List.size_toArray ..
  by_cases h2 : vs.toArray.size < 2
  · rw [if_pos h2, if_pos h2]
    refine wpAny_bind (wpAny_pure ?_); rw [StateT.run_pure]; refine wpAny_bind (wpAny_pure ?_)
    try dsimp only
    have ez : arrOf (SortSt.mk' general' (keys.toArray.zip vs.toArray) #[] 7 none) = keys.toArray.zip vs.toArray := rfl
    refine sk_tail (st := SortSt.mk' general' (keys.toArray.zip vs.toArray) #[] 7 none) I g na nk n1 n2 nak ea ek (by omega) (by rw [ez, zs]; exact hz) rfl fun s2 g2 e2 => fin s2 (keys.zip vs) ?_ (Stb.refl _) g2 (by rw [ez, zl] at e2; exact e2)
    rw [hsz] at h2
    match hk : keys.zip vs with
    | [] => exact List.Pairwise.nil
    | [x] => exact List.pairwise_singleton _ _
    | x :: y :: r =>
      have := congrArg List.length hk
      rw [List.length_zip, hl, Nat.min_self, List.length_cons, List.length_cons] at this
      omega
  · rw [if_neg h2, if_neg h2]
    rw [hsz] at h2
    obtain ⟨κ, hk, hT⟩ := hS (by omega) s1.heap fun _ _ _ z => z
    refine wpAny_bind (hk _ _ ?_)
    have all : SrtO.AllL (fun p : Keyed => p.1 ∈ keys) (keys.toArray.zip vs.toArray).toList := fun p hm => by
      rw [zl] at hm
      exact (List.of_mem_zip hm).1
    refine wpAny_bind (wpAny_mono (SrtO.wpS_sortO (st0 := SortSt.mk' κ (keys.toArray.zip vs.toArray) #[] 7 none) (Q := fun _ st' => Srtd (lt2 ltv) (arrOf st').toList ∧ Stb (lt2 ltv) (arrOf st').toList (keys.toArray.zip vs.toArray).toList ∧ failedOf st' = none) (swo2 O) hT rfl all rfl rfl fun st' a1 a2 a3 => ⟨a1, a2, a3⟩) ?_ fun _ _ z => z)
    rintro ⟨⟨⟩, st'⟩ s' ⟨rfl, p1, p2, p3⟩
    try dsimp only
    rw [zl] at p2
    have hlen : (arrOf st').size = vs.length := by
      have := p2.len
      rw [Array.length_toList, List.length_zip, hl, Nat.min_self] at this; exact this
    exact sk_tail I g na nk n1 n2 nak ea ek (by omega) (by rw [hlen]; exact hz) p3 fun s2 g2 e2 => fin s2 _ p1 p2 g2 e2
/-- the keys are asked one by one, then the pairs are sorted -/
theorem sk_rest {e1 : Nat} {Z : (Value → Value → Bool) → List Value → Hp → Prop} (I : Inv X pins σ H s) (g : Gone X H s H1 s1) (na : s.heap.objs.size ≤ a) (nk : s.heap.objs.size ≤ kS) (n1 : H1 a = none) (n2 : H1 kS = none) (nak : kS ≠ a)
    (ea : s1.heap.get? a = some (seqObj "list" #[] e1)) (ek : s1.heap.get? kS = some (seqObj "list" #[] 0)) (hz : vs.length ≤ sizeLine) (R0 : R 0 H1 [])
    (turn : ∀ (j : Nat) (v : Value) (H2 : Hp) (s2 : Shared) (us : List Value), vs[j]? = some v → R j H2 us → Gone X H s H2 s2 → Keyed1 X A q v H2 s2 fun H3 u => R (j + 1) H3 (us ++ [u]))
    (hS : ∀ (H2 : Hp) (s2 : Shared) (us : List Value), R vs.length H2 us → Gone X H s H2 s2 → us.length = vs.length → H2 a = none → (∃ e, s2.heap.get? a = some (seqObj "list" #[] e)) → ∃ ltv, Swo ltv ∧ (2 ≤ us.length → SortableO X.prog X.w A s2 a us ltv) ∧ Z ltv us H2)
    (fin : ∀ (H2 : Hp) (s2 : Shared) (us : List Value) (out : List Keyed) (ltv : Value → Value → Bool), Z ltv us H2 → Swo ltv → R vs.length H2 us → us.length = vs.length → Srtd (lt2 ltv) out → Stb (lt2 ltv) out (us.zip vs) → Gone X H s H2 s2 → H2 a = none → (∃ c, s2.heap.get? a = some (seqObj "list" (out.map (·.2)).toArray c)) → Pq (.done (.ret .none)) s2) :
    wpAny (model X.prog X.w) A (ksk_rest a q false vs.toArray e1 (.ref kS)) Pq E s1 := by
  have na' := nostk I na
  have nk' := nostk I nk
  unfold ksk_rest
  refine wpAny_bind (wpAny_rule ?_)
  rw [List.forIn_toArray]
  refine wpAny_bind (ksk_fold (fun i s2 => ∃ (H2 : Hp) (us : List Value) (e : Nat), Gone X H s H2 s2 ∧ H2 a = none ∧ H2 kS = none ∧ s2.heap.get? a = some (seqObj "list" #[] e1) ∧ s2.heap.get? kS = some (seqObj "list" us.toArray e) ∧ us.length = i ∧ R i H2 us) vs 0 s1 ⟨H1, [], 0, g, n1, n2, ea, ek, rfl, R0⟩ ?step ?done)
  case step =>
    rintro j x s2 hx ⟨H2, us, e, g2, m1, m2, ea2, ek2, hl, hR⟩
    simp only [Nat.zero_add] at hl hR ⊢
    have hj : j < vs.length := (List.getElem?_eq_some_iff.mp hx).1
    refine wpAny_bind (wpAny_attempt (wpAny_mono (turn j x H2 s2 us hx hR g2) (fun u s3 he => ?_) fun _ _ z => z.elim))
    obtain ⟨H3, g23, hR3⟩ := he
    have g3 := g2.on g23
    have m3 := g23.un.free a _ ea2 m1 (by simp)
    have m4 := g23.un.free kS _ ek2 m2 (by simp)
    have ea3 := g23.un.keep a _ ea2 m1 na' (by simp)
    have ek3 := g23.un.keep kS _ ek2 m2 nk' (by simp)
    try dsimp only
    have b1 := Heap.SameBut.update s3.heap kS (Obj.mapSeq (·.push u))
    have g4 := g3.poke (t := s3.toks) (h2 := s3.heap.update kS (Obj.mapSeq (·.push u))) nk m4 fun b o nb z => (b1.2 b nb).trans z
    refine wpAny_bind (listUpdate_at ek3 rfl ?_ (by rw [List.size_toArray]; omega) (by rw [Array.size_push, List.size_toArray]; omega))
    obtain ⟨c5, e5⟩ : ∃ c, (s3.heap.update kS (Obj.mapSeq (·.push u))).get? kS = some (seqObj "list" (us.toArray.push u) c) := ⟨_, get?_update_seq ek3 (·.push u)⟩
    rw [List.push_toArray] at e5
    exact wpAny_pure ⟨rfl, H3, us ++ [u], c5, g4, m3, m4, (b1.2 a nak.symm).trans ea3, e5, by rw [List.length_append, hl]; rfl, hR3⟩
  case done =>
    rintro s2 ⟨H2, us, e, g2, m1, m2, ea2, ek2, hl, hR⟩
    rw [Nat.zero_add] at hl hR
    try dsimp only
    refine wpAny_bind (listItems_at ek2 rfl ?_)
    obtain ⟨ltv, O, hS2, hZ⟩ := hS H2 s2 us hR g2 hl m1 ⟨_, ea2⟩
    exact sk_end O I g2 na nk m1 m2 nak ea2 ek2 hl hz hS2 fun s3 out p1 p2 g3 e3 => fin H2 s3 us out ltv hZ O hR hl p1 p2 g3 m1 e3
/-- sorted(l, key=q) -/
theorem sk_sorted {l q : Addr} {Qq : Value → Shared → Prop} {Z : (Value → Value → Bool) → List Value → Hp → Prop} (I : Inv X pins σ H s) (hl : s.heap.IsList l vs.toArray) (hz : vs.length ≤ sizeLine) (R0 : R 0 H [])
    (turn : ∀ (j : Nat) (v : Value) (H2 : Hp) (s2 : Shared) (us : List Value), vs[j]? = some v → R j H2 us → Gone X H s H2 s2 → Keyed1 X X.A.in1.in1 (.ref q) v H2 s2 fun H3 u => R (j + 1) H3 (us ++ [u]))
    (hS : ∀ (H2 : Hp) (s2 : Shared) (a : Addr) (us : List Value), R vs.length H2 us → Gone X H s H2 s2 → us.length = vs.length → H2 a = none → (∃ e, s2.heap.get? a = some (seqObj "list" #[] e)) → ∃ ltv, Swo ltv ∧ (2 ≤ us.length → SortableO X.prog X.w X.A.in1.in1 s2 a us ltv) ∧ Z ltv us H2)
    (fin : ∀ (a : Addr) (H2 : Hp) (s2 : Shared) (us : List Value) (out : List Keyed) (ltv : Value → Value → Bool), Z ltv us H2 → Swo ltv → s.heap.objs.size ≤ a → R vs.length H2 us → us.length = vs.length → Srtd (lt2 ltv) out → Stb (lt2 ltv) out (us.zip vs) → Gone X H s H2 s2 → H2 a = none → (∃ c, s2.heap.get? a = some (seqObj "list" (out.map (·.2)).toArray c)) → Qq (.ref a) s2) :
    wpAny (model X.prog X.w) X.A (call (.builtin "sorted") [.ref l] [(Str.ofString "key", .ref q)]) Qq E s := by
  refine call_function_entry_kw kind_sorted plain_sorted entry_sorted (by unfold argsOk; kernel_rfl) ?_
  unfold Builtin.«sorted»
  refine wpAny_bind (m := checkCount "sorted" 1 1 _) (wpAny_pure (wpAny_bind (collect_list hl (wpAny_bind (wpAny_newList ?_ hz)) hz)))
  have sz : ((s.heap.push (seqObj "list" #[] 0)).update s.heap.objs.size (Obj.mapSeq (· ++ vs.toArray))).objs.size = s.heap.objs.size + 1 := by rw [Heap.size_update, size_push']
  generalize hh : (s.heap.push (seqObj "list" #[] 0)).update s.heap.objs.size (Obj.mapSeq (· ++ vs.toArray)) = hp at sz
  have k0 : ∀ b o, s.heap.get? b = some o → hp.get? b = some o := fun b o e => by
    have lt : b < s.heap.objs.size := Heap.lt_size e
    rw [← hh, Heap.get?_update_ne _ _ _ _ (Nat.ne_of_lt lt), Heap.get?_push_ne _ _ _ (Nat.ne_of_lt lt)]; exact e
  show wpAny _ _ _ _ _ { s with heap := hp.push (seqObj "list" vs.toArray 0) }
  rw [sz]
  have oA : (hp.push (seqObj "list" vs.toArray 0)).get? (s.heap.objs.size + 1) = some (seqObj "list" vs.toArray 0) := by rw [← sz]; exact Heap.get?_push_size _ rfl
  refine wpAny_bind (wpAny_holding (wpAny_call_entry_kw slot_list_sort ⟨_, oA, rfl⟩ entry_list_sort ?_ (ksk_l1 _ _)))
  rw [ksk_t1]
  have ba := Heap.SameBut.update (hp.push (seqObj "list" vs.toArray 0)) (s.heap.objs.size + 1) (Obj.mapSeq fun _ => (#[] : Array Value))
  obtain ⟨e1, oA1⟩ : ∃ e1, ((hp.push (seqObj "list" vs.toArray 0)).update (s.heap.objs.size + 1) (Obj.mapSeq fun _ => (#[] : Array Value))).get? (s.heap.objs.size + 1) = some (seqObj "list" #[] e1) := ⟨_, get?_update_seq oA fun _ => #[]⟩
  have sz2 : ((hp.push (seqObj "list" vs.toArray 0)).update (s.heap.objs.size + 1) (Obj.mapSeq fun _ => (#[] : Array Value))).objs.size = s.heap.objs.size + 2 := by rw [Heap.size_update, size_push', sz]
  have k1 : ∀ b o, s.heap.get? b = some o → ((hp.push (seqObj "list" vs.toArray 0)).update (s.heap.objs.size + 1) (Obj.mapSeq fun _ => (#[] : Array Value))).get? b = some o := fun b o e =>
    (ba.2 b (Nat.ne_of_lt (Nat.lt_succ_of_lt (Heap.lt_size e)))).trans (Heap.get?_push_of_some _ (k0 b o e))
  let hq := (hp.push (seqObj "list" vs.toArray 0)).update (s.heap.objs.size + 1) (Obj.mapSeq fun _ => (#[] : Array Value))
  have k2 : ∀ b o, s.heap.get? b = some o → ((hq.push (seqObj "tuple" vs.toArray 0)).push (seqObj "list" #[] 0)).get? b = some o := fun b o e => Heap.get?_push_of_some _ (Heap.get?_push_of_some _ (k1 b o e))
  have sz3 : (hq.push (seqObj "tuple" vs.toArray 0)).objs.size = s.heap.objs.size + 3 := by rw [size_push', sz2]
  have g0 : Gone X H s H { s with heap := (hq.push (seqObj "tuple" vs.toArray 0)).push (seqObj "list" #[] 0) } := (Gone.refl I).kept (t := s.toks) k2
  have eA : ((hq.push (seqObj "tuple" vs.toArray 0)).push (seqObj "list" #[] 0)).get? (s.heap.objs.size + 1) = some (seqObj "list" #[] e1) := Heap.get?_push_of_some _ (Heap.get?_push_of_some _ oA1)
  have eK : ((hq.push (seqObj "tuple" vs.toArray 0)).push (seqObj "list" #[] 0)).get? (s.heap.objs.size + 3) = some (seqObj "list" #[] 0) := by rw [← sz3]; exact Heap.get?_push_size _ rfl
  unfold ksk_tree
  refine wpAny_bind (listItems_at oA rfl (wpAny_bind (listUpdate_at oA rfl ?_ (by rw [List.size_toArray]; exact hz) (Nat.zero_le _))))
  refine wpAny_bind (seqEpoch_at oA1 rfl (wpAny_bind (wpAny_newTuple (wpAny_bind (wpAny_newList (wpAny_holding ?_) (Nat.zero_le _))) hz)))
  show wpAny _ _ (ksk_rest (s.heap.objs.size + 1) (.ref q) false vs.toArray e1 (.ref (hq.push (seqObj "tuple" vs.toArray 0)).objs.size)) _ _ { s with heap := (hq.push (seqObj "tuple" vs.toArray 0)).push (seqObj "list" #[] 0) }
  rw [sz3]
  refine sk_rest (Z := Z) I g0 (Nat.le_succ _) (Nat.le_add_right _ 3) (I.hok.fresh (Nat.le_succ _)) (I.hok.fresh (Nat.le_add_right _ 3)) (show s.heap.objs.size + 3 ≠ s.heap.objs.size + 1 by omega) eA eK hz R0 turn (fun H2 s2 us r g l1 n z => hS H2 s2 _ us r g l1 n z) fun H2 s2 us out ltv z o r l1 p1 p2 g n e => ⟨_, rfl, ?_⟩
  exact wpAny_pure ⟨_, rfl, fin _ H2 s2 us out ltv z o (Nat.le_succ _) r l1 p1 p2 g n e⟩
end
end
/-! ### sorted(xs, key=f) over the layer -/
section
open SrtO (Swo Srtd Stb lt2 swo2 SortableO)
variable {X : Cx} {pins : List (Addr × Obj)} {σ : L2.St} {H HJ : Hp} {s sJ : Shared}
/-- what has been made meanwhile is told to the ledger -/
theorem inv_track {a : Addr} {o : HO} (J : Inv X pins σ HJ sJ) (ge : sJ.heap.objs.size ≤ a) (I : Inv X pins σ H s) (na : H a = none) (ok : ObjOk X.prog X.w (upd H a o) s.heap a o) : Inv X pins σ (upd H a o) s := by
  have ne : ∀ {b : Addr} {o : Obj}, sJ.heap.get? b = some o → b ≠ a := fun e => Nat.ne_of_lt (Nat.lt_of_lt_of_le (Heap.lt_size e) ge)
  have n0 : ∀ {b : Addr} {o : Obj}, X.s_0.heap.get? b = some o → b ≠ a := fun e => Nat.ne_of_lt (Nat.lt_of_lt_of_le (Heap.lt_size e) (Nat.le_trans J.sz ge))
  have bs : Un X.fs X.ex X.H_0 (upd H a o) X.s_0.heap s.heap := {
    keep := I.base.keep
    slot := I.base.slot
    there := I.base.there
    free := fun b o e n q => by rw [upd_ne (n0 e)]; exact I.base.free b o e n q
    tups := fun b xs e => by
      have z := I.base.tups b xs e
      rw [upd_ne (ne_of_none z na)]; exact z
    frzs := fun b o u e => by
      have z := I.base.frzs b o u e
      rw [upd_ne (ne_of_none z na)]; exact z
    tbls := fun b ps e => by
      obtain ⟨m, z⟩ := I.base.tbls b ps e
      exact ⟨m, by rw [upd_ne (ne_of_none z na)]; exact z⟩ }
  have fr : X.env.locals ≠ a := by
    obtain ⟨m, ⟨o, es, ep, ho, _⟩, _⟩ := J.loc
    exact ne ho
  refine ⟨I.ok, I.os, I.bare, bs, I.loc, I.cell, by rw [upd_ne fr]; exact I.free, fun x c e => ?_, fun p hp => ?_, fun b o e => ?_, I.len⟩
  · obtain ⟨v, o, ho, _⟩ := J.cell x c e
    rw [upd_ne (ne ho)]; exact I.freeC x c e
  · obtain ⟨e, n, r⟩ := I.pin p hp
    exact ⟨e, by rw [upd_ne (ne (J.pin p hp).1)]; exact n, r⟩
  · by_cases hb : b = a
    · subst hb
      rw [upd_same] at e; cases e; exact ok
    · rw [upd_ne hb] at e
      exact (I.hok b o e).stay (fun c v _ q => q) (fun c q => by rw [upd_ne (ne_of_none q na)]; exact q) fun c xs q => by rw [upd_ne (ne_of_none q na)]; exact q
/-- keys: how they stand in the heap, and their order -/
structure KeyOk (X : Cx) {α : Type} (KR : Hp → V → α → Prop) (lt : α → α → Bool) : Prop where
  keep : ∀ {H H' : Hp} {v : V} {k : α}, KR H v k → Same H H' → KR H' v k
  sort : ∀ {pins : List (Addr × Obj)} {σ : L2.St} {H : Hp} {s : Shared} {A : Around} {b : Addr} {ys : List V} {us : List Value} {ks : List α}, Inv X pins σ H s → H b = none → (∃ e, s.heap.get? b = some (seqObj "list" #[] e)) → Paired (KR H) ys ks → Vals ys us →
    ∃ ltv, Swo ltv ∧ (2 ≤ us.length → SortableO X.prog X.w A s b us ltv) ∧ ∀ p ∈ us.zip ks, ∀ q ∈ us.zip ks, ltv p.1 q.1 = lt p.2 q.2
theorem paired_mono {α β : Type} {F G : α → β → Prop} (f : ∀ a b, F a b → G a b) : ∀ {l : List α} {m : List β}, Paired F l m → Paired G l m
  | _, _, .nil => .nil
  | _, _, .cons r t => .cons (f _ _ r) (paired_mono f t)
theorem paired_snoc {α β : Type} {F : α → β → Prop} {x : α} {y : β} (r : F x y) : ∀ {l : List α} {m : List β}, Paired F l m → Paired F (l ++ [x]) (m ++ [y])
  | _, _, .nil => .cons r .nil
  | _, _, .cons q t => .cons q (paired_snoc r t)
theorem paired_zip {α : Type} {xs : List V} {vs us : List Value} {ks : List α} (r : Vals xs vs) (l1 : us.length = vs.length) (l2 : ks.length = xs.length) : Paired (fun (p : Value × Value) (q : α × V) => (p.1, q.1) ∈ us.zip ks ∧ RelV q.2 p.2) (us.zip vs) (ks.zip xs) := by
  have go : ∀ (us0 : List Value) (ks0 : List α) (us : List Value) (ks : List α) (vs : List Value) (xs : List V), Vals xs vs → us.length = vs.length → ks.length = xs.length → (∀ p ∈ us.zip ks, p ∈ us0.zip ks0) → Paired (fun (p : Value × Value) (q : α × V) => (p.1, q.1) ∈ us0.zip ks0 ∧ RelV q.2 p.2) (us.zip vs) (ks.zip xs) := by
    intro us0 ks0 us
    induction us with
    | nil =>
      intro ks vs xs r l1 l2 _
      cases r with
      | nil => rw [List.zip_nil_right, List.zip_nil_right]; exact .nil
      | cons _ _ => cases l1
    | cons u us ih =>
      intro ks vs xs r l1 l2 hm
      cases r with
      | nil => cases l1
      | cons r1 r2 =>
        cases ks with
        | nil => cases l2
        | cons k ks => exact .cons ⟨hm _ List.mem_cons_self, r1⟩ (ih ks _ _ r2 (by simpa using l1) (by simpa using l2) fun p hp => hm p (List.mem_cons_of_mem _ hp))
  exact go us ks us ks vs xs r l1 l2 fun _ h => h
theorem vals_snd {α : Type} {P : Value × Value → α × V → Prop} : ∀ {l : List (Value × Value)} {m : List (α × V)}, Paired (fun p q => P p q ∧ RelV q.2 p.2) l m → Vals (m.map (·.2)) (l.map (·.2))
  | _, _, .nil => .nil
  | _, _, .cons r t => .cons r.2 (vals_snd t)
/-- the list by the keys ks -/
def byKeys {α : Type} (lt : α → α → Bool) (ks : List α) (xs : List V) : List V := (iSort (fun a b : α × V => lt a.1 b.1) (ks.zip xs)).map (·.2)
theorem key_sorted {α : Type} {KR : Hp → V → α → Prop} {lt : α → α → Bool} (KO : KeyOk X KR lt) {l q : Addr} {xs : List V} {ks : List α} {Q : VK} {E : Value → Shared → Prop} (I : Inv X pins σ H s) (hs : SqL X.K H l xs) (hk : ks.length = xs.length)
    (turn : ∀ (j : Nat) (x : V) (k : α) (H2 : Hp) (s2 : Shared) (u : Value), xs[j]? = some x → ks[j]? = some k → Gone X H s H2 s2 → Same H H2 → RelV x u →
      wpAny (model X.prog X.w) X.A.in1.in1 (call (.ref q) [u]) (fun r s3 => ∃ H3, Gone X H2 s2 H3 s3 ∧ Same H2 H3 ∧ ∃ y, RelV y r ∧ KR H3 y k) (fun _ _ => False) s2)
    (fin : ∀ H2 p, Same H H2 → H2 p = none → Q (.ref p) (upd H2 p (.lst (byKeys lt ks xs)))) :
    wpAny (model X.prog X.w) X.A (call (.builtin "sorted") [.ref l] [(Str.ofString "key", .ref q)]) (EP X pins σ Q) E s := by
  obtain ⟨vs, rv, hl, hz⟩ := I.list hs
  have lv := rv.length
  refine sk_sorted (Z := fun ltv us H2 => Swo ltv ∧ ∀ p ∈ us.zip ks, ∀ q ∈ us.zip ks, ltv p.1 q.1 = lt p.2 q.2) (R := fun j H2 us => Same H H2 ∧ ∃ ys, Vals ys us ∧ Paired (KR H2) ys (ks.take j)) I hl.isList (by omega) ⟨fun _ _ e => e, [], .nil, .nil⟩ ?_ ?_ ?_
  · rintro j v H2 s2 us hv ⟨s12, ys, ry, rk⟩ g
    have hj : j < vs.length := (List.getElem?_eq_some_iff.mp hv).1
    obtain ⟨x, hx⟩ : ∃ x, xs[j]? = some x := ⟨_, List.getElem?_eq_getElem (by omega)⟩
    obtain ⟨k, hkj⟩ : ∃ k, ks[j]? = some k := ⟨_, List.getElem?_eq_getElem (by omega)⟩
    obtain ⟨v', hv', rx⟩ := rv.get hx
    rw [hv] at hv'; cases hv'
    refine wpAny_mono (turn j x k H2 s2 v hx hkj g s12 rx) (fun r s3 h => ?_) fun _ _ z => z
    obtain ⟨H3, g3, s23, y, ry2, hK⟩ := h
    refine ⟨H3, g3, s12.trans s23, ys ++ [y], paired_snoc ry2 ry, ?_⟩
    rw [List.take_add_one, hkj]
    exact paired_snoc hK (paired_mono (fun a b z => KO.keep z s23) rk)
  · rintro H2 s2 a us ⟨s12, ys, ry, rk⟩ g l1 ha hb
    rw [List.take_of_length_le (by omega)] at rk
    have I2 := g.inv I
    obtain ⟨ltv, O, h1, h2⟩ := KO.sort (A := X.A.in1.in1) (b := a) I2 ha hb rk ry
    exact ⟨ltv, O, h1, O, h2⟩
  · rintro a H2 s2 us out ltv ⟨O, hag⟩ _ ha ⟨s12, ys, ry, rk⟩ l1 p1 p2 g n ⟨c, ec⟩
    have e : out = iSort (lt2 ltv) (us.zip vs) := srt_iSort (swo2 O) p1 p2
    have pz := paired_zip (us := us) (ks := ks) rv l1 hk
    have ps := iSort_two (lt := lt2 ltv) (lt' := fun a b : α × V => lt a.1 b.1) (fun a b a' b' h1 h2 => hag _ h1.1 _ h2.1) pz
    rw [← e] at ps
    have vz := vals_snd (P := fun p q => (p.1, q.1) ∈ us.zip ks) ps
    have zl : (byKeys lt ks xs).length ≤ sizeLine := by
      have h1 := vz.length
      have h2 := p2.len
      rw [List.length_map, List.length_map, h2, List.length_zip, l1, Nat.min_self] at h1
      show ((iSort _ _).map _).length ≤ _
      rw [List.length_map, h1]; omega
    have I2 := g.inv I
    exact ⟨.ref a, upd H2 a (.lst (byKeys lt ks xs)), inv_track I ha I2 n ⟨zl, _, c, vz, ec⟩, rfl, fin H2 a s12 n⟩
end
/-! ### keys: ints, texts, pairs of ints -/
section
open SrtO (Swo Srtd Stb lt2 swo2 SortableO ltIv swo_int ints_sortable iv)
variable {X : Cx}
def KI (_ : Hp) (v : V) (k : Int) : Prop := v = .int k
def ltI (a b : Int) : Bool := decide (a < b)
theorem ki_ints {H : Hp} : ∀ {ys : List V} {us : List Value} {ks : List Int}, Paired (KI H) ys ks → Vals ys us → IntsAre us ks
  | _, _, _, .nil, .nil => .nil
  | _, _, _, .cons e t, .cons r q => by
    cases e
    obtain ⟨z, rfl⟩ := r
    exact .cons _ _ (ki_ints t q)
theorem ints_agree : ∀ {us : List Value} {ks : List Int}, IntsAre us ks → ∀ p ∈ us.zip ks, iv p.1 = p.2
  | _, _, .nil, p, h => by cases h
  | _, _, .cons n t r, p, h => by
    rcases List.mem_cons.mp h with rfl | h
    · rfl
    · exact ints_agree r p h
theorem keyI : KeyOk X KI ltI := ⟨fun h _ => h, fun {pins σ H s A b ys us ks} I _ _ rk ry => by
  have hI := ki_ints rk ry
  refine ⟨ltIv, swo_int, fun h2 => ints_sortable hI h2, fun p hp q hq => ?_⟩
  show decide (iv p.1 < iv q.1) = decide (p.2 < q.2)
  rw [ints_agree hI p hp, ints_agree hI q hq]⟩
theorem swo_ltI : Swo ltI := ⟨fun x y h => decide_eq_false (by have := of_decide_eq_true h; omega), fun x y z h1 h2 => decide_eq_false (by have := of_decide_eq_false h1; have := of_decide_eq_false h2; omega)⟩
def KS (_ : Hp) (v : V) (k : Str) : Prop := v = .str k
def ltS (a b : Str) : Bool := decide (a.cps.toList < b.cps.toList)
def sv : Value → Str
  | .str x _ => x
  | _ => Str.empty
def ltSv (v u : Value) : Bool := ltS (sv v) (sv u)
theorem swo_ltS : Swo ltS := by
  refine ⟨fun x y h => ?_, fun x y z h1 h2 => ?_⟩
  · have a : x.cps.toList < y.cps.toList := of_decide_eq_true h
    exact decide_eq_false (fun b => absurd (List.lt_trans a b) (List.lt_irrefl _))
  · have a : ¬ y.cps.toList < x.cps.toList := of_decide_eq_false h1
    have b : ¬ z.cps.toList < y.cps.toList := of_decide_eq_false h2
    refine decide_eq_false (fun c => ?_)
    have a' := List.not_lt.mp a
    have b' := List.not_lt.mp b
    exact absurd c (List.not_lt.mpr (List.le_trans a' b'))
theorem ks_strs {H : Hp} : ∀ {ys : List V} {us : List Value} {ks : List Str}, Paired (KS H) ys ks → Vals ys us → StrsAre us ks
  | _, _, _, .nil, .nil => .nil
  | _, _, _, .cons e t, .cons r q => by
    cases e
    obtain ⟨z, rfl⟩ := r
    exact .cons _ _ (ks_strs t q)
theorem strs_agree : ∀ {us : List Value} {ks : List Str}, StrsAre us ks → ∀ p ∈ us.zip ks, ∃ t, p.1 = .str p.2 t
  | _, _, .nil, p, h => by cases h
  | _, _, .cons n t r, p, h => by
    rcases List.mem_cons.mp h with rfl | h
    · exact ⟨_, rfl⟩
    · exact strs_agree r p h
theorem strs_mem : ∀ {us : List Value} {ks : List Str}, StrsAre us ks → ∀ u ∈ us, ∃ x t, u = .str x t
  | _, _, .nil, p, h => by cases h
  | _, _, .cons n t r, p, h => by
    rcases List.mem_cons.mp h with rfl | h
    · exact ⟨_, _, rfl⟩
    · exact strs_mem r p h
theorem keyS : KeyOk X KS ltS := ⟨fun h _ => h, fun {pins σ H s A b ys us ks} I _ _ rk ry => by
  have hS := ks_strs rk ry
  refine ⟨ltSv, ⟨fun x y => swo_ltS.asym _ _, fun x y z => swo_ltS.tr _ _ _⟩, fun h2 h' _ => ⟨oneType', fun Q E hq => ?_, fun p q hp hq => ?_⟩, fun p hp q hq => ?_⟩
  · match us, hS, h2 with
    | v1 :: v2 :: rest, hS, _ =>
      rw [keyKind_strs hS]
      exact wpAny_pure hq
    | [], _, h => exact absurd h (by decide)
    | [v], _, h => exact absurd h (by simp)
  · obtain ⟨x, t, e1⟩ := strs_mem hS _ hp
    obtain ⟨y, u, e2⟩ := strs_mem hS _ hq
    show wpAny _ A (keyLt' oneType' p.1 q.1) (fun r s' => s' = _ ∧ r = ltSv p.1 q.1) (fun _ _ => False) _
    rw [e1, e2, keyLt'_oneType]
    exact oneLt_str ⟨rfl, rfl⟩
  · obtain ⟨t, e1⟩ := strs_agree hS p hp
    obtain ⟨u, e2⟩ := strs_agree hS q hq
    rw [e1, e2]; rfl⟩
/-- a tuple of two ints -/
def KP (H : Hp) (v : V) (k : Int × Int) : Prop := ∃ t, v = .ref t ∧ H t = some (.tup [.int k.1, .int k.2])
theorem kp_pairs {P : Program} {w : World} {H : Hp} {h : Heap} (ok : HOk P w H h) : ∀ {ys : List V} {us : List Value} {ks : List (Int × Int)}, Paired (KP H) ys ks → Vals ys us → ∀ p ∈ us.zip ks, Srt.IsPair h p.1 p.2.1 p.2.2
  | _, _, _, .nil, .nil, p, hp => by cases hp
  | _, _, _, .cons (b := k) e t, .cons r q, p, hp => by
    rcases List.mem_cons.mp hp with rfl | hp
    · obtain ⟨a, rfl, ha⟩ := e
      cases r
      obtain ⟨_, its, rv, o, ho, hc, n, hd⟩ := ok a _ ha
      match its, rv, hd with
      | [u1, u2], .cons ⟨t1, e1⟩ (.cons ⟨t2, e2⟩ .nil), hd =>
        subst e1 e2
        exact ⟨a, o, t1, t2, n, rfl, ho, hc, hd⟩
    · exact kp_pairs ok t q p hp
theorem isPair_one {h : Heap} {v : Value} {a b c d : Int} (x : Srt.IsPair h v a b) (y : Srt.IsPair h v c d) : a = c ∧ b = d := by
  obtain ⟨p, o, t, u, n, rfl, ho, _, hd⟩ := x
  obtain ⟨p', o', t', u', n', e, ho', _, hd'⟩ := y
  cases e
  rw [ho] at ho'
  cases ho'
  rw [hd] at hd'
  cases hd'
  exact ⟨rfl, rfl⟩
open Classical in
noncomputable def pairOf (h : Heap) (v : Value) : Int × Int := if z : ∃ k : Int × Int, Srt.IsPair h v k.1 k.2 then Classical.choose z else (0, 0)
theorem pairOf_eq {h : Heap} {v : Value} {k : Int × Int} (x : Srt.IsPair h v k.1 k.2) : pairOf h v = k := by
  have z : ∃ k : Int × Int, Srt.IsPair h v k.1 k.2 := ⟨k, x⟩
  unfold pairOf
  rw [dif_pos z]
  have := isPair_one (Classical.choose_spec z) x
  exact Prod.ext this.1 this.2
theorem keyP : KeyOk X KP SrtO.lexB := ⟨fun ⟨t, e, h⟩ s => ⟨t, e, s _ _ h⟩, fun {pins σ H s A b ys us ks} I _ ⟨e, hb⟩ rk ry => by
  have hp := kp_pairs I.hok rk ry
  have hm : ∀ u ∈ us, ∃ k, (u, k) ∈ us.zip ks := by
    have : us.length = ks.length := by rw [← ry.length]; exact Paired.length rk
    intro u hu
    obtain ⟨i, hi, rfl⟩ := List.getElem_of_mem hu
    exact ⟨ks[i]'(by omega), by
      have : (us.zip ks)[i]'(by rw [List.length_zip]; omega) = (us[i], ks[i]'(by omega)) := List.getElem_zip
      rw [← this]; exact List.getElem_mem _⟩
  refine ⟨fun v u => SrtO.lexB (pairOf s.heap v) (pairOf s.heap u), SrtO.swo_lex _, fun h2 => SrtO.pairs_sortableO (by omega) (fun v hv => ?_) (fun o ho => ?_), fun p hpz q hqz => ?_⟩
  · obtain ⟨k, hk⟩ := hm v hv
    rw [pairOf_eq (hp _ hk)]; exact hp _ hk
  · rw [hb] at ho; cases ho; exact fun z => absurd (Value.type.inj z) (by decide)
  · show SrtO.lexB (pairOf s.heap p.1) (pairOf s.heap q.1) = _
    rw [pairOf_eq (hp _ hpz), pairOf_eq (hp _ hqz)]⟩
end
/-! ### lambdas with parameters, told to the ledger -/
section
open LamX (CodeO TabS Tabs ExtN TabB inv_table among_app codeO_ne)
/-- at f: the function of a lambda without captured names, its code object at c -/
def LamO (f : Addr) (qual : Str) (params : Arguments) (body : Expr) (scope : Scope) (c : Addr) : HO := .ext fun h => ∃ pm ctv, h.get? f = some (PySem.W.kla_obj "<lambda>" qual params body scope [] pm c ctv)
variable {X : Cx} {pins : List (Addr × Obj)} {σ : L2.St} {H : Hp} {s : Shared}
theorem lamO_ok {P : Program} {w : World} {h : Heap} {f c : Addr} {qual : Str} {params : Arguments} {body : Expr} {scope : Scope} {pm ctv : Value} (e : h.get? f = some (PySem.W.kla_obj "<lambda>" qual params body scope [] pm c ctv)) : ObjOk P w H h f (LamO f qual params body scope c) :=
  ⟨⟨pm, ctv, e⟩, ⟨_, e⟩, fun h1 h2 ⟨a, b, z⟩ k => ⟨a, b, k _ z⟩⟩
theorem lamO_at {P : Program} {w : World} {h : Heap} {f c : Addr} {qual : Str} {params : Arguments} {body : Expr} {scope : Scope} (ok : HOk P w H h) (e : H f = some (LamO f qual params body scope c)) : ∃ pm ctv, h.get? f = some (PySem.W.kla_obj "<lambda>" qual params body scope [] pm c ctv) := by
  have x : ObjOk P w H h f (.ext fun h => ∃ pm ctv, h.get? f = some (PySem.W.kla_obj "<lambda>" qual params body scope [] pm c ctv)) := ok f _ e
  exact x.1
theorem codeO_at {P : Program} {w : World} {h : Heap} {c : Addr} {q : Str} (ok : HOk P w H h) (e : H c = some (CodeO c q)) : ∃ (oc : Obj) (vs : Array Value) (t : Tok), h.get? c = some oc ∧ oc.data = .fields vs ∧ vs[1]? = some (.str q t) := by
  have x : ObjOk P w H h c (.ext fun h => ∃ (oc : Obj) (vs : Array Value) (t : Tok), h.get? c = some oc ∧ oc.data = .fields vs ∧ vs[1]? = some (.str q t)) := ok c _ e
  exact x.1
theorem lamO_ne {f c : Addr} {qual : Str} {params : Arguments} {body : Expr} {scope : Scope} (ps : Array Value) : LamO f qual params body scope c ≠ .tbl ps := fun z => by
  unfold LamO at z
  cases z
/-- the tables, over a heap in which nothing of them changes but P's own -/
theorem tabs_snoc {T : List (Addr × Str)} {P c : Addr} {q : Str} {ps : Array Value} {pos : Pos} (hT : Tabs T H) (hu : ∀ p ∈ T, p.1 = P → p.2 = q) (hP : H P = some (.tbl ps)) (ht : TriplesOk ps.toList) (nc : H c = none)
    (old : ∀ (p : Pos) (cv : Value), codeAmong p ps.toList = some cv → ∃ c0, cv = .ref c0 ∧ H c0 = some (CodeO c0 q)) (E : ExtN H (upd (upd H P (.tbl (ps ++ #[rawInt pos.line, rawInt pos.col, .ref c]))) c (CodeO c q))) :
    Tabs T (upd (upd H P (.tbl (ps ++ #[rawInt pos.line, rawInt pos.col, .ref c]))) c (CodeO c q)) := by
  intro p hp
  have el : (ps ++ #[rawInt pos.line, rawInt pos.col, .ref c]).toList = ps.toList ++ [rawInt pos.line, rawInt pos.col, .ref c] := by simp
  by_cases hb : p.1 = P
  · rw [hu p hp hb, hb]
    refine ⟨_, by rw [upd_ne (ne_of_none hP nc), upd_same], by rw [el]; exact PySem.TriplesOk_snoc _ _ _ _ ht, fun p' cv h => ?_⟩
    rw [el] at h
    rcases among_app _ ht h with z | z
    · obtain ⟨c0, e1, e2⟩ := old p' cv z
      exact ⟨c0, e1, E _ _ e2 codeO_ne⟩
    · exact ⟨c, z, upd_same⟩
  · obtain ⟨ps', a1, a2, a3⟩ := hT p hp
    refine ⟨ps', by rw [upd_ne (ne_of_none a1 nc), upd_ne hb]; exact a1, a2, fun p' cv h => ?_⟩
    obtain ⟨c0, e1, e2⟩ := a3 p' cv h
    exact ⟨c0, e1, E _ _ e2 codeO_ne⟩
theorem extN_table {P c : Addr} {ps qs : Array Value} {o : HO} (hP : H P = some (.tbl ps)) (nc : H c = none) : ExtN H (upd (upd H P (.tbl qs)) c o) := fun b u e n => by
  rw [upd_ne (ne_of_none e nc), upd_ne (fun z => n ps (Option.some.inj (e.symm.trans (by rw [z]; exact hP))))]
  exact e
theorem extN_new {H1 : Hp} {f : Addr} {o : HO} (E : ExtN H H1) (n : H1 f = none) : ExtN H (upd H1 f o) := fun b u e q => by
  rw [upd_ne (ne_of_none (E b u e q) n)]; exact E b u e q
theorem tabs_new {T : List (Addr × Str)} {f : Addr} {o : HO} (hT : Tabs T H) (n : H f = none) : Tabs T (upd H f o) := hT.ext fun b u e => by rw [upd_ne (ne_of_none e n)]; exact e
theorem upd_none {H : Hp} {p b : Addr} {o : HO} (h : upd H p o b = none) : H b = none := by
  by_cases c : b = p
  · subst c; rw [upd_same] at h; cases h
  · rw [upd_ne c] at h; exact h
theorem lam_make3 {T : List (Addr × Str)} {c P : Addr} {params : Arguments} {body : Expr} {scope : Scope} {pos : Pos} {E : Value → Shared → Prop} {Q : Value → Shared → Prop} (I : Inv X pins σ H s) (B : TabB X.base X.mg c P) (code : X.env.code = .ref c)
    (hm : (P, X.env.qual ++ "<lambda>") ∈ T) (hu : ∀ p ∈ T, p.1 = P → p.2 = X.env.qual ++ "<lambda>") (hT : Tabs T H) (hd : defaultsOf params X.env = ([], [])) (hcl : closureFor scope X.env = pure []) 
    (h : ∀ (f c' : Addr) (H1 : Hp) (s' : Shared), Inv X pins σ H1 s' → ExtN H H1 → Tabs T H1 → (∀ b, H1 b = none → H b = none) → H1 f = some (LamO f (X.env.qual ++ "<lambda>") params body scope c') → H1 c' = some (CodeO c' (X.env.qual ++ "<lambda>")) → Q (.ref f) s') :
    wpAny (model X.prog X.w) X.A (eval (.Lambda params body scope pos) X.env) Q E s := by
  obtain ⟨ps, hP, ht, ha⟩ := hT _ hm
  refine PySem.W.kla_eval hd ?_
  have bP : s.heap.BuiltinsAt X.mg P := B.bm.keeps I.bk
  have oP : s.heap.get? P = some { cls := .none, data := .fields ps } := I.hok P _ hP
  cases hc : codeAmong pos ps.toList with
  | some cv =>
    obtain ⟨c', e, hco⟩ := ha pos cv hc
    subst e
    refine PySem.W.kla_makeFunctionHit (mg := X.mg) (c := c) (P := P) (ps := ps) hcl I.ok.glob (I.mod.glob.keeps I.bk) code (B.code.keeps I.bk) oP ht hc bP fun ctv h' tk hx hsz => ?_
    have I1 : Inv X pins σ H { s with heap := h', toks := tk } := I.kept hx
    have nf : H h'.objs.size = none := I.hok.fresh hsz
    have I2 := I1.laid (a := h'.objs.size) (o := LamO h'.objs.size (X.env.qual ++ "<lambda>") params body scope c') (t' := tk) (h' := h'.push (PySem.W.kla_obj "<lambda>" (X.env.qual ++ "<lambda>") params body scope [] ((X.mg "__name__").getD .none) c' ctv))
      (fun b o e => Heap.get?_push_of_some _ e) (Nat.le_refl _) (lamO_ok (Heap.get?_push_size _ rfl))
    exact h _ c' _ _ I2 (extN_new (ExtN.refl H) nf) (tabs_new hT nf) (fun b => upd_none) upd_same (by rw [upd_ne (ne_of_none hco nf)]; exact hco)
  | none =>
    refine PySem.W.kla_makeFunction (mg := X.mg) (c := c) (P := P) (ps := ps) hcl I.ok.glob (I.mod.glob.keeps I.bk) code (B.code.keeps I.bk) oP ht hc B.gP bP fun c' ctv h' tk hx hge hlt hrec htb => ?_
    obtain ⟨c2, oc, vs, t, e2, hoc, hd2, hv⟩ := hrec
    cases e2
    have nc : H c' = none := I.hok.fresh hge
    have ee := extN_table (qs := ps ++ #[rawInt pos.line, rawInt pos.col, .ref c']) (o := CodeO c' (X.env.qual ++ "<lambda>")) hP nc
    have t1 := tabs_snoc (pos := pos) hT hu hP ht nc ha ee
    have I1 := inv_table (t' := tk) (q := X.env.qual ++ "<lambda>") (more := #[rawInt pos.line, rawInt pos.col, .ref c']) (h' := h') I hP (fun b o hb e => hx b o hb e) htb hge ⟨oc, vs, t, hoc, hd2, hv⟩
    have hsz : s.heap.objs.size ≤ h'.objs.size := Nat.le_trans hge (Nat.le_of_lt hlt)
    have nf : (upd (upd H P (.tbl (ps ++ #[rawInt pos.line, rawInt pos.col, .ref c']))) c' (CodeO c' (X.env.qual ++ "<lambda>"))) h'.objs.size = none := by
      rw [upd_ne (Nat.ne_of_gt hlt), upd_ne (Nat.ne_of_gt (Nat.lt_of_lt_of_le (Heap.lt_size oP) hsz))]
      exact I.hok.fresh hsz
    have I2 := I1.laid (a := h'.objs.size) (o := LamO h'.objs.size (X.env.qual ++ "<lambda>") params body scope c') (t' := tk) (h' := h'.push (PySem.W.kla_obj "<lambda>" (X.env.qual ++ "<lambda>") params body scope [] ((X.mg "__name__").getD .none) c' ctv))
      (fun b o e => Heap.get?_push_of_some _ e) (Nat.le_refl _) (lamO_ok (Heap.get?_push_size _ rfl))
    exact h _ c' _ _ I2 (extN_new ee nf) (tabs_new t1 nf) (fun b z => upd_none (upd_none (upd_none z))) upd_same (by rw [upd_ne (ne_of_none upd_same nf)]; exact upd_same)
end
/-! ### the law's end, where defs make lambdas: their code objects' tables are told from the start -/
section
open LamX (TabB)
variable {P : Program} {w : World} {K : PySem.W.Frag} {mg mb : Str → Option Value} {k : Nat} {fa a : Addr} {fd : FuncData} {x : Str} {sp : Sp} {s₁ : Shared} {vs : List Value} {ns : List Int}
/-- tables alone, and the script -/
def OnlyT (ts : List Addr) (H : Hp) : Prop := ∀ b, H b = none ∨ (b ∈ ts ∧ H b = some (.tbl #[])) ∨ ∃ o xs, H b = some (.frz o (.lst xs))
theorem lawT0 {cs : List (Addr × Addr)} (KX : K.In s₁.heap) (g1 : s₁.heap.Ns mainGlobals mg) (g2 : s₁.heap.Ns builtinsNs mb) (g3 : ∀ x : Str, x ≠ "__name__" → mb x = bootBuiltins x) (g4 : s₁.heap.NoLimit) (g5 : s₁.gens = #[])
    (g6 : ∃ (bm : Addr) (ob : Obj), mg "__builtins__" = some (.ref bm) ∧ bm ≠ builtinsNs ∧ s₁.heap.get? bm = some ob ∧ ob.cls = .type "module" ∧ ob.dict = some builtinsNs ∧ ob.data = .plain)
    (hT : ∀ p ∈ cs, s₁.heap.get? p.2 = some { cls := .none, data := .fields #[] }) (hC : ∀ p ∈ cs, PySem.W.CodeHd s₁.heap p.1 p.2)
    (ha : s₁.heap.get? a = some { cls := .type "list", data := .seq vs.toArray }) (hr : Room k callerA)
    (F : ∀ base : Heap, K.In base → base.Ns mainGlobals mg → (∀ p ∈ cs, TabB base mg p.1 p.2) → FnOkG P w K mg base CX0 k fa fd [x] sp) (bd : ∀ (s : Shared) (u : Value), BindsTo s fd ⟨[u], []⟩ [(x, u)])
    (H : Hp) (hO : OnlyT (cs.map (·.2)) H) (want : sp [.ref a] H (fun v _ => v = .bl true) fun _ _ _ => False) (ok : HOk P w H s₁.heap) (hA : ∀ b, H b ≠ none → b = a ∨ b ∈ cs.map (·.2)) (hK : ∀ b, H b ≠ none → K.lookup b = none) :
    codeAny (model P w) callerA (.call (.ref fa) ⟨[.ref a], []⟩) (fun r s' => r = .ok (.ret (.bool true)) ∧ OldK s₁.heap s'.heap ∧ s'.os = s₁.os ∧ AllBare s'.gens) s₁ := by
  have tab : ∀ b, b ∈ cs.map (·.2) → ∃ p ∈ cs, p.2 = b ∧ s₁.heap.get? b = some { cls := .none, data := .fields #[] } := by
    intro b hb
    obtain ⟨p, hp, rfl⟩ := List.mem_map.mp hb
    exact ⟨p, hp, rfl, hT p hp⟩
  have free : ∀ {b : Addr} {o : Obj}, s₁.heap.get? b = some o → (∀ us n, o.data ≠ .seq us n) → o.data ≠ .fields #[] → H b = none := by
    intro b o e h1 h2
    apply Classical.byContradiction
    intro z
    rcases hA b z with rfl | hb
    · rw [ha] at e; cases e; exact h1 _ _ rfl
    · obtain ⟨_, _, _, e2⟩ := tab b hb
      rw [e2] at e; cases e; exact h2 rfl
  have nsK : ∀ {b : Addr} {m : Str → Option Value}, s₁.heap.Ns b m → (hidT s₁.heap H).Ns b m := by
    rintro b m ⟨o, es, ep, e, d, r⟩
    exact ⟨o, es, ep, hidT_get e (free e (fun _ _ z => by rw [d] at z; cases z) fun z => by rw [d] at z; cases z), d, r⟩
  have kb : K.In (hidT s₁.heap H) := by
    intro b o e
    refine hidT_get (KX b o e) (Classical.byContradiction fun z => ?_)
    rw [hK b z] at e; cases e
  have M : Mod K mg (hidT s₁.heap H) := by
    obtain ⟨mc, h1, h2⟩ := g4
    exact ⟨kb, nsK g1, ⟨mb, nsK g2, g3⟩, ⟨mc, nsK h1, h2⟩⟩
  have gne : ∀ p ∈ cs, mainGlobals ≠ p.2 := by
    intro p hp z
    obtain ⟨o, es, ep, e, d, _⟩ := g1
    rw [z, hT p hp] at e; cases e; cases d
  have B : ∀ p ∈ cs, TabB (hidT s₁.heap H) mg p.1 p.2 := by
    intro p hp
    refine ⟨?_, ?_, gne p hp⟩
    · obtain ⟨o, us, file, tf, flags, tg, inF, text, tt, e1, r1, r2, r3, r⟩ := hC p hp
      refine ⟨o, us, file, tf, flags, tg, inF, text, tt, hidT_get e1 (free e1 (fun _ _ z => by rw [r2] at z; cases z) fun z => ?_), r1, r2, r3, r⟩
      rw [r2] at z; cases z; simp at r3
    · obtain ⟨bm, ob, b1, b2, b3, b4, b5, b6⟩ := g6
      refine ⟨bm, ob, b1, b2, ?_, ?_, hidT_get b3 (free b3 (fun _ _ z => by rw [b6] at z; cases z) fun z => by rw [b6] at z; cases z), b4, b5, b6⟩
      · intro z
        obtain ⟨o, es, ep, e, d, _⟩ := g1
        rw [z, e] at b3; cases b3; rw [d] at b6; cases b6
      · intro z
        rw [z, hT p hp] at b3; cases b3; cases b6
  have e0 : Env0 P w K mg (hidT s₁.heap H) callerA [] s₁ H :=
    { frames := rfl, mod := M, bs := fun b o e => of_hidT e, bsz := Nat.le_of_eq (hidT_size _ _), funs := trivial, frf := fun b z => absurd (show b ∈ ([] : List Addr) from z) (by simp), hok := ok, bare := .of_eq g5 }
  have run := (F _ kb (nsK g1) B).goes callerA [] s₁ H ⟨[.ref a], []⟩ [.ref a] [.ref a] _ _ rfl hr e0 (bd s₁ (.ref a)) (.cons rfl .nil) want
  refine codeAny_mono run fun r s' h => ?_
  match r, h with
  | .error e, h => exact (show False from h).elim
  | .ok .next, h => exact (show False from h).elim
  | .ok .brk, h => exact (show False from h).elim
  | .ok .cont, h => exact (show False from h).elim
  | .ok (.ret u), ⟨v, H', os, bare, un, ok', rv, (qv : v = .bl true)⟩ =>
    cases qv
    cases (show u = Value.bool true from rv)
    have same : ∀ b o, H b = none → s₁.heap.get? b = some o → s'.heap.get? b = some o := fun b o q e => un.keep b o e q (fun z => absurd (show b ∈ ([] : List Addr) from z) (by simp)) (by simp)
    have key : ∀ b o, s₁.heap.get? b = some o → s'.heap.get? b = some o ∨ (b ∈ cs.map (·.2) ∧ ∃ more : Array Value, s'.heap.get? b = some { cls := .none, data := .fields more }) := by
      intro b o e
      rcases hO b with z | ⟨hb, z⟩ | ⟨ob, xs, z⟩
      · exact .inl (same b o z e)
      · obtain ⟨more, z2⟩ := un.tbls b _ z
        exact .inr ⟨hb, _, ok' b _ z2⟩
      · have f1 := (ok b _ z).1
        have f2 := (ok' b _ (un.frzs b ob _ z)).1
        rw [f1] at e; cases e
        exact .inl f2
    refine ⟨rfl, ⟨fun b o e => ?_, fun b o e => ?_⟩, os, bare⟩
    · rcases key b o e with z | ⟨hb, more, z⟩
      · exact .inl z
      · obtain ⟨p, hp, rfl, et⟩ := tab b hb
        rw [et] at e; cases e
        exact .inr (.inl ⟨((hC p hp).tab et).isCodeTable, rfl, #[], more, rfl, by rw [Array.empty_append]; exact z⟩)
    · rcases key b o e with z | ⟨_, more, z⟩
      · exact ⟨_, z⟩
      · exact ⟨_, z⟩
theorem lawT {cs : List (Addr × Addr)} (KX : K.In s₁.heap) (g1 : s₁.heap.Ns mainGlobals mg) (g2 : s₁.heap.Ns builtinsNs mb) (g3 : ∀ x : Str, x ≠ "__name__" → mb x = bootBuiltins x) (g4 : s₁.heap.NoLimit) (g5 : s₁.gens = #[])
    (g6 : ∃ (bm : Addr) (ob : Obj), mg "__builtins__" = some (.ref bm) ∧ bm ≠ builtinsNs ∧ s₁.heap.get? bm = some ob ∧ ob.cls = .type "module" ∧ ob.dict = some builtinsNs ∧ ob.data = .plain)
    (hT : ∀ p ∈ cs, s₁.heap.get? p.2 = some { cls := .none, data := .fields #[] }) (hC : ∀ p ∈ cs, PySem.W.CodeHd s₁.heap p.1 p.2) (nT : ∀ p ∈ cs, K.lookup p.2 = none)
    (ha : s₁.heap.get? a = some { cls := .type "list", data := .seq vs.toArray }) (hi : IntsAre vs ns) (hl : ns.length ≤ sizeLine) (hr : Room k callerA)
    (F : ∀ base : Heap, K.In base → base.Ns mainGlobals mg → (∀ p ∈ cs, TabB base mg p.1 p.2) → FnOkG P w K mg base CX0 k fa fd [x] sp) (bd : ∀ (s : Shared) (u : Value), BindsTo s fd ⟨[u], []⟩ [(x, u)])
    (want : ∀ H : Hp, (∀ p ∈ cs, H p.2 = some (.tbl #[])) → SqL K H a (ns.map V.int) → sp [.ref a] H (fun v _ => v = .bl true) fun _ _ _ => False) :
    codeAny (model P w) callerA (.call (.ref fa) ⟨[.ref a], []⟩) (fun r s' => r = .ok (.ret (.bool true)) ∧ OldK s₁.heap s'.heap ∧ s'.os = s₁.os ∧ AllBare s'.gens) s₁ := by
  have rv := vals_ints hi
  have tab : ∀ b, b ∈ cs.map (·.2) → s₁.heap.get? b = some { cls := .none, data := .fields #[] } ∧ K.lookup b = none := by
    intro b hb
    obtain ⟨p, hp, rfl⟩ := List.mem_map.mp hb
    exact ⟨hT p hp, nT p hp⟩
  have na : a ∉ cs.map (·.2) := fun z => by
    have := (tab a z).1
    rw [ha] at this
    cases this
  have tok : ∀ {H : Hp} {b : Addr}, b ∈ cs.map (·.2) → ObjOk P w H s₁.heap b (.tbl #[]) := fun hb => (tab _ hb).1
  by_cases hk : K.lookup a = none
  · let H : Hp := fun b => if b = a then some (.frz { cls := .type "list", data := .seq vs.toArray } (.lst (ns.map V.int))) else if b ∈ cs.map (·.2) then some (.tbl #[]) else none
    have Ha : H a = some (.frz { cls := .type "list", data := .seq vs.toArray } (.lst (ns.map V.int))) := if_pos rfl
    have Ht : ∀ b ∈ cs.map (·.2), H b = some (.tbl #[]) := fun b hb => (if_neg fun z => na (by rw [← z]; exact hb)).trans (if_pos hb)
    have Hn : ∀ b, b ≠ a → b ∉ cs.map (·.2) → H b = none := fun b n m => (if_neg n).trans (if_neg m)
    have hA : ∀ b, H b ≠ none → b = a ∨ b ∈ cs.map (·.2) := fun b z => Classical.byContradiction fun q => z (Hn b (fun y => q (.inl y)) fun y => q (.inr y))
    refine lawT0 KX g1 g2 g3 g4 g5 g6 hT hC ha hr F bd H (fun b => ?_) (want H (fun p hp => Ht _ (List.mem_map.mpr ⟨p, hp, rfl⟩)) (.inl (.inr ⟨_, Ha⟩))) (fun b u z => ?_) hA (fun b z => ?_)
    · by_cases e : b = a
      · exact .inr (.inr ⟨_, _, e ▸ Ha⟩)
      · by_cases m : b ∈ cs.map (·.2)
        · exact .inr (.inl ⟨m, Ht b m⟩)
        · exact .inl (Hn b e m)
    · rcases hA b (by rw [z]; intro y; cases y) with rfl | m
      · rw [Ha] at z; cases z
        exact ⟨ha, by rw [List.length_map]; exact hl, vs, _, rv, ha⟩
      · rw [Ht b m] at z; cases z
        exact tok m
    · rcases hA b z with rfl | m
      · exact hk
      · exact (tab b m).2
  · obtain ⟨o, ho⟩ := Option.ne_none_iff_exists'.mp hk
    have e := KX a o ho
    rw [ha] at e
    cases e
    let H : Hp := fun b => if b ∈ cs.map (·.2) then some (.tbl #[]) else none
    have Ht : ∀ b ∈ cs.map (·.2), H b = some (.tbl #[]) := fun b hb => if_pos hb
    have hA : ∀ b, H b ≠ none → b ∈ cs.map (·.2) := fun b z => Classical.byContradiction fun q => z (if_neg q)
    refine lawT0 KX g1 g2 g3 g4 g5 g6 hT hC ha hr F bd H (fun b => ?_) (want H (fun p hp => Ht _ (List.mem_map.mpr ⟨p, hp, rfl⟩)) (.inr ⟨_, vs.toArray, _, ho, rfl, rfl, rfl, by rw [List.size_toArray, hi.length]; exact hl, by simpa using rv⟩)) (fun b u z => ?_) (fun b z => .inr (hA b z)) fun b z => (tab b (hA b z)).2
    · by_cases m : b ∈ cs.map (·.2)
      · exact .inr (.inl ⟨m, Ht b m⟩)
      · exact .inl (if_neg m)
    · have m := hA b (by rw [z]; intro y; cases y)
      rw [Ht b m] at z; cases z
      exact tok m
end
/-- ts: the tables of all defs that make lambdas -/
theorem walkM {l : PySem.W.OpenLaw} {n k : Nat} {q : Program} {loose : List Str} {XP : (Str → Option Value) → Heap → Prop} {YP : World → Heap → Prop} {d : DefRec} {K : Params → PySem.W.Frag} {x : Str} {ts : List Addr}
    (hn : l.most = some n) (hn2 : n ≤ sizeLine) (hdf : d.params.defaults = []) (hr : Room k callerA) (hY : ∀ (w : World) (h : Heap), YP w h → (K w.params).In h) (hT : ∀ (w : World) (h : Heap), YP w h → ∀ P ∈ ts, h.get? P = some (tabObj #[]))
    (F : ∀ (w : World) (mg : Str → Option Value) (fa : Addr) (h : Heap), (K w.params).In h → h.Ns mainGlobals mg → mg d.name = some (.ref fa) →
      ∃ (fd : FuncData) (cs : List (Addr × Addr)) (sp : Sp), (∀ t ∈ cs, t.2 ∈ ts ∧ PySem.W.codeHdIn (K w.params) t.1 t.2 = true ∧ (K w.params).lookup t.2 = none) ∧ (∀ (s : Shared) (u : Value), BindsTo s fd ⟨[u], []⟩ [(x, u)]) ∧
        (∀ (H : Hp) (a : Addr) (ns : List Int), ns.length ≤ n → (∀ t ∈ cs, H t.2 = some (.tbl #[])) → SqL (K w.params) H a (ns.map V.int) → sp [.ref a] H (fun v _ => v = .bl true) fun _ _ _ => False) ∧
        ∀ base : Heap, (K w.params).In base → base.Ns mainGlobals mg → (∀ t ∈ cs, LamX.TabB base mg t.1 t.2) → FnOkG l.prog w (K w.params) mg base CX0 k fa fd [x] sp) :
    PySem.W.WalkO q loose XP YP l.row.toRowW d [] (fun f vs => PySem.call f vs) := by
  apply Att.attach_call hn hdf
  intro w s₀ s₁ mg mb fa o pm cd doc a vs ns G Y ho hd hcd hmg hobj hints hlen hg
  have KX := hY w _ Y
  obtain ⟨fd, cs, sp, hcs, bd, want, hF⟩ := F w mg fa _ KX G.T.g hmg
  exact lawT (cs := cs) KX G.T.g G.T.b G.T.builtins G.T.nolimit hg G.T.bmain (fun p hp => hT w _ Y _ (hcs p hp).1) (fun p hp => PySem.W.codeHd_of_K KX (hcs p hp).2.1) (fun p hp => (hcs p hp).2.2) hobj hints (Nat.le_trans hlen hn2) hr hF bd fun H hH hS => want H a ns hlen hH hS
/-! ### lambdas made and called; sorted by them -/
section
open LamX (CodeO TabS Tabs ExtN TabB)
variable {X : Cx}
def tLamE (TT : List (Addr × Str)) (qual : Str) (params : Arguments) (body : Expr) (scope : Scope) : TE := fun _ H Q => Tabs TT H ∧ ∀ f c H1, ExtN H H1 → Tabs TT H1 → (∀ b, H1 b = none → H b = none) → H1 f = some (LamO f qual params body scope c) → H1 c = some (CodeO c qual) → Q (.ref f) H1
theorem pe_lam3 {TT : List (Addr × Str)} {c P : Addr} {params : Arguments} {body : Expr} {scope : Scope} {pos : Pos} (B : TabB X.base X.mg c P) (code : X.env.code = .ref c) (hm : (P, X.env.qual ++ "<lambda>") ∈ TT) (hu : ∀ p ∈ TT, p.1 = P → p.2 = X.env.qual ++ "<lambda>")
    (hd : defaultsOf params X.env = ([], []) := by rfl) (hcl : closureFor scope X.env = pure [] := by rfl) : PE X (.Lambda params body scope pos) (tLamE TT (X.env.qual ++ "<lambda>") params body scope) := by
  refine ⟨fun pins s σ H Q I h => ?_⟩
  obtain ⟨hT, q⟩ := h
  exact lam_make3 I B code hm hu hT hd hcl fun f c' H1 s' I1 e1 t1 h0 h1 h2 => ⟨.ref f, H1, I1, rfl, q f c' H1 e1 t1 h0 h1 h2⟩
theorem CE.gone {H : Hp} {s s' : Shared} {Q : VK} {u : Value} (h : CE X.stack X.prog X.w H s Q u s') : ∃ v H', Gone X H s H' s' ∧ RelV v u ∧ Q v H' := by
  obtain ⟨v, H', os, bare, un, hok, r, q⟩ := h
  exact ⟨v, H', ⟨os, bare, un, hok⟩, r, q⟩
theorem inv_env1 {pins : List (Addr × Obj)} {σ : L2.St} {H : Hp} {s : Shared} (I : L2.Inv X pins σ H s) : Env0 X.prog X.w X.K X.mg X.base X.A.in1.in1 X.stack s H := { I.env0 with frames := I.env0.frames }
section
variable {pins : List (Addr × Obj)} {σ : L2.St} {H : Hp} {s : Shared} {f c : Addr} {qual : Str} {params : Arguments} {body : Expr} {scope : Scope} {N ps : List Str} {tb : TE} {k : Nat} {us : List Value} {vs : List V} {Q : VK}
theorem run_lam3 (I : L2.Inv X pins σ H s) (hf : H f = some (LamO f qual params body scope c)) (hc : H c = some (CodeO c qual)) (S : FnScope N ps scope)
    (bind : ∀ (us : List Value) (pm cv ctv : Value), us.length = ps.length → bindArgs (PySem.W.kla_fn "<lambda>" qual params body scope [] pm cv ctv) ⟨us, []⟩ = pure (ps.zip us)) (hr : Room (k + 1) X.A.in1.in1)
    (hb : ∀ (A : Around) (outer : List Env) (s : Shared) (H : Hp), Room k (A.deeper (envOfC qual scope s.heap.objs.size f (.ref c))) → PE (cxOf CX0 X.prog X.w X.K X.mg X.base N qual scope f (.ref c) A outer s H E0).nox body tb)
    (r : Vals vs us) (hl : vs.length = ps.length) (want : tb (L2.start N vs) H Q) : wpAny (model X.prog X.w) X.A.in1.in1 (call (.ref f) us) (fun u s' => CE X.stack X.prog X.w H s Q u s') (fun _ _ => False) s := by
  obtain ⟨pm, ctv, of⟩ := lamO_at I.hok hf
  obtain ⟨oc, cvs, t, hoc, hdc, hvc⟩ := codeO_at I.hok hc
  have env := (inv_env1 I)
  have lim : s.heap.NoLimit := I.nolimit
  have hul : us.length = ps.length := r.length.symm.trans hl
  have vis : ∀ y ∈ ps.zip us, scope.names.lookup y.1 = some .local ∨ (scope.names.lookup y.1 = some .cell ∧ ((cellsFrom (s.heap.objs.size + 1) scope.names []).lookup y.1).isSome = true) := by
    rintro ⟨n, v⟩ hy
    exact (S.par n (List.of_mem_zip hy).1).elim Or.inl fun z => Or.inr ⟨z, PySem.W.cellsFrom_some _ _ _ (Or.inl z)⟩
  refine wpAny_call (PySem.W.kla_callFunE hr.depth of rfl S.co S.gen rfl ⟨c, oc, cvs, t, rfl, hoc, hdc, hvc⟩ ?_)
  rw [bind us _ _ _ hul]
  refine wpAny_pure (wpAny_newFunctionEnv_cells S.kind vis fun env' he s1 x => ?_)
  cases he
  refine ⟨lim.keeps x.toInCall.keep, PySem.W.kla_codeExpr ?_⟩
  have J : L2.Inv (cxOf CX0 X.prog X.w X.K X.mg X.base N qual scope f (.ref c) X.A.in1.in1 X.stack s H E0) [] (L2.start N vs) H s1 := inv_start S hr.hd env hl r x
  refine wpAny_mono ((hb _ _ s H (hr.deeper _)).run [] s1 _ H Q (J.wish _) want) (fun u s' z => ?_) fun e s' z => z.elim
  obtain ⟨v, H', J', rv, q⟩ := z
  exact ⟨v, H', J'.os, J'.bare, J'.base, J'.hok, rv, q⟩
end
/-- sorted(l, key=lambda ..: ..) -/
def rSortL (K : PySem.W.Frag) {α : Type} (KR : Hp → V → α → Prop) (lt : α → α → Bool) (qual : Str) (params : Arguments) (body : Expr) (scope : Scope) (N : List Str) (tb : TE) : List V → List V → Hp → VK → Prop := fun vs zs H Q =>
  ∃ (l f c : Addr) (xs : List V) (ks : List α), vs = [.ref l] ∧ zs = [.ref f] ∧ H f = some (LamO f qual params body scope c) ∧ H c = some (CodeO c qual) ∧ SqL K H l xs ∧ ks.length = xs.length ∧
    (∀ (j : Nat) (x : V) (k : α) (H2 : Hp), xs[j]? = some x → ks[j]? = some k → Same H H2 → tb (L2.start N [x]) H2 fun y H3 => Same H2 H3 ∧ KR H3 y k) ∧
    ∀ H2 p, Same H H2 → H2 p = none → Q (.ref p) (upd H2 p (.lst (byKeys lt ks xs)))
theorem call_sortL {α : Type} {KR : Hp → V → α → Prop} {lt : α → α → Bool} (KO : KeyOk X KR lt) {qual : Str} {params : Arguments} {body : Expr} {scope : Scope} {N : List Str} {px : Str} {tb : TE} {k : Nat} (S : FnScope N [px] scope)
    (bind : ∀ (us : List Value) (pm cv ctv : Value), us.length = 1 → bindArgs (PySem.W.kla_fn "<lambda>" qual params body scope [] pm cv ctv) ⟨us, []⟩ = pure ([px].zip us)) (hr : Room (k + 3) X.A)
    (hb : ∀ (f c : Addr) (A : Around) (outer : List Env) (s : Shared) (H : Hp), Room k (A.deeper (envOfC qual scope s.heap.objs.size f (.ref c))) → PE (cxOf CX0 X.prog X.w X.K X.mg X.base N qual scope f (.ref c) A outer s H E0).nox body tb) :
    CallRK X (.builtin "sorted") ["key"] (rSortL X.K KR lt qual params body scope N tb) := by
  intro pins s σ H xs zs us ws Q I r rz h
  obtain ⟨l, f, c, ys, ks, rfl, rfl, hf, hc, hs, hk, turn, fin⟩ := h
  obtain ⟨ud, rfl, rd⟩ := Vals.one rz
  obtain rfl : ud = Value.ref f := rd
  rw [Vals.ref1 r]
  refine key_sorted KO I hs hk (fun j x ky H2 s2 u hx hky g s12 rx => ?_) fin
  have I2 := g.inv I
  refine wpAny_mono (run_lam3 (ps := [px]) (vs := [x]) (us := [u]) I2 (s12 _ _ hf) (s12 _ _ hc) S bind hr.in1.in1 (hb f c) (.cons rx .nil) rfl (turn j x ky H2 hx hky s12)) (fun v s3 z => ?_) fun _ _ z => z
  obtain ⟨y, H3, g3, ry, s23, hK⟩ := CE.gone z
  exact ⟨H3, g3, s23, y, ry, hK⟩
/-- sorted(l, key=f), f a def of the module -/
def rSortF (K : PySem.W.Frag) {α : Type} (KR : Hp → V → α → Prop) (lt : α → α → Bool) (f : Addr) (sp : Sp) : List V → List V → Hp → VK → Prop := fun vs zs H Q =>
  ∃ (l : Addr) (xs : List V) (ks : List α), vs = [.ref l] ∧ zs = [.ref f] ∧ SqL K H l xs ∧ ks.length = xs.length ∧
    (∀ (j : Nat) (x : V) (k : α) (H2 : Hp), xs[j]? = some x → ks[j]? = some k → Same H H2 → sp [x] H2 (fun y H3 => Same H2 H3 ∧ KR H3 y k) E0) ∧
    ∀ H2 p, Same H H2 → H2 p = none → Q (.ref p) (upd H2 p (.lst (byKeys lt ks xs)))
theorem call_sortF {α : Type} {KR : Hp → V → α → Prop} {lt : α → α → Bool} (KO : KeyOk X KR lt) {f : Addr} {fd : FuncData} {px : Str} {sp : Sp} {k : Nat} (F : FnOk X.prog X.w X.K X.mg X.base CX0 k f fd [px] sp) (hb : L2.Binds X.K fd [px] []) (hr : Room (k + 2) X.A) :
    CallRK X (.builtin "sorted") ["key"] (rSortF X.K KR lt f sp) := by
  intro pins s σ H xs zs us ws Q I r rz h
  obtain ⟨l, ys, ks, rfl, rfl, hs, hk, turn, fin⟩ := h
  obtain ⟨ud, rfl, rd⟩ := Vals.one rz
  obtain rfl : ud = Value.ref f := rd
  rw [Vals.ref1 r]
  refine key_sorted KO I hs hk (fun j x ky H2 s2 u hx hky g s12 rx => ?_) fin
  have I2 := g.inv I
  have bd := hb s2 [u] I2.kIn rfl
  rw [List.append_nil] at bd
  refine wpAny_call (codeAny_mono (F.run X.A.in1.in1 X.stack s2 H2 ⟨[u], []⟩ [u] [x] _ E0 hr.in1.in1 (inv_env1 I2) bd (.cons rx .nil) (turn j x ky H2 hx hky s12)) fun z s3 hz => ?_)
  match z, hz with
  | .error er, hz => exact (show False from hz).elim
  | .ok (.ret v), hz =>
    obtain ⟨y, H3, g3, ry, s23, hK⟩ := CE.gone hz
    exact ⟨H3, g3, s23, y, ry, hK⟩
  | .ok .next, hz => exact (show False from hz).elim
  | .ok .brk, hz => exact (show False from hz).elim
  | .ok .cont, hz => exact (show False from hz).elim
end
/-! ### calls by places and names, defaults -/
def nthL {α : Type} : List α → Nat → List α
  | [], _ => []
  | a :: _, 0 => [a]
  | _ :: l, n + 1 => nthL l n
def pickL {α : Type} (l : List α) : List Nat → List α
  | [] => []
  | i :: r => nthL l i ++ pickL l r
theorem nthL_vals : ∀ {vs : List V} {us : List Value} (i : Nat), Vals vs us → Vals (nthL vs i) (nthL us i)
  | _, _, _, .nil => .nil
  | _, _, 0, .cons r _ => .cons r .nil
  | _, _, i + 1, .cons _ t => nthL_vals i t
theorem pickL_vals {vs : List V} {us : List Value} (h : Vals vs us) : ∀ is : List Nat, Vals (pickL vs is) (pickL us is)
  | [] => .nil
  | i :: r => (nthL_vals i h).append (pickL_vals h r)
theorem kbD {K : PySem.W.Frag} {x qual : Str} {params : Arguments} {body : List Stmt} {scope : Scope} {dvs : List V} {kws : List (Str × V)} {f : Addr} {fd : FuncData} {ps : List Str} (F : FunD K x qual params body scope dvs kws f fd) (n : Nat) (ks : List Str) (is : List Nat) (hd : dvs ≠ [])
    (h : ∀ (T : Addr) (kV doc pm : Value) (an : Option Addr) (cdv ct : Value) (us its ws : List Value), us.length = n → its.length = dvs.length → ws.length = ks.length →
      ∃ k, bindArgs (PySem.W.fnOf x qual params body scope (.ref T) kV doc pm an cdv ct) ⟨us, ks.zip ws⟩ = seqItems? (.ref T) >>= k ∧ k (some its.toArray) = pure (ps.zip (pickL (us ++ its ++ ws) is))) :
    ∃ its : List Value, KBn K fd ps n ks (fun us ws => pickL (us ++ its ++ ws) is) (fun vs zs => pickL (vs ++ dvs ++ zs) is) :=
  FunD.kbindsD F n ks (fun us its ws => pickL (us ++ its ++ ws) is) hd (fun a b c => pickL_vals ((a.append b).append c) is) h
theorem kbF {K : PySem.W.Frag} {x qual : Str} {st : Stmt} {f : Addr} {fd : FuncData} {ps : List Str} (F : Fun K x qual st f fd) (n : Nat) (ks : List Str) (is : List Nat)
    (h : ∀ (kV doc pm : Value) (an : Option Addr) (cdv ct : Value) (us ws : List Value), us.length = n → ws.length = ks.length → bindArgs (PySem.W.fnOf x qual (defArgs st) (defBody st) (defScope st) .none kV doc pm an cdv ct) ⟨us, ks.zip ws⟩ = pure (ps.zip (pickL (us ++ ws) is))) :
    KBn K fd ps n ks (fun us ws => pickL (us ++ ws) is) (fun vs zs => pickL (vs ++ zs) is) := by
  obtain ⟨oc, od, kV, doc, pm, an, cdv, ct, osl, rfl, lk, hcd⟩ := F.ex
  exact ⟨fun s us ws _ h1 h2 => .of_eq (h kV doc pm an cdv ct us ws h1 h2), fun a b => pickL_vals (a.append b) is⟩
section
variable {X : Cx} {CX : CXT} {k : Nat} {f : Addr} {fd : FuncData} {ps ks : List Str} {sp : Sp} {E : XK} {x : Str} {p pos : Pos} {kws : List Keyword} {tk : TA} {g : List Value → List Value → List Value} {gV : List V → List V → List V}
/-- f(k = v, ..) -/
theorem pe_callN0 (F : FnOk X.prog X.w X.K X.mg X.base CX k f fd ps sp) (hr : Room k X.A) (hg : Gl X x) (hm : X.mg x = some (.ref f)) (hk : PySem.W.keepIn X.K (.ref f) = true) (hb : KBn X.K fd ps 0 ks g gV) (hx : Passes CX X E)
    (hkw : PK X kws tk) (hall : (backToKw pos (keywordEach kws X.env)).all (·.1.isSome) = true := by rfl) (hks : (backToKw pos (keywordEach kws X.env)).filterMap (·.1) = ks := by rfl)
    (hdb : (x == ("__debug__" : Str)) = false := by decide)
    (hpl : ((backTo pos (starEach [] X.env)).any (·.1) || (backToKw pos (keywordEach kws X.env)).any (·.1.isNone)) = false := by rfl) :
    PE X (.Call (.Name x p) [] kws pos) (tCallN 0 ks.length sp gV E tNil tk) := by
  refine ⟨fun pins s σ H Q I h => ?_⟩
  refine wpAny_Call_Name_kw (ld_glob I hg hm ?_ hdb)
  refine PySem.W.callWith_KW0 (h₀ := X.base) I.ok.mod.kin hk hall ?_ hpl
  refine thn (hkw.run pos pins s σ H _ I h) fun ws s2 ⟨zs, H2, I2, rz, _, l2, q2⟩ => ⟨I2.kIn, ?_⟩
  rw [hks]
  exact run_fnN F hr hb hx I2 .nil rz rfl l2 q2
end
/-! ### == and != of lists of own objects, whatever comes of it -/
set_option maxHeartbeats 8000000
section
open PySem.SeqAt GQ
open AutoSeq1 (wpAny_loadPart')
open MeetsSeq MeetsSeq2 MeetsSeq3 SeqRoads2
section
variable {prog : Program} {w : World} {A : Around} {R : Result → Shared → Prop}
/-- the lists at l and b are read anew at each turn, N items each; the first k are equal, and the k-th, where there is one, is not -/
def ListB (prog : Program) (w : World) (A : Around) (E : Value → Shared → Prop) (l b : Addr) (N k : Nat) (I : Nat → Shared → Prop) : Prop :=
  ∀ i s, I i s → ∃ (items items2 : Array Value) (n n2 : Nat), s.heap.get? l = some { cls := .type "list", data := .seq items n } ∧ s.heap.get? b = some { cls := .type "list", data := .seq items2 n2 } ∧ items.size = N ∧ items2.size = N ∧
    ∀ (h1 : i < items.size) (h2 : i < items2.size), i ≤ k → wpAny (model prog w) A.in1 (eqBool items[i] items2[i]) (fun r s' => r = decide (i < k) ∧ I (i + 1) s') E s
theorem b_loop (l b : Addr) (N k : Nat) (hk : k ≤ N) (I : Nat → Shared → Prop) (hl : ListB prog w A (fun e s' => R (.error e) s') l b N k I) (neg : Bool)
    (fin : ∀ i s, I i s → R (.ok (.ret (.bool (neg != decide (k = N))))) s) (m : Nat) :
    ∀ i : Nat, k - i = m → i ≤ k → ∀ s, I i s →
      wpAny (model prog w) A.in1 (Builtin.«list.__eq__.loop» ⟨[.ref l, .ref b, rawInt i, rawInt (if neg = true then 3 else 2)], []⟩) (FinOf prog w A R) (fun e s' => R (.error e) s') s := by
  induction m with
  | zero =>
    intro i hm hi s h
    obtain ⟨items, items2, n, n2, hl1, hb1, hs1, hs2, turn⟩ := hl _ _ h
    have hi' : i = k := by omega
    subst hi'
    by_cases c : i = N
    · have hR : R (.ok (.ret (.bool (neg != true)))) s := by have := fin _ s h; rw [decide_eq_true c] at this; exact this
      obtain ⟨hp, g, d, tk, os⟩ := s
      have hi1 : items[((i : Nat) : Int).toNat]? = none := by simp; omega
      have hi2 : items2[((i : Nat) : Int).toNat]? = none := by simp; omega
      cases neg with
      | true =>
        rw [if_pos rfl]
        wp_walk using wpAny_loadPart' hl1, wpAny_loadPart' hb1
        rw [hi1, hi2]
        wp_walk using wpAny_loadPart' hl1, wpAny_loadPart' hb1
        show R (.ok (.ret (.bool (items.size != items2.size)))) _
        rw [hs1, hs2]
        simpa using hR
      | false =>
        rw [if_neg (by decide)]
        wp_walk using wpAny_loadPart' hl1, wpAny_loadPart' hb1
        rw [hi1, hi2]
        wp_walk using wpAny_loadPart' hl1, wpAny_loadPart' hb1
        show R (.ok (.ret (.bool (items.size == items2.size)))) _
        rw [hs1, hs2]
        simpa using hR
    · have hlt : i < items.size := by omega
      have hlt2 : i < items2.size := by omega
      have ht := turn hlt hlt2 (Nat.le_refl _)
      rw [decide_eq_false (Nat.lt_irrefl i)] at ht
      have hi1 : items[((i : Nat) : Int).toNat]? = some items[i] := by simp [hlt]
      have hi2 : items2[((i : Nat) : Int).toNat]? = some items2[i] := by simp [hlt2]
      have after : ∀ s2, I (i + 1) s2 → ∃ (js js2 : Array Value) (n n2 : Nat) (x y : Value), s2.heap.get? l = some { cls := .type "list", data := .seq js n } ∧ s2.heap.get? b = some { cls := .type "list", data := .seq js2 n2 } ∧ js[((i : Nat) : Int).toNat]? = some x ∧ js2[((i : Nat) : Int).toNat]? = some y ∧ R (.ok (.ret (.bool (neg != false)))) s2 := by
        intro s2 h2
        obtain ⟨js, js2, n, n2, a1, a2, b1, b2, _⟩ := hl _ _ h2
        have hR := fin _ s2 h2
        rw [decide_eq_false c] at hR
        have z1 : i < js.size := by omega
        have z2 : i < js2.size := by omega
        exact ⟨js, js2, n, n2, js[i], js2[i], a1, a2, by simp [z1], by simp [z2], hR⟩
      obtain ⟨hp, g, d, tk, os⟩ := s
      cases neg with
      | true =>
        rw [if_pos rfl]
        wp_walk using wpAny_loadPart' hl1, wpAny_loadPart' hb1
        rw [hi1, hi2]
        refine wpAny_bind (wpAny_mono ht (fun r s2 h2 => ?_) fun _ _ x => x)
        obtain ⟨hr, h2⟩ := h2
        subst hr
        obtain ⟨js, js2, n, n2, x, y, a1, a2, e1, e2, hR⟩ := after _ h2
        obtain ⟨hp2, g2, d2, tk2, os2⟩ := s2
        wp_walk using wpAny_loadPart' a1, wpAny_loadPart' a2
        rw [e1, e2]
        wp_walk
        exact hR
      | false =>
        rw [if_neg (by decide)]
        wp_walk using wpAny_loadPart' hl1, wpAny_loadPart' hb1
        rw [hi1, hi2]
        refine wpAny_bind (wpAny_mono ht (fun r s2 h2 => ?_) fun _ _ x => x)
        obtain ⟨hr, h2⟩ := h2
        subst hr
        obtain ⟨js, js2, n, n2, x, y, a1, a2, e1, e2, hR⟩ := after _ h2
        obtain ⟨hp2, g2, d2, tk2, os2⟩ := s2
        wp_walk using wpAny_loadPart' a1, wpAny_loadPart' a2
        rw [e1, e2]
        wp_walk
        exact hR
  | succ m ih =>
    intro i hm hi s h
    obtain ⟨items, items2, n, n2, hl1, hb1, hs1, hs2, turn⟩ := hl _ _ h
    have hlt : i < items.size := by omega
    have hlt2 : i < items2.size := by omega
    have ht := turn hlt hlt2 hi
    rw [decide_eq_true (show i < k by omega)] at ht
    obtain ⟨hp, g, d, tk, os⟩ := s
    have hi1 : items[((i : Nat) : Int).toNat]? = some items[i] := by simp [hlt]
    have hi2 : items2[((i : Nat) : Int).toNat]? = some items2[i] := by simp [hlt2]
    have hc : ((i : Int) + 1) = ((i + 1 : Nat) : Int) := by omega
    cases neg with
    | true =>
      rw [if_pos rfl] at ih ⊢
      wp_walk using wpAny_loadPart' hl1, wpAny_loadPart' hb1
      rw [hi1, hi2]
      refine wpAny_bind (wpAny_mono ht (fun r s2 h2 => ?_) fun _ _ x => x)
      obtain ⟨hr, h2⟩ := h2
      subst hr
      have hrec := ih (i + 1) (by omega) (by omega) s2 h2
      obtain ⟨hp2, g2, d2, tk2, os2⟩ := s2
      wp_walk
      rw [hc]
      exact ⟨plainId_quiet plain_eq_loop _, codeAny_builtin entry_eq_loop (by
        rw [Around.under_plainId plain_eq_loop _]
        exact hrec)⟩
    | false =>
      rw [if_neg (by decide)] at ih ⊢
      wp_walk using wpAny_loadPart' hl1, wpAny_loadPart' hb1
      rw [hi1, hi2]
      refine wpAny_bind (wpAny_mono ht (fun r s2 h2 => ?_) fun _ _ x => x)
      obtain ⟨hr, h2⟩ := h2
      subst hr
      have hrec := ih (i + 1) (by omega) (by omega) s2 h2
      obtain ⟨hp2, g2, d2, tk2, os2⟩ := s2
      wp_walk
      rw [hc]
      exact ⟨plainId_quiet plain_eq_loop _, codeAny_builtin entry_eq_loop (by
        rw [Around.under_plainId plain_eq_loop _]
        exact hrec)⟩
end
section
variable {prog : Program} {w : World} {A : Around} {R : Result → Shared → Prop}
theorem list_eqB (neg : Bool) (l b : Addr) (N k : Nat) (hk : k ≤ N) (I : Nat → Shared → Prop) (hl : ListB prog w A (fun e s' => R (.error e) s') l b N k I)
    (fin : ∀ i s, I i s → R (.ok (.ret (.bool (neg != decide (k = N))))) s) {s : Shared} (h : I 0 s) :
    wpAny (model prog w) A.in1 ((if neg = true then Builtin.«list.__ne__» else Builtin.«list.__eq__») ⟨[.ref l, .ref b], []⟩) (FinOf prog w A R) (fun e s' => R (.error e) s') s := by
  obtain ⟨items, items2, n, n2, hl1, hb1, hs1, hs2, _⟩ := hl _ _ h
  have hrec := b_loop (A := A) (R := R) l b N k hk I hl neg fin _ 0 rfl (Nat.zero_le _) s h
  obtain ⟨hp, g, d, tk, os⟩ := s
  have f3 := AutoSeq1.sub_list_list
  have hne : ¬ (items.size != items2.size) = true := by simp [hs1, hs2]
  cases neg with
  | true =>
    rw [if_pos rfl] at hrec ⊢
    wp_walk using wpAny_loadPart' hl1, wpAny_loadPart' hb1
    exact ⟨plainId_quiet plain_eq_loop _, codeAny_builtin entry_eq_loop (by
      rw [Around.under_plainId plain_eq_loop _]
      exact hrec)⟩
  | false =>
    rw [if_neg (by decide)] at hrec ⊢
    wp_walk using wpAny_loadPart' hl1, wpAny_loadPart' hb1
    exact ⟨plainId_quiet plain_eq_loop _, codeAny_builtin entry_eq_loop (by
      rw [Around.under_plainId plain_eq_loop _]
      exact hrec)⟩
/-- lists of unlike lengths -/
theorem list_eqL (neg : Bool) (l b : Addr) {items items2 : Array Value} {n n2 : Nat} {s : Shared} (hl1 : s.heap.get? l = some { cls := .type "list", data := .seq items n }) (hb1 : s.heap.get? b = some { cls := .type "list", data := .seq items2 n2 }) (hne : (items.size != items2.size) = true)
    (fin : R (.ok (.ret (.bool neg))) s) :
    wpAny (model prog w) A.in1 ((if neg = true then Builtin.«list.__ne__» else Builtin.«list.__eq__») ⟨[.ref l, .ref b], []⟩) (FinOf prog w A R) (fun e s' => R (.error e) s') s := by
  obtain ⟨hp, g, d, tk, os⟩ := s
  have f3 := AutoSeq1.sub_list_list
  cases neg with
  | true =>
    rw [if_pos rfl]
    wp_walk using wpAny_loadPart' hl1, wpAny_loadPart' hb1
    exact fin
  | false =>
    rw [if_neg (by decide)]
    wp_walk using wpAny_loadPart' hl1, wpAny_loadPart' hb1
    exact fin
end
section
variable {prog : Program} {w : World} {A : Around} {E : Value → Shared → Prop} {s : Shared}
def opB (neg : Bool) : CmpOp := if neg = true then .NotEq else .Eq
theorem rc_listB (neg : Bool) {l b : Addr} {N k : Nat} {Q : Value → Shared → Prop} (hk : k ≤ N) (hu : A.units < cLine) (I : Nat → Shared → Prop) (hl : ListB prog w A E l b N k I)
    (fin : ∀ i s, I i s → Q (.bool (neg != decide (k = N))) s) (h : I 0 s) : wpAny (model prog w) A (richCompare (opB neg) (.ref l) (.ref b)) Q E s := by
  obtain ⟨items, items2, n, n2, hl1, hb1, _, _, _⟩ := hl _ _ h
  have z := list_eqB (prog := prog) (w := w) (A := A) (R := wants (fun v s' => v ≠ .notImplemented ∧ Q v s') E) neg l b N k hk I hl (fun i s' q => ⟨(fun x => nomatch x), fin i s' q⟩) h
  cases neg with
  | true => exact wpAny_richCompare_same_room (op := .NotEq) ⟨_, hl1, rfl⟩ ⟨_, hb1, rfl⟩ F.slot_list_ne (call_here F.slot_list_ne ⟨_, hl1, rfl⟩ F.entry_list_ne (F.args_list_ne_2 _ _) z) hu
  | false => exact wpAny_richCompare_same_room (op := .Eq) ⟨_, hl1, rfl⟩ ⟨_, hb1, rfl⟩ F.slot_list_eq (call_here F.slot_list_eq ⟨_, hl1, rfl⟩ F.entry_list_eq (F.args_list_eq_2 _ _) z) hu
theorem rc_listL (neg : Bool) {l b : Addr} {items items2 : Array Value} {n n2 : Nat} {Q : Value → Shared → Prop} (hu : A.units < cLine) (hl1 : s.heap.get? l = some { cls := .type "list", data := .seq items n }) (hb1 : s.heap.get? b = some { cls := .type "list", data := .seq items2 n2 }) (hne : (items.size != items2.size) = true)
    (fin : Q (.bool neg) s) : wpAny (model prog w) A (richCompare (opB neg) (.ref l) (.ref b)) Q E s := by
  have z := list_eqL (prog := prog) (w := w) (A := A) (R := wants (fun v s' => v ≠ .notImplemented ∧ Q v s') E) neg l b hl1 hb1 hne ⟨(fun x => nomatch x), fin⟩
  cases neg with
  | true => exact wpAny_richCompare_same_room (op := .NotEq) ⟨_, hl1, rfl⟩ ⟨_, hb1, rfl⟩ F.slot_list_ne (call_here F.slot_list_ne ⟨_, hl1, rfl⟩ F.entry_list_ne (F.args_list_ne_2 _ _) z) hu
  | false => exact wpAny_richCompare_same_room (op := .Eq) ⟨_, hl1, rfl⟩ ⟨_, hb1, rfl⟩ F.slot_list_eq (call_here F.slot_list_eq ⟨_, hl1, rfl⟩ F.entry_list_eq (F.args_list_eq_2 _ _) z) hu
end
end
section
open GQ
/-- how two values come out, by the abstract heap -/
abbrev EqvB := V → V → Bool → Hp → Prop
def MonB (D : EqvB) : Prop := ∀ x y b H H', Ext H H' → D x y b H → D x y b H'
def SelfB (D : EqvB) : Prop := ∀ x b H, D x x b H → b = true
def DqB (X : Cx) (n : Nat) (D : EqvB) : Prop :=
  ∀ (A : Around) (pins : List (Addr × Obj)) (s : Shared) (σ : L2.St) (H : Hp) (x y : V) (u v : Value) (b : Bool), Sub X n A → L2.Inv X pins σ H s → RelV x u → RelV y v → D x y b H →
    wpAny (model X.prog X.w) A (eqBool u v) (fun r s' => r = b ∧ ∃ H', L2.Inv X pins σ H' s' ∧ Ext H H') X.xe s
def DcB (X : Cx) (n : Nat) (op : CmpOp) (f : Bool → Bool) (D : EqvB) : Prop :=
  ∀ (A : Around) (pins : List (Addr × Obj)) (s : Shared) (σ : L2.St) (H : Hp) (x y : V) (u v : Value) (b : Bool), Sub X n A → L2.Inv X pins σ H s → RelV x u → RelV y v → D x y b H →
    wpAny (model X.prog X.w) A (richCompare op u v) (fun r s' => r = .bool (f b) ∧ ∃ H', L2.Inv X pins σ H' s' ∧ Ext H H') X.xe s
variable {X : Cx} {n m : Nat} {D D' : EqvB}
theorem DqB.mono (h : DqB X n D) (hn : n ≤ m) : DqB X m D := fun A pins s σ H x y u v b sb => h A pins s σ H x y u v b (sb.mono hn)
theorem DqB.or (h : DqB X n D) (h' : DqB X n D') : DqB X n (fun x y b H => D x y b H ∨ D' x y b H) := fun A pins s σ H x y u v b sb I rx ry d => by
  rcases d with d | d
  · exact h A pins s σ H x y u v b sb I rx ry d
  · exact h' A pins s σ H x y u v b sb I rx ry d
theorem DcB.dqB (h : DcB X n .Eq id D) (hr : ∀ x y b H, D x y b H → ∃ a c, x = .ref a ∧ y = .ref c) (hs : SelfB D) : DqB X n D := by
  intro A pins s σ H x y u v b sb I rx ry d
  obtain ⟨a, c, rfl, rfl⟩ := hr _ _ _ _ d
  cases rx
  cases ry
  by_cases hab : a = c
  · subst hab
    rw [hs _ _ _ d]
    exact SeqAt.EqAt.same (A := A) (s := s) (.ref a) X.prog X.w X.xe _ ⟨rfl, H, I, Ext.rfl'⟩
  · refine GQ.eqBool_refG hab (wpAny_mono (h A pins s σ H (.ref a) (.ref c) _ _ b sb I rfl rfl d) (fun r s' q => ?_) fun _ _ x => x)
    obtain ⟨hr', q⟩ := q
    exact ⟨b, hr', rfl, q⟩
/-- lists: of unlike lengths, or alike up to k, and unlike there -/
def PrsB (D : EqvB) (xs ys : List V) (b : Bool) (H : Hp) : Prop := (xs.length ≠ ys.length ∧ b = false) ∨
  (xs.length = ys.length ∧ ∃ k, k ≤ xs.length ∧ b = decide (k = xs.length) ∧ (∀ (i : Nat) x y, xs[i]? = some x → ys[i]? = some y → i ≤ k → D x y (decide (i < k)) H))
theorem PrsB.mon (hD : MonB D) {xs ys : List V} {b : Bool} {H H' : Hp} (e : Ext H H') (p : PrsB D xs ys b H) : PrsB D xs ys b H' := by
  rcases p with p | ⟨p, k, hk, hb, q⟩
  · exact .inl p
  · exact .inr ⟨p, k, hk, hb, fun i x y h1 h2 h3 => hD _ _ _ _ _ e (q i x y h1 h2 h3)⟩
def DListB (D : EqvB) : EqvB := fun x y b H => ∃ a c xs ys, x = .ref a ∧ y = .ref c ∧ H a = some (.lst xs) ∧ H c = some (.lst ys) ∧ PrsB D xs ys b H
theorem monB_list (hD : MonB D) : MonB (DListB D) := fun x y b H H' e d => by
  obtain ⟨a, c, xs, ys, hx, hy, h1, h2, p⟩ := d
  exact ⟨a, c, xs, ys, hx, hy, e _ _ h1, e _ _ h2, p.mon hD e⟩
theorem selfB_list (hs : SelfB D) : SelfB (DListB D) := fun x b H d => by
  obtain ⟨a, c, xs, ys, rfl, hy, h1, h2, p⟩ := d
  cases hy
  rw [h1] at h2
  cases h2
  rcases p with ⟨p, _⟩ | ⟨_, k, hk, hb, q⟩
  · exact absurd rfl p
  · rw [hb]
    by_cases c : k = xs.length
    · exact decide_eq_true c
    · have hlt : k < xs.length := by omega
      have := hs _ _ _ (q k _ _ (List.getElem?_eq_getElem hlt) (List.getElem?_eq_getElem hlt) (Nat.le_refl _))
      rw [decide_eq_false (Nat.lt_irrefl k)] at this
      cases this
theorem dcB_list (neg : Bool) (hD : MonB D) (h : DqB X n D) : DcB X (n + 1) (opB neg) (fun b => neg != b) (DListB D) := by
  intro A pins s σ H x y u v b sb I rx ry d
  obtain ⟨a, c, xs, ys, rfl, rfl, ha, hb, p⟩ := d
  cases rx
  cases ry
  rcases p with ⟨p, rfl⟩ | ⟨p, k, hk, rfl, q⟩
  · obtain ⟨z, its, k1, r, e⟩ := I.hok a _ ha
    obtain ⟨z2, its2, k2, r2, e2⟩ := I.hok c _ hb
    refine rc_listL neg sb.room.units0 e e2 ?_ ⟨by simp, H, I, Ext.rfl'⟩
    rw [List.size_toArray, List.size_toArray, ← r.length, ← r2.length]
    simpa using p
  · refine rc_listB neg (N := xs.length) (k := k) hk sb.room.units0 (fun _ s' => LoopI X pins σ H s') (fun i s' z => ?_) (fun i s' z => ⟨rfl, z⟩) ⟨H, I, Ext.rfl'⟩
    obtain ⟨H1, I1, e1⟩ := id z
    obtain ⟨z1, its, k1, r, e⟩ := I1.hok a _ (e1 _ _ ha)
    obtain ⟨z2, its2, k2, r2, e2⟩ := I1.hok c _ (e1 _ _ hb)
    refine ⟨its.toArray, its2.toArray, k1, k2, e, e2, by rw [List.size_toArray, ← r.length], by rw [List.size_toArray, ← r2.length, ← p], fun h1 h2 h3 => ?_⟩
    have g1 : its[i]? = some its.toArray[i] := by
      have h1' : i < its.length := by simpa using h1
      rw [List.getElem?_eq_getElem h1'] <;> simp
    have g2 : its2[i]? = some its2.toArray[i] := by
      have h2' : i < its2.length := by simpa using h2
      rw [List.getElem?_eq_getElem h2'] <;> simp
    have l1 : i < xs.length := by rw [r.length]; simpa using h1
    have l2 : i < ys.length := by rw [r2.length]; simpa using h2
    obtain ⟨u, hu, ru⟩ := r.get (List.getElem?_eq_getElem l1)
    obtain ⟨v, hv, rv⟩ := r2.get (List.getElem?_eq_getElem l2)
    rw [g1] at hu
    rw [g2] at hv
    rw [Option.some.inj hu, Option.some.inj hv]
    refine wpAny_mono (h A.in1 pins s' σ H1 _ _ u v _ sb.in1 I1 ru rv (hD _ _ _ _ _ e1 (q i _ _ (List.getElem?_eq_getElem l1) (List.getElem?_eq_getElem l2) h3))) (fun r s2 q => ?_) fun _ _ x => x
    obtain ⟨hr, H2, I2, e2⟩ := q
    exact ⟨hr, H2, I2, e1.trans e2⟩
theorem dqB_list (hD : MonB D) (hs : SelfB D) (h : DqB X n D) : DqB X (n + 1) (DListB D) := by
  have z := dcB_list false hD h
  refine DcB.dqB (D := DListB D) ?_ (fun _ _ _ _ d => let ⟨a, b, _, _, hx, hy, _⟩ := d; ⟨a, b, hx, hy⟩) (selfB_list hs)
  intro A pins s σ H x y u v b sb I rx ry d
  refine wpAny_mono (z A pins s σ H x y u v b sb I rx ry d) (fun r s' q => ?_) fun _ _ x => x
  obtain ⟨e, q⟩ := q
  refine ⟨e.trans ?_, q⟩
  cases b <;> rfl
/-- instances of the class at C with the text's own ==: what R says of the two -/
def DInsB (C : Addr) (R : Addr → Addr → Bool → Hp → Prop) : EqvB := fun x y b H => ∃ a c dx dy fs gs, x = .ref a ∧ y = .ref c ∧ H a = some (.ins C dx fs) ∧ H c = some (.ins C dy gs) ∧ R a c b H
theorem monB_ins {C : Addr} {R : Addr → Addr → Bool → Hp → Prop} (hR : ∀ a c b H H', Ext H H' → R a c b H → R a c b H') : MonB (DInsB C R) := fun x y b H H' e d => by
  obtain ⟨a, c, dx, dy, fs, gs, hx, hy, h1, h2, r⟩ := d
  exact ⟨a, c, dx, dy, fs, gs, hx, hy, e _ _ h1, e _ _ h2, hR a c b H H' e r⟩
/-- what the own == promises: sp tells, of two such, the truth b -/
theorem dcB_ins {CX : CXT} {C f : Addr} {fd : FuncData} {ps : List Str} {sp : Sp} {R : Addr → Addr → Bool → Hp → Prop} {E : XK} (F : FnOk X.prog X.w X.K X.mg X.base CX n f fd ps sp) (hsp : ∀ a c b H (Q : VK), R a c b H → (∀ H', Ext H H' → Q (.bl b) H') → sp [.ref a, .ref c] H Q E)
    (hs : PySem.W.findIn X.K (.ref C) "__eq__" = some (some (.ref f))) (hf : PySem.W.isFn X.K (.ref f) = true) (hb : L2.Binds X.K fd ps []) (hx : Passes CX X E) : DcB X n .Eq id (DInsB C R) := by
  intro A pins s σ H x y u v b sb I rx ry d
  obtain ⟨a, c, dx, dy, fs, gs, rfl, rfl, ha, hb', hr⟩ := d
  cases rx
  cases ry
  obtain ⟨mA, J, _⟩ := ins_get I.hok ha
  obtain ⟨mB, J', _⟩ := ins_get I.hok hb'
  obtain ⟨od, J, _⟩ := J.look
  obtain ⟨od', J', _⟩ := J'.look
  obtain ⟨m, hF⟩ := I.fr
  refine PySem.W.cmp_K (op := .Eq) (tb := .ref C) sb.room.units0 hF I.ok.mod.kin J J'.type (by simp [PySem.W.notFirst]) hs hf ?_
  have hsp2 : sp [.ref a, .ref c] H (fun v H' => v = .bl b ∧ Ext H H') E := hsp a c b H _ hr fun H' e => ⟨rfl, e⟩
  have e0 : Env0 X.prog X.w X.K X.mg X.base A X.stack s H := by
    have e := I.env0
    exact ⟨by rw [sb.fr]; exact e.frames, e.mod, e.bs, e.bsz, e.funs, e.frf, e.hok, e.bare⟩
  have hl := F.len _ _ _ _ hsp2
  have r2 : Vals [V.ref a, V.ref c] [Value.ref a, Value.ref c] := .cons rfl (.cons rfl .nil)
  refine wpAny_call (codeAny_mono (F.run A X.stack s H ⟨[.ref a, .ref c], []⟩ [.ref a, .ref c] [.ref a, .ref c] _ E sb.room e0 (by
    have := hb s [.ref a, .ref c] I.kIn (by simpa using hl)
    simpa using this) r2 hsp2) fun r s' hq => ?_)
  cases r with
  | error e => exact hx pins σ H s e s' I hq
  | ok fl =>
    cases fl with
    | ret w =>
      obtain ⟨z, H', I', rz, ez, ex⟩ := I.after hq
      subst ez
      cases rz
      exact ⟨rfl, H', I', ex⟩
    | next => exact False.elim hq
    | brk => exact False.elim hq
    | cont => exact False.elim hq
theorem dqB_ins {CX : CXT} {C f : Addr} {fd : FuncData} {ps : List Str} {sp : Sp} {R : Addr → Addr → Bool → Hp → Prop} {E : XK} (F : FnOk X.prog X.w X.K X.mg X.base CX n f fd ps sp) (hsp : ∀ a c b H (Q : VK), R a c b H → (∀ H', Ext H H' → Q (.bl b) H') → sp [.ref a, .ref c] H Q E)
    (hs : PySem.W.findIn X.K (.ref C) "__eq__" = some (some (.ref f))) (hf : PySem.W.isFn X.K (.ref f) = true) (hb : L2.Binds X.K fd ps []) (hx : Passes CX X E) (self : ∀ a b H, R a a b H → b = true) : DqB X n (DInsB C R) :=
  (dcB_ins F hsp hs hf hb hx).dqB (fun _ _ _ _ d => let ⟨a, b, _, _, _, _, hx, hy, _⟩ := d; ⟨a, b, hx, hy⟩) fun x b H d => by
    obtain ⟨a, c, _, _, _, _, rfl, hy, _, _, r⟩ := d
    cases hy
    exact self a b H r
/-- x == y, x != y as expressions -/
def rDqB (D : EqvB) (f : Bool → Bool) : R2 := fun x y H Q => ∃ b, D x y b H ∧ ∀ H', Ext H H' → Q (.bl (f b)) H'
theorem op_dqB (neg : Bool) (hD : MonB D) (h : DqB X n D) (hr : Room (n + 1) X.A) : OpR X (compareOp (opB neg)) (rDqB (DListB D) (fun b => neg != b)) := by
  intro pins s σ H x y v u Q I rx ry hq
  obtain ⟨b, d, q⟩ := hq
  have z := dcB_list neg hD h X.A pins s σ H x y v u b ⟨hr, rfl⟩ I rx ry d
  cases neg with
  | true =>
    show wpAny (model X.prog X.w) X.A (richCompare .NotEq v u) (EP X pins σ Q) X.xe s
    refine wpAny_mono z (fun r s' z => ?_) fun _ _ x => x
    obtain ⟨hr', H', I', e⟩ := z
    subst hr'
    exact ⟨.bl _, H', I', rfl, q H' e⟩
  | false =>
    show wpAny (model X.prog X.w) X.A (richCompare .Eq v u) (EP X pins σ Q) X.xe s
    refine wpAny_mono z (fun r s' z => ?_) fun _ _ x => x
    obtain ⟨hr', H', I', e⟩ := z
    subst hr'
    exact ⟨.bl _, H', I', rfl, q H' e⟩
end
/-! ### objects of an own class: their text, ==, !=, whatever stands at the right -/
section
variable {X : Cx} {CX : CXT} {C g : Addr} {n : Nat} {fd : FuncData} {ps : List Str} {sp : Sp} {E : XK}
/-- the callee runs, at whatever place below -/
theorem run_fnA {A : Around} {pins : List (Addr × Obj)} {σ : L2.St} {H : Hp} {s : Shared} {Q : VK} {us : List Value} {vs : List V} (F : FnOk X.prog X.w X.K X.mg X.base CX n g fd ps sp) (hr : Room n A) (e0 : A.frames = X.A.frames) (hb : L2.Binds X.K fd ps [])
    (hx : Passes CX X E) (I : L2.Inv X pins σ H s) (r : Vals vs us) (h : sp vs H Q E) : wpAny (model X.prog X.w) A (call (.ref g) us) (EP X pins σ Q) X.xe s := by
  have hl : (us ++ []).length = ps.length := by rw [List.append_nil, ← r.length]; exact F.len _ _ _ _ h
  have b := hb s us I.kIn hl
  rw [List.append_nil] at b
  have e := I.env0
  have e1 : Env0 X.prog X.w X.K X.mg X.base A X.stack s H := ⟨e0.trans e.frames, e.mod, e.bs, e.bsz, e.funs, e.frf, e.hok, e.bare⟩
  refine wpAny_call (codeAny_mono (F.run A X.stack s H ⟨us, []⟩ us vs Q E hr e1 b r h) fun r s' hq => ?_)
  cases r with
  | error e => exact hx pins σ H s e s' I hq
  | ok fl =>
    cases fl with
    | ret u => exact I.after hq
    | next => exact False.elim hq
    | brk => exact False.elim hq
    | cont => exact False.elim hq
theorem inst_of {pins : List (Addr × Obj)} {σ : L2.St} {H : Hp} {s : Shared} {a dx : Addr} {fs : List (Str × V)} (I : L2.Inv X pins σ H s) (h : H a = some (.ins C dx fs)) : ∃ od, PySem.W.InstAt s.heap a (instObj C dx) C (some od) := by
  obtain ⟨_, O1, _⟩ := ins_get I.hok h
  obtain ⟨od, J, _⟩ := O1.look
  exact ⟨od, J⟩
/-- one text comes back -/
def QStr (Q : VK) : VK := fun z H' => ∃ y : Str, z = .str y ∧ Q z H'
theorem strback {pins : List (Addr × Obj)} {σ : L2.St} {Q : VK} {v : Value} {s' : Shared} (h : EP X pins σ (QStr Q) v s') : StrBack (EP X pins σ Q) v s' := by
  obtain ⟨z, H', I', rz, y, rfl, q⟩ := h
  obtain ⟨t, rfl⟩ := (show ∃ t, v = Value.str y t from rz)
  exact ⟨.str y, H', I', ⟨t, rfl⟩, q⟩
def rOwn1 (C : Addr) (sp : Sp) (E : XK) (W : VK → VK) : List V → Hp → VK → Prop := fun xs H Q => ∃ a dx fs, xs = [V.ref a] ∧ H a = some (.ins C dx fs) ∧ sp [.ref a] H (W Q) E
/-- str(o), by o's own __str__ -/
theorem call_strOwn (hs : PySem.W.findIn X.K (.ref C) "__str__" = some (some (.ref g))) (hf : PySem.W.isFn X.K (.ref g) = true) (F : FnOk X.prog X.w X.K X.mg X.base CX n g fd ps sp) (hb : L2.Binds X.K fd ps [])
    (hr : Room (n + 2) X.A) (hx : Passes CX X E) : CallR X (.type "str") (rOwn1 C sp E QStr) := by
  intro pins s σ H vs us Q I r h
  obtain ⟨a, dx, fs, rfl, ha, q⟩ := h
  obtain ⟨u, rfl, ru⟩ := Vals.one r
  cases (show u = Value.ref a from ru)
  obtain ⟨od, J⟩ := inst_of I ha
  have hr2 : Room n X.A.in1.in1 := hr.in1.in1
  refine PySem.W.kso_call hr2.units0 I.kIn J hs hf ?_
  exact wpAny_mono (run_fnA (A := X.A.in1.in1) (us := [.ref a]) (vs := [.ref a]) F hr2 rfl hb hx I (.cons rfl .nil) q) (fun v s' z => strback z) fun _ _ x => x
/-- repr(o), by o's own __repr__ -/
theorem call_reprOwn (hs : PySem.W.findIn X.K (.ref C) "__repr__" = some (some (.ref g))) (hf : PySem.W.isFn X.K (.ref g) = true) (F : FnOk X.prog X.w X.K X.mg X.base CX n g fd ps sp) (hb : L2.Binds X.K fd ps [])
    (hr : Room (n + 1) X.A) (hx : Passes CX X E) : CallR X (.builtin "repr") (rOwn1 C sp E QStr) := by
  intro pins s σ H vs us Q I r h
  obtain ⟨a, dx, fs, rfl, ha, q⟩ := h
  obtain ⟨u, rfl, ru⟩ := Vals.one r
  cases (show u = Value.ref a from ru)
  obtain ⟨od, J⟩ := inst_of I ha
  have hr2 : Room n X.A.in1 := hr.in1
  obtain ⟨m, hF⟩ := I.fr
  refine PySem.W.repr_K hr2.units0 hF I.ok.mod.kin J hs hf ?_
  exact wpAny_mono (run_fnA (A := X.A.in1) (us := [.ref a]) (vs := [.ref a]) F hr2 rfl hb hx I (.cons rfl .nil) q) (fun v s' z => strback z) fun _ _ x => x
/-- o == y, by o's own __eq__, whatever y is -/
def rOwnY (K : PySem.W.Frag) (C : Addr) (sp : Sp) (E : XK) (W : VK → VK) : R2 := fun x y H Q => ∃ a dx fs t, x = .ref a ∧ H a = some (.ins C dx fs) ∧ TyX K H y t ∧ PySem.W.notFirst K C t = true ∧ sp [x, y] H (W Q) E
theorem op_eqY (hs : PySem.W.findIn X.K (.ref C) "__eq__" = some (some (.ref g))) (hf : PySem.W.isFn X.K (.ref g) = true) (F : FnOk X.prog X.w X.K X.mg X.base CX n g fd ps sp) (hb : L2.Binds X.K fd ps [])
    (hr : Room n X.A) (hx : Passes CX X E) : OpR X (compareOp .Eq) (rOwnY X.K C sp E id) := by
  intro pins s σ H x y v u Q I rx ry h
  obtain ⟨a, dx, fs, t, rfl, ha, ty, hn, q⟩ := h
  cases (show v = Value.ref a from rx)
  obtain ⟨od, J⟩ := inst_of I ha
  obtain ⟨P, Z, p, _⟩ := kit_of I ry ty
  obtain ⟨m, hF⟩ := I.fr
  show wpAny _ _ (richCompare .Eq _ _) _ _ _
  refine PySem.W.cmp_K (op := .Eq) (tb := t) hr.units0 hF I.ok.mod.kin J (Z.ty _ _ I.kIn p) hn hs hf ?_
  refine wpAny_mono (run_fnA (A := X.A) (us := [.ref a, u]) (vs := [.ref a, y]) F hr rfl hb hx I (.cons rfl (.cons ry .nil)) q) (fun w s' z => ?_) fun _ _ x => x
  obtain ⟨z', H', I', rz, qz⟩ := z
  exact SlX.cmpback rz ⟨z', H', I', rz, qz⟩
end
section
variable {prog : Program} {w : World} {A : Around} {E : Value → Shared → Prop} {s : Shared} {K : PySem.W.Frag} {x C f : Addr} {ox : Obj} {od : Option Obj} {b tb : Value}
open PySem.Builtin in
/-- a special method that is a built-in's, where it may be left unbound -/
theorem ifBoundB {name : Str} {id : String} {args : List Value} {Q : Option Value → Shared → Prop} (X : K.In s.heap) (I : PySem.W.InstAt s.heap x ox C od) (hs : PySem.W.findIn K (.ref C) name = some (some (.builtin id)))
    (hb : ∀ self, bindSpecial (.builtin id) self = pure (.builtin id, [self])) (h : wpAny (model prog w) A (call (.builtin id) (.ref x :: args)) (fun v => Q (some v)) E s) : wpAny (model prog w) A (callSpecialIfBound? (.ref x) name args) Q E s := by
  simp only [callSpecialIfBound?, bindSpecialIfBound?]
  refine wpAny_holding (wpAny_bind (wpAny_bind (wpAny_bind (I.type.here ((looks_findIn X hs).here ?_)))))
  refine wpAny_bind (wpAny_askSetting (wpAny_ite ?_))
  have fin : wpAny (model prog w) A (call (.builtin id) ([.ref x] ++ args) >>= fun v => pure (some v)) Q E s := wpAny_bind (wpAny_mono h (fun v s' h' => wpAny_pure h') fun _ _ h' => h')
  split
  · exact wpAny_bind ((Looks.of_pure (hb _)).here (wpAny_pure (by exact fin)))
  · exact wpAny_tryCatch (wpAny_bind ((Looks.of_pure (hb _)).here (wpAny_pure (by exact fin))))
open PySem.Builtin in
theorem objNe {Q : Value → Shared → Prop} (hu : A.in1.units < cLine) (X : K.In s.heap) (I : PySem.W.InstAt s.heap x ox C od) (hm : PySem.W.mroIn K C (.type "object") = some true) (hs : PySem.W.findIn K (.ref C) "__eq__" = some (some (.ref f))) (hf : PySem.W.isFn K (.ref f) = true)
    (h : wpAny (model prog w) A.in1 (call (.ref f) [.ref x, b]) (fun v s' => ∃ k, v = .bool k ∧ Q (.bool (!k)) s') E s) : wpAny (model prog w) A (call (.builtin "object.__ne__") [.ref x, b]) Q E s := by
  refine wpAny_call (codeAny_call_builtin (by decide +kernel) PySem.F.cmpEntry_ne (check_slot (i := "object.__ne__") (owner := "object") (n := "__ne__") (by decide +kernel) (by decide +kernel) (I.type.andThen (looks_mroIn X hm)) (PySem.F.cmpArgs_ne _ _) ?_))
  unfold Builtin.«object.__ne__»
  refine wpAny_bind (m := slotArgs "__ne__" 1 _) (wpAny_pure ?_)
  refine wpAny_bind (m := cRoomFor _ _) (wpAny_cRoomFor hu ?_)
  refine wpAny_bind (m := callSpecialIfBound? (.ref x) (Str.ofString "__eq__") _) (ifBound_K X I hs hf (wpAny_mono h (fun r s' hq => ?_) fun _ _ y => y))
  obtain ⟨k, rfl, hq⟩ := hq
  exact wpAny_bind (wpAny_truthy_bool (wpAny_pure hq))
/-- o != y, where the class says == alone -/
theorem ne_K {Q : Value → Shared → Prop} (hu : A.in1.units < cLine) (hu0 : A.units < cLine) (X : K.In s.heap) (I : PySem.W.InstAt s.heap x ox C od) (hb : Looks (model prog w) s.heap (typeOf b) tb) (hn : PySem.W.notFirst K C tb = true)
    (hm : PySem.W.mroIn K C (.type "object") = some true) (hne : PySem.W.findIn K (.ref C) "__ne__" = some (some (.builtin "object.__ne__"))) (hs : PySem.W.findIn K (.ref C) "__eq__" = some (some (.ref f))) (hf : PySem.W.isFn K (.ref f) = true)
    (h : wpAny (model prog w) A.in1 (call (.ref f) [.ref x, b]) (fun v s' => ∃ k, v = .bool k ∧ Q (.bool (!k)) s') E s) : wpAny (model prog w) A (richCompare .NotEq (.ref x) b) Q E s := by
  have one : wpAny (model prog w) A (tryCompare (.ref x) "__ne__" b) (fun r s' => ∃ v, r = some v ∧ Q v s') E s := by
    unfold tryCompare
    refine wpAny_bind (ifBoundB X I hne (by intro self; rfl) (objNe hu X I hm hs hf (wpAny_mono h (fun v s' hv => ?_) fun _ _ e => e)))
    obtain ⟨k, rfl, q⟩ := hv
    exact ⟨k, rfl, wpAny_pure ⟨_, rfl, q⟩⟩
  unfold richCompare
  simp only [oneThing_ref]
  refine wpAny_holding (wpAny_bind (wpAny_cRoomFor hu0 ?_))
  refine wpAny_bind (I.type.here (wpAny_bind (hb.here ?_)))
  split
  · rename_i q
    have e : PySem.W.subIn K tb (.ref C) = some false := by
      rcases Bool.or_eq_true_iff.mp hn with e | e
      · rw [beq_iff_eq.mp e] at q; simp at q
      · exact beq_iff_eq.mp e
    refine wpAny_bind ((looks_subIn X e).here ?_)
    simp only [Bool.false_eq_true, if_false]
    refine wpAny_bind (wpAny_mono one (fun r s' z => ?_) fun _ _ e => e)
    obtain ⟨v, rfl, hq⟩ := z
    exact wpAny_pure hq
  · refine wpAny_bind (wpAny_pure ?_)
    simp only [Bool.false_eq_true, if_false]
    refine wpAny_bind (wpAny_mono one (fun r s' z => ?_) fun _ _ e => e)
    obtain ⟨v, rfl, hq⟩ := z
    exact wpAny_pure hq
end
section
variable {X : Cx} {CX : CXT} {C g : Addr} {n : Nat} {fd : FuncData} {ps : List Str} {sp : Sp} {E : XK}
def QNot (Q : VK) : VK := fun z H' => ∃ k : Bool, z = .bl k ∧ Q (.bl (!k)) H'
theorem op_neY (hs : PySem.W.findIn X.K (.ref C) "__eq__" = some (some (.ref g))) (hf : PySem.W.isFn X.K (.ref g) = true) (hm : PySem.W.mroIn X.K C (.type "object") = some true) (hne : PySem.W.findIn X.K (.ref C) "__ne__" = some (some (.builtin "object.__ne__")))
    (F : FnOk X.prog X.w X.K X.mg X.base CX n g fd ps sp) (hb : L2.Binds X.K fd ps []) (hr : Room (n + 1) X.A) (hx : Passes CX X E) : OpR X (compareOp .NotEq) (rOwnY X.K C sp E QNot) := by
  intro pins s σ H x y v u Q I rx ry h
  obtain ⟨a, dx, fs, t, rfl, ha, ty, hn, q⟩ := h
  cases (show v = Value.ref a from rx)
  obtain ⟨od, J⟩ := inst_of I ha
  obtain ⟨P, Z, p, _⟩ := kit_of I ry ty
  show wpAny _ _ (richCompare .NotEq _ _) _ _ _
  have hr2 : Room n X.A.in1 := hr.in1
  refine ne_K (tb := t) hr2.units0 hr.units0 I.kIn J (Z.ty _ _ I.kIn p) hn hm hne hs hf ?_
  refine wpAny_mono (run_fnA (A := X.A.in1) (us := [.ref a, u]) (vs := [.ref a, y]) F hr2 rfl hb hx I (.cons rfl (.cons ry .nil)) q) (fun w s' z => ?_) fun _ _ x => x
  obtain ⟨z', H', I', rz, k, rfl, qz⟩ := z
  cases (show w = Value.bool k from rz)
  exact ⟨k, rfl, .bl (!k), H', I', rfl, qz⟩
end
/-! ### == with the object at the right: the left one's kind declines, the object's own is asked -/
section
variable {prog : Program} {w : World} {A : Around} {E : Value → Shared → Prop} {s : Shared} {K : PySem.W.Frag} {x C f : Addr} {dx : Addr} {od : Option Obj}
open PySem.Builtin
theorem int_decl (b : Int) (u : Tok) : Meets (Builtin.«int.__eq__» ⟨[.int b u, .ref x], []⟩) (fun _ R s => s.heap.get? x = some (instObj C dx) ∧ R (.ok (.ret .notImplemented)) s) :=
  .of_wp fun prog w A R s h => by obtain ⟨hp, g, d, tk, os⟩ := s; obtain ⟨hl, h⟩ := h; wp_walk using AutoSeq1.wpAny_loadPart' hl, wpAny_load hl; exact ⟨_, rfl, h⟩
theorem str_decl (b : Str) (u : Tok) : Meets (Builtin.«str.__eq__» ⟨[.str b u, .ref x], []⟩) (fun _ R s => s.heap.get? x = some (instObj C dx) ∧ R (.ok (.ret .notImplemented)) s) :=
  .of_wp fun prog w A R s h => by obtain ⟨hp, g, d, tk, os⟩ := s; obtain ⟨hl, h⟩ := h; wp_walk using AutoSeq1.wpAny_loadPart' hl, wpAny_load hl; exact ⟨_, rfl, h⟩
theorem none_decl : Meets (Builtin.«NoneType.__eq__» ⟨[.none, .ref x], []⟩) (fun _ R s => s.heap.get? x = some (instObj C dx) ∧ R (.ok (.ret .notImplemented)) s) :=
  .of_wp fun prog w A R s h => by obtain ⟨hp, g, d, tk, os⟩ := s; obtain ⟨hl, h⟩ := h; wp_walk; exact ⟨_, rfl, h⟩
theorem list_decl {l : Addr} {Q : Fin → Shared → Prop} (hi : Looks (model prog w) s.heap (isInstance (.ref x) (.type "list")) false) (h : Q (.done (.ret .notImplemented)) s) :
    wpAny (model prog w) A (Builtin.«list.__eq__» ⟨[.ref l, .ref x], []⟩) Q E s := by
  refine wpAny_bind (m := slotArgs "__eq__" 1 _) (wpAny_pure ?_)
  refine wpAny_bind (hi.here ?_)
  exact wpAny_pure h
theorem tuple_decl {l : Addr} {Q : Fin → Shared → Prop} (hi : Looks (model prog w) s.heap (isInstance (.ref x) (.type "tuple")) false) (h : Q (.done (.ret .notImplemented)) s) :
    wpAny (model prog w) A (Builtin.«tuple.__eq__» ⟨[.ref l, .ref x], []⟩) Q E s := by
  refine wpAny_bind (m := slotArgs "__eq__" 1 _) (wpAny_pure ?_)
  refine wpAny_bind (hi.here ?_)
  exact wpAny_pure h
/-- the left one declines -/
def Declines (prog : Program) (w : World) (A : Around) (E : Value → Shared → Prop) (a b : Value) (s : Shared) : Prop :=
  ∀ Q : Option Value → Shared → Prop, Q none s → wpAny (model prog w) A (tryCompare a "__eq__" b) Q E s
theorem decl_of {T id : String} {B : Builtin} {a b : Value} (hT : s.TypeIs a T) (slot : Slot T (cmpInfo .Eq).2.1 id) (entry : entryFor table id = some B) (args : argsOk id ⟨[a, b], []⟩)
    (h : ∀ Q : Fin → Shared → Prop, Q (.done (.ret .notImplemented)) s → wpAny (model prog w) A.in1 (B ⟨[a, b], []⟩) Q E s) : Declines prog w A E a b s := fun Q q =>
  wpAny_tryCompare_declines hT slot (GQ.call_here slot hT entry args (h _ ⟨rfl, q⟩))
theorem decl_ofM {T id : String} {B : Builtin} {a b : Value} {P : Shared → Prop} (hT : s.TypeIs a T) (slot : Slot T (cmpInfo .Eq).2.1 id) (entry : entryFor table id = some B) (args : argsOk id ⟨[a, b], []⟩)
    (m : Meets (B ⟨[a, b], []⟩) (fun _ R s => P s ∧ R (.ok (.ret .notImplemented)) s)) (hP : P s) : Declines prog w A E a b s := fun Q q =>
  wpAny_tryCompare_declines hT slot (GQ.call_here slot hT entry args (m prog w A (wants (fun v s' => v = .notImplemented ∧ Q none s') E) s ⟨hP, rfl, q⟩))
theorem refl_K {a ta : Value} {T : String} {Q : Value → Shared → Prop} (hu : A.units < cLine) (X : K.In s.heap) (I : PySem.W.InstAt s.heap x (instObj C dx) C od) (hT : s.TypeIs a T) (hsub : PySem.W.subIn K (.ref C) (.type T) = some false)
    (d : Declines prog w A E a (.ref x) s) (hs : PySem.W.findIn K (.ref C) "__eq__" = some (some (.ref f))) (hf : PySem.W.isFn K (.ref f) = true)
    (h : wpAny (model prog w) A (call (.ref f) [.ref x, a]) (PySem.W.CmpBack Q) E s) : wpAny (model prog w) A (richCompare .Eq a (.ref x)) Q E s := by
  have one : wpAny (model prog w) A (tryCompare (.ref x) "__eq__" a) (fun r s' => ∃ v, r = some v ∧ Q v s') E s := by
    unfold tryCompare
    refine wpAny_bind (ifBound_K X I hs hf (wpAny_mono h (fun v s' hv => ?_) fun _ _ e => e))
    cases v <;> first | exact hv.elim | exact wpAny_pure ⟨_, rfl, hv⟩
  simp only [richCompare, cmpInfo, hT.oneThing_none]
  try with_reducible refine wpAny_holding ?_
  refine wpAny_bind (wpAny_cRoomFor hu ?_)
  refine wpAny_bind (wpAny_typeOf hT (wpAny_bind (I.type.here ?_)))
  rw [show (Value.type T != Value.ref C) = true from rfl]
  simp only [if_true]
  refine wpAny_bind ((looks_subIn X hsub).here ?_)
  simp only [Bool.false_eq_true, if_false, Bool.not_false, if_true]
  refine wpAny_bind (m := tryCompare a _ _) (d _ ?_)
  refine wpAny_bind (m := tryCompare (.ref x) _ _) (wpAny_mono one (fun r s' z => ?_) fun _ _ e => e)
  obtain ⟨v, rfl, hq⟩ := z
  exact wpAny_pure hq
end
section
variable {prog : Program} {w : World} {A : Around} {E : Value → Shared → Prop} {s : Shared} {x : Addr}
open PySem.Builtin
theorem dict_decl {l : Addr} {Q : Fin → Shared → Prop} (hi : Looks (model prog w) s.heap (isInstance (.ref x) (.type "dict")) false) (h : Q (.done (.ret .notImplemented)) s) :
    wpAny (model prog w) A (Builtin.«dict.__eq__» ⟨[.ref l, .ref x], []⟩) Q E s := by
  refine wpAny_bind (m := Dict.dictSlotArgs "__eq__" _) (wpAny_pure ?_)
  refine wpAny_bind (hi.here ?_)
  exact wpAny_bind (wpAny_rule (wpAny_pure h))
end
section
variable {X : Cx} {CX : CXT} {C g : Addr} {n : Nat} {fd : FuncData} {ps : List Str} {sp : Sp} {E : XK}
/-- what may stand at the left of such an object -/
inductive LeftOk (H : Hp) : V → Prop where
  | non : LeftOk H .non
  | int (i : Int) : LeftOk H (.int i)
  | str (z : Str) : LeftOk H (.str z)
  | lst {p : Addr} {xs : List V} (h : H p = some (.lst xs)) : LeftOk H (.ref p)
  | tup {p : Addr} {xs : List V} (h : H p = some (.tup xs)) : LeftOk H (.ref p)
  | dK {p : Addr} {kvs : List (Key × V)} (h : H p = some (.dK kvs)) : LeftOk H (.ref p)
/-- the class is under none of Python's -/
structure NotSub (K : PySem.W.Frag) (C : Addr) : Prop where
  non : PySem.W.subIn K (.ref C) (.type "NoneType") = some false
  int : PySem.W.subIn K (.ref C) (.type "int") = some false
  str : PySem.W.subIn K (.ref C) (.type "str") = some false
  lst : PySem.W.subIn K (.ref C) (.type "list") = some false
  tup : PySem.W.subIn K (.ref C) (.type "tuple") = some false
  dct : PySem.W.subIn K (.ref C) (.type "dict") = some false
def rOwnR (C : Addr) (sp : Sp) (E : XK) : R2 := fun x y H Q => ∃ a dx fs, y = .ref a ∧ H a = some (.ins C dx fs) ∧ LeftOk H x ∧ sp [y, x] H Q E
theorem op_eqR (hs : PySem.W.findIn X.K (.ref C) "__eq__" = some (some (.ref g))) (hf : PySem.W.isFn X.K (.ref g) = true) (N : NotSub X.K C) (G : FnOk X.prog X.w X.K X.mg X.base CX n g fd ps sp) (hb : L2.Binds X.K fd ps [])
    (hr : Room n X.A) (hx : Passes CX X E) : OpR X (compareOp .Eq) (rOwnR C sp E) := by
  intro pins s σ H x y v u Q I rx ry h
  obtain ⟨a, dx, fs, rfl, ha, lo, q⟩ := h
  cases (show u = Value.ref a from ry)
  obtain ⟨od, J⟩ := inst_of I ha
  have hx0 : s.heap.get? a = some (instObj C dx) := J.at_
  show wpAny _ _ (richCompare .Eq _ _) _ _ _
  have fin : wpAny (model X.prog X.w) X.A (call (.ref g) [.ref a, v]) (PySem.W.CmpBack (EP X pins σ Q)) X.xe s :=
    wpAny_mono (run_fnA (A := X.A) (us := [.ref a, v]) (vs := [.ref a, x]) G hr rfl hb hx I (.cons rfl (.cons rx .nil)) q) (fun w s' z => by obtain ⟨z', H', I', rz, qz⟩ := z; exact SlX.cmpback rz ⟨z', H', I', rz, qz⟩) fun _ _ x => x
  have isI : ∀ T : String, PySem.W.subIn X.K (.ref C) (.type T) = some false → Looks (model X.prog X.w) s.heap (isInstance (.ref a) (.type T)) false := fun T e => J.type.andThen (looks_subIn I.kIn e)
  cases lo with
  | non =>
    cases (show v = Value.none from rx)
    exact refl_K (T := "NoneType") (ta := .none) hr.units0 I.kIn J rfl N.non (decl_ofM rfl F.slot_NoneType_eq F.entry_NoneType_eq (F.args_NoneType_eq_2 _ _) none_decl hx0) hs hf fin
  | int i =>
    obtain ⟨t, rfl⟩ := (show ∃ t, v = Value.int i t from rx)
    exact refl_K (T := "int") (ta := .none) hr.units0 I.kIn J (typeIs_int _ _ _) N.int (decl_ofM (typeIs_int _ _ _) F.slot_int_eq F.entry_int_eq (F.args_int_eq_2 _ _) (int_decl _ _) hx0) hs hf fin
  | str z =>
    obtain ⟨t, rfl⟩ := (show ∃ t, v = Value.str z t from rx)
    exact refl_K (T := "str") (ta := .none) hr.units0 I.kIn J (typeIs_str _ _ _) N.str (decl_ofM (typeIs_str _ _ _) F.slot_str_eq F.entry_str_eq (F.args_str_eq_2 _ _) (str_decl _ _) hx0) hs hf fin
  | @lst p xs h =>
    cases (show v = Value.ref p from rx)
    obtain ⟨_, its, k, _, hp⟩ := (show ObjOk X.prog X.w H s.heap p (.lst xs) from I.hok p _ h)
    have hT : s.TypeIs (.ref p) "list" := ⟨_, hp, rfl⟩
    exact refl_K (T := "list") (ta := .none) hr.units0 I.kIn J hT N.lst (decl_of hT F.slot_list_eq F.entry_list_eq (F.args_list_eq_2 _ _) fun Q' q' => list_decl (isI _ N.lst) q') hs hf fin
  | @tup p xs h =>
    cases (show v = Value.ref p from rx)
    obtain ⟨_, its, _, o, h1, h2, _⟩ := (show ObjOk X.prog X.w H s.heap p (.tup xs) from I.hok p _ h)
    have hT : s.TypeIs (.ref p) "tuple" := ⟨_, h1, h2⟩
    exact refl_K (T := "tuple") (ta := .none) hr.units0 I.kIn J hT N.tup (decl_of hT F.slot_tuple_eq F.entry_tuple_eq (F.args_tuple_eq_2 _ _) fun Q' q' => tuple_decl (isI _ N.tup) q') hs hf fin
  | @dK p kvs h =>
    cases (show v = Value.ref p from rx)
    obtain ⟨_, _, vs, _, o, es, ep, h1, h2, _⟩ := (show ObjOk X.prog X.w H s.heap p (.dK kvs) from I.hok p _ h)
    have hT : s.TypeIs (.ref p) "dict" := ⟨_, h1, h2.1⟩
    exact refl_K (T := "dict") (ta := .none) hr.units0 I.kIn J hT N.dct (decl_of hT F.slot_dict_eq F.entry_dict_eq (F.args_dict_eq_2 _ _) fun Q' q' => dict_decl (isI _ N.dct) q') hs hf fin
end
/-! ### in, count, index over a list, each == by the object's own -/
section
open SeqAt AutoSeq1 MeetsSeq MeetsSeq2 MeetsSeq3 SeqRoads2
open PySem.Builtin
variable {prog : Program} {w : World} {A : Around} {R : Result → Shared → Prop}
/-- at each turn the list is read anew, the turn's == gives bs i -/
def LoopB (prog : Program) (w : World) (A : Around) (E : Value → Shared → Prop) (l : Addr) (x : Value) (N : Nat) (bs : Nat → Bool) (I : Nat → Shared → Prop) : Prop :=
  ∀ i s, I i s → ∃ (items : Array Value) (n : Nat), s.heap.get? l = some { cls := .type "list", data := .seq items n } ∧ items.size = N ∧
    ∀ (h1 : i < items.size), wpAny (model prog w) A.in1 (eqBool items[i] x) (fun r s' => r = bs i ∧ I (i + 1) s') E s
def cntB (bs : Nat → Bool) : Nat → Nat → Int
  | 0, _ => 0
  | k + 1, i => (if bs i then 1 else 0) + cntB bs k (i + 1)
theorem count_loopG (l : Addr) (x : Value) (N : Nat) (bs : Nat → Bool) (I : Nat → Shared → Prop) (hl : LoopB prog w A (fun e s' => R (.error e) s') l x N bs I) (k : Nat) :
    ∀ (i : Nat) (found : Int), N - i = k → i ≤ N → ∀ s, I i s → (∀ s, I N s → R (.ok (.ret (.int (found + cntB bs k i) s.toks))) { s with toks := s.toks + 1 }) →
      wpAny (model prog w) A.in1 (Builtin.«list.count.loop» ⟨[.ref l, x, rawInt i, rawInt found], []⟩) (GQ.FinOf prog w A R) (fun e s' => R (.error e) s') s := by
  induction k with
  | zero =>
    intro i found hk hi s h fin
    obtain ⟨items, n, hl1, hs1, _⟩ := hl _ _ h
    have hi' : i = N := by omega
    have hR := fin s (hi' ▸ h)
    obtain ⟨hp, g, d, tk, os⟩ := s
    wp_walk using wpAny_loadPart' hl1
    have hi1 : items[((i : Nat) : Int).toNat]? = none := by simp; omega
    rw [hi1]
    wp_walk
    have e0 : found + cntB bs 0 i = found := by show found + 0 = found; omega
    rw [e0] at hR
    exact hR
  | succ k ih =>
    intro i found hk hi s h fin
    obtain ⟨items, n, hl1, hs1, turn⟩ := hl _ _ h
    have hlt : i < items.size := by omega
    have ht := turn hlt
    obtain ⟨hp, g, d, tk, os⟩ := s
    wp_walk using wpAny_loadPart' hl1
    have hi1 : items[((i : Nat) : Int).toNat]? = some items[i] := by simp [hlt]
    have hc : ((i : Int) + 1) = ((i + 1 : Nat) : Int) := by omega
    rw [hi1]
    refine wpAny_bind (wpAny_mono ht (fun r s2 h2 => ?_) fun _ _ x => x)
    obtain ⟨hr, h2⟩ := h2
    subst hr
    have e1 : (if bs i = true then found + 1 else found) + cntB bs k (i + 1) = found + cntB bs (k + 1) i := by
      show _ = found + ((if bs i then 1 else 0) + cntB bs k (i + 1))
      cases bs i <;> simp <;> omega
    have hrec := ih (i + 1) (if bs i = true then found + 1 else found) (by omega) (by omega) s2 h2 (fun s q => by rw [e1]; exact fin s q)
    obtain ⟨hp2, g2, d2, tk2, os2⟩ := s2
    wp_walk
    rw [hc]
    refine ⟨plainId_quiet plain_count_loop _, codeAny_builtin entry_count_loop (by
      rw [Around.under_plainId plain_count_loop _]

      exact hrec)⟩
end
section
open SeqAt AutoSeq1 MeetsSeq MeetsSeq2 MeetsSeq3 SeqRoads2
open PySem.Builtin
variable {prog : Program} {w : World} {A : Around} {R : Result → Shared → Prop}
theorem list_countG (l : Addr) (x : Value) (N : Nat) (bs : Nat → Bool) (I : Nat → Shared → Prop) (hl : LoopB prog w A (fun e s' => R (.error e) s') l x N bs I) {s : Shared} (h : I 0 s)
    (fin : ∀ s, I N s → R (.ok (.ret (.int (cntB bs N 0) s.toks))) { s with toks := s.toks + 1 }) :
    wpAny (model prog w) A.in1 (Builtin.«list.count» ⟨[.ref l, x], []⟩) (GQ.FinOf prog w A R) (fun e s' => R (.error e) s') s := by
  obtain ⟨items, n, hl1, hs1, _⟩ := hl _ _ h
  have hrec := count_loopG (A := A) (R := R) l x N bs I hl N 0 0 rfl (Nat.zero_le _) s h (fun s q => by rw [Int.zero_add]; exact fin s q)
  obtain ⟨hp, g, d, tk, os⟩ := s
  wp_walk using wpAny_loadPart' hl1
  exact ⟨plainId_quiet plain_count_loop _, codeAny_builtin entry_count_loop (by
    rw [Around.under_plainId plain_count_loop _]
    exact hrec)⟩
theorem index_loopG (l : Addr) (x : Value) (N : Nat) (bs : Nat → Bool) (I : Nat → Shared → Prop) (hl : LoopB prog w A (fun e s' => R (.error e) s') l x N bs I) (upto : Int) (j : Nat) (hj : j < N) (hupto : (j : Int) < upto) (hit : bs j = true)
    (fin : ∀ s, I (j + 1) s → R (.ok (.ret (.int j s.toks))) { s with toks := s.toks + 1 }) (k : Nat) :
    ∀ i : Nat, j - i = k → i ≤ j → (∀ m, i ≤ m → m < j → bs m = false) → ∀ s, I i s →
      wpAny (model prog w) A.in1 (Builtin.«list.index.loop» ⟨[.ref l, x, rawInt i, rawInt upto], []⟩) (GQ.FinOf prog w A R) (fun e s' => R (.error e) s') s := by
  induction k with
  | zero =>
    intro i hk hij hno s h
    have hij' : i = j := by omega
    subst hij'
    obtain ⟨items, n, hl1, hs1, turn⟩ := hl _ _ h
    have hlt : i < items.size := by omega
    have ht := turn hlt
    obtain ⟨hp, g, d, tk, os⟩ := s
    wp_walk using wpAny_loadPart' hl1
    have hi : (if (i : Int) < upto then items[((i : Nat) : Int).toNat]? else none) = some items[i] := by simp [hupto, hlt]
    rw [hi]
    refine wpAny_bind (wpAny_mono ht (fun r s2 h2 => ?_) fun _ _ x => x)
    obtain ⟨hr, h2⟩ := h2
    subst hr
    rw [hit]
    have hR := fin s2 h2
    obtain ⟨hp2, g2, d2, tk2, os2⟩ := s2
    wp_walk
    exact hR
  | succ k ih =>
    intro i hk hij hno s h
    obtain ⟨items, n, hl1, hs1, turn⟩ := hl _ _ h
    have hlt : i < items.size := by omega
    have hst : (i : Int) < upto := by omega
    have ht := turn hlt
    obtain ⟨hp, g, d, tk, os⟩ := s
    wp_walk using wpAny_loadPart' hl1
    have hi : (if (i : Int) < upto then items[((i : Nat) : Int).toNat]? else none) = some items[i] := by simp [hst, hlt]
    have hc : ((i : Int) + 1) = ((i + 1 : Nat) : Int) := by omega
    rw [hi]
    refine wpAny_bind (wpAny_mono ht (fun r s2 h2 => ?_) fun _ _ x => x)
    obtain ⟨hr, h2⟩ := h2
    subst hr
    rw [hno i (Nat.le_refl _) (by omega)]
    have hrec := ih (i + 1) (by omega) (by omega) (fun m h1 h2 => hno m (by omega) h2) s2 h2
    obtain ⟨hp2, g2, d2, tk2, os2⟩ := s2
    wp_walk
    rw [hc]
    exact ⟨plainId_quiet plain_index_loop _, codeAny_builtin entry_index_loop (by
      rw [Around.under_plainId plain_index_loop _]
      exact hrec)⟩
theorem list_indexG (l : Addr) (x : Value) (N : Nat) (bs : Nat → Bool) (I : Nat → Shared → Prop) (hl : LoopB prog w A (fun e s' => R (.error e) s') l x N bs I) (j : Nat) (hj : j < N) (hsmall : (j : Int) < 2 ^ 63 - 1) (hit : bs j = true) (hno : ∀ m, m < j → bs m = false)
    (fin : ∀ s, I (j + 1) s → R (.ok (.ret (.int j s.toks))) { s with toks := s.toks + 1 }) {s : Shared} (h : I 0 s) :
    wpAny (model prog w) A.in1 (Builtin.«list.index» ⟨[.ref l, x], []⟩) (GQ.FinOf prog w A R) (fun e s' => R (.error e) s') s := by
  obtain ⟨items, n, hl1, hs1, _⟩ := hl _ _ h
  have hrec := index_loopG (A := A) (R := R) l x N bs I hl (2 ^ 63 - 1) j hj hsmall hit fin j 0 (by omega) (Nat.zero_le _) (fun m _ h2 => hno m h2) s h
  obtain ⟨hp, g, d, tk, os⟩ := s
  wp_walk using wpAny_loadPart' hl1
  have a1 : ((fun i : Int => if i < 0 then max 0 (i + (items.size : Int)) else i) ((none : Option Int).getD 0)) = ((0 : Nat) : Int) := by simp
  have a2 : ((fun i : Int => if i < 0 then max 0 (i + (items.size : Int)) else i) ((none : Option Int).getD (2 ^ 63 - 1))) = 2 ^ 63 - 1 := by simp
  rw [a1, a2]
  exact ⟨plainId_quiet plain_index_loop _, codeAny_builtin entry_index_loop (by
    rw [Around.under_plainId plain_index_loop _]
    exact hrec)⟩
theorem contains_loopG (l : Addr) (x : Value) (N : Nat) (bs : Nat → Bool) (I : Nat → Shared → Prop) (hl : LoopB prog w A (fun e s' => R (.error e) s') l x N bs I) (j : Nat) (hj : j < N) (hit : bs j = true)
    (fin : ∀ s, I (j + 1) s → R (.ok (.ret (.bool true))) s) (k : Nat) :
    ∀ i : Nat, j - i = k → i ≤ j → (∀ m, i ≤ m → m < j → bs m = false) → ∀ s, I i s →
      wpAny (model prog w) A.in1 (Builtin.«list.__contains__.loop» ⟨[.ref l, x, rawInt i], []⟩) (GQ.FinOf prog w A R) (fun e s' => R (.error e) s') s := by
  induction k with
  | zero =>
    intro i hk hij hno s h
    have hij' : i = j := by omega
    subst hij'
    obtain ⟨items, n, hl1, hs1, turn⟩ := hl _ _ h
    have hlt : i < items.size := by omega
    have ht := turn hlt
    obtain ⟨hp, g, d, tk, os⟩ := s
    wp_walk using wpAny_loadPart' hl1
    have hi : items[((i : Nat) : Int).toNat]? = some items[i] := by simp [hlt]
    rw [hi]
    refine wpAny_bind (wpAny_mono ht (fun r s2 h2 => ?_) fun _ _ x => x)
    obtain ⟨hr, h2⟩ := h2
    subst hr
    rw [hit]
    have hR := fin s2 h2
    obtain ⟨hp2, g2, d2, tk2, os2⟩ := s2
    wp_walk
    exact hR
  | succ k ih =>
    intro i hk hij hno s h
    obtain ⟨items, n, hl1, hs1, turn⟩ := hl _ _ h
    have hlt : i < items.size := by omega
    have ht := turn hlt
    obtain ⟨hp, g, d, tk, os⟩ := s
    wp_walk using wpAny_loadPart' hl1
    have hi : items[((i : Nat) : Int).toNat]? = some items[i] := by simp [hlt]
    have hc : ((i : Int) + 1) = ((i + 1 : Nat) : Int) := by omega
    rw [hi]
    refine wpAny_bind (wpAny_mono ht (fun r s2 h2 => ?_) fun _ _ x => x)
    obtain ⟨hr, h2⟩ := h2
    subst hr
    rw [hno i (Nat.le_refl _) (by omega)]
    have hrec := ih (i + 1) (by omega) (by omega) (fun m h1 h2 => hno m (by omega) h2) s2 h2
    obtain ⟨hp2, g2, d2, tk2, os2⟩ := s2
    wp_walk
    rw [hc]
    exact ⟨plainId_quiet plain_contains_loop _, codeAny_builtin entry_contains_loop (by
      rw [Around.under_plainId plain_contains_loop _]
      exact hrec)⟩
theorem list_containsG (l : Addr) (x : Value) (N : Nat) (bs : Nat → Bool) (I : Nat → Shared → Prop) (hl : LoopB prog w A (fun e s' => R (.error e) s') l x N bs I) (j : Nat) (hj : j < N) (hit : bs j = true) (hno : ∀ m, m < j → bs m = false)
    (fin : ∀ s, I (j + 1) s → R (.ok (.ret (.bool true))) s) {s : Shared} (h : I 0 s) :
    wpAny (model prog w) A.in1 (Builtin.«list.__contains__» ⟨[.ref l, x], []⟩) (GQ.FinOf prog w A R) (fun e s' => R (.error e) s') s := by
  obtain ⟨items, n, hl1, hs1, _⟩ := hl _ _ h
  have hrec := contains_loopG (A := A) (R := R) l x N bs I hl j hj hit fin j 0 (by omega) (Nat.zero_le _) (fun m _ h2 => hno m h2) s h
  obtain ⟨hp, g, d, tk, os⟩ := s
  wp_walk using wpAny_loadPart' hl1
  exact ⟨plainId_quiet plain_contains_loop _, codeAny_builtin entry_contains_loop (by
    rw [Around.under_plainId plain_contains_loop _]
    exact hrec)⟩
end
section
open SeqAt
variable {X : Cx} {CX : CXT} {C g : Addr} {n : Nat} {fd : FuncData} {ps : List Str} {sp : Sp} {E : XK}
/-- what an own == tells: (x, y) are known, the answer is b, only new objects come -/
def EqB (X : Cx) (n : Nat) (D : V → V → Hp → Bool → Prop) : Prop :=
  ∀ (A : Around) (pins : List (Addr × Obj)) (s : Shared) (σ : L2.St) (H : Hp) (x y : V) (u v : Value) (b : Bool), L2.Sub X n A → L2.Inv X pins σ H s → RelV x u → RelV y v → D x y H b →
    wpAny (model X.prog X.w) A (eqBool u v) (fun r s' => r = b ∧ ∃ H', L2.Inv X pins σ H' s' ∧ Same H H') X.xe s
/-- the promise of such an __eq__ -/
def spEqB (D : V → V → Hp → Bool → Prop) : Sp := fun vs H Q _ => ∃ (x y : V) (b : Bool), vs = [x, y] ∧ D x y H b ∧ ∀ H', Same H H' → Q (.bl b) H'
/-- both are objects of the class; of one and itself the answer is True -/
structure DOk (C : Addr) (D : V → V → Hp → Bool → Prop) : Prop where
  ins : ∀ x y H b, D x y H b → ∃ a dx fs a' dx' fs', x = .ref a ∧ H a = some (.ins C dx fs) ∧ y = .ref a' ∧ H a' = some (.ins C dx' fs')
  self : ∀ x H b, D x x H b → b = true
  mono : ∀ x y H H' b, Same H H' → D x y H b → D x y H' b
theorem eqB_ins {D : V → V → Hp → Bool → Prop} (O : DOk C D) (hs : PySem.W.findIn X.K (.ref C) "__eq__" = some (some (.ref g))) (hf : PySem.W.isFn X.K (.ref g) = true) (hn : PySem.W.notFirst X.K C (.ref C) = true)
    (F : FnOk X.prog X.w X.K X.mg X.base CX n g fd ps (spEqB D)) (hb : L2.Binds X.K fd ps []) (hx : Passes CX X E0) : EqB X n D := by
  intro A pins s σ H x y u v b sb I rx ry d
  obtain ⟨a, dx, fs, a', dx', fs', rfl, ha, rfl, ha'⟩ := O.ins x y H b d
  cases (show u = Value.ref a from rx)
  cases (show v = Value.ref a' from ry)
  by_cases e : a = a'
  · subst e
    have e2 := O.self _ _ _ d
    subst e2
    unfold eqBool
    refine wpAny_holding ?_
    simp only [beq_self_eq_true, if_true]
    refine wpAny_bind (wpAny_rule (wpAny_pure ?_))
    exact ⟨rfl, H, I, fun _ _ e => e⟩
  · obtain ⟨od, J⟩ := inst_of I ha
    obtain ⟨od', J'⟩ := inst_of I ha'
    obtain ⟨m, hF⟩ := I.fr
    refine GQ.eqBool_refG e (PySem.W.cmp_K (op := .Eq) (tb := .ref C) sb.room.units0 hF I.ok.mod.kin J J'.type hn hs hf ?_)
    refine wpAny_mono (run_fnA (A := A) (us := [.ref a, .ref a']) (vs := [.ref a, .ref a']) (Q := fun z H' => z = .bl b ∧ Same H H') F sb.room sb.fr hb hx I (.cons rfl (.cons rfl .nil)) ⟨_, _, b, rfl, d, fun H' k => ⟨rfl, k⟩⟩) (fun w s' z => ?_) fun _ _ x => x
    obtain ⟨z', H', I', rz, rfl, k⟩ := z
    cases (show w = Value.bool b from rz)
    exact ⟨b, rfl, rfl, H', I', k⟩
theorem loopB_of {D : V → V → Hp → Bool → Prop} (O : DOk C D) (e : EqB X n D) {A : Around} (sb : L2.Sub X (n + 1) A) {pins : List (Addr × Obj)} {σ : L2.St} {H : Hp} {l : Addr} {xs : List V} {x : V} {u : Value} {bs : Nat → Bool} (hl : H l = some (.lst xs)) (ru : RelV x u)
    (hd : ∀ i y, xs[i]? = some y → D y x H (bs i)) : LoopB X.prog X.w A X.xe l u xs.length bs (fun _ s' => ∃ H', L2.Inv X pins σ H' s' ∧ Same H H') := by
  rintro i s ⟨H', I, k⟩
  obtain ⟨_, its, m, r, hp⟩ := (show ObjOk X.prog X.w H' s.heap l (.lst xs) from I.hok l _ (k _ _ hl))
  refine ⟨its.toArray, m, hp, by simpa using r.length.symm, fun h1 => ?_⟩
  have h1' : i < its.length := by simpa using h1
  have hix : i < xs.length := by rw [r.length]; exact h1'
  obtain ⟨v, hv, rv⟩ := r.get (List.getElem?_eq_getElem hix)
  have ev : its.toArray[i] = v := by
    rw [List.getElem?_eq_getElem h1'] at hv
    simpa using hv
  rw [ev]
  refine wpAny_mono (e A.in1 pins s σ H' _ _ _ _ (bs i) sb.in1 I rv ru (O.mono _ _ _ _ _ k (hd i _ (List.getElem?_eq_getElem hix)))) (fun r s' z => ?_) fun _ _ x => x
  obtain ⟨hr, H2, I2, k2⟩ := z
  exact ⟨hr, H2, I2, k.trans k2⟩
theorem sub_here (hr : Room n X.A) : L2.Sub X n X.A := ⟨hr, rfl⟩
def rCntB (D : V → V → Hp → Bool → Prop) : V → List V → Hp → VK → Prop := fun x xs H Q => ∃ (l : Addr) (ys : List V) (y : V) (bs : Nat → Bool), x = .ref l ∧ xs = [y] ∧ H l = some (.lst ys) ∧ (∀ i z, ys[i]? = some z → D z y H (bs i)) ∧ ∀ H', Same H H' → Q (.int (cntB bs ys.length 0)) H'
theorem mt_countB {D : V → V → Hp → Bool → Prop} (O : DOk C D) (e : EqB X n D) (hr : Room (n + 1) X.A) : MtR X "list.count" (rCntB D) := by
  intro pins s σ H x xs v us Q I rx rxs h
  obtain ⟨l, ys, y, bs, rfl, rfl, hl, hd, q⟩ := h
  cases (show v = Value.ref l from rx)
  obtain ⟨u, rfl, ru⟩ := rxs.one
  obtain ⟨_, its, m, _, hp⟩ := (show ObjOk X.prog X.w H s.heap l (.lst ys) from I.hok l _ hl)
  refine GQ.call_here F.slot_list_count ⟨_, hp, rfl⟩ F.entry_list_count (F.args_list_count_2 _ _) ?_
  refine list_countG l u ys.length bs (fun _ s' => ∃ H', L2.Inv X pins σ H' s' ∧ Same H H') (loopB_of O e (sub_here hr) (pins := pins) (σ := σ) hl ru hd) ⟨H, I, fun _ _ e => e⟩ fun s' z => ?_
  obtain ⟨H', I', k⟩ := z
  exact ⟨.int _, H', I'.tok _, ⟨_, rfl⟩, q H' k⟩
def rIdxB (D : V → V → Hp → Bool → Prop) : V → List V → Hp → VK → Prop := fun x xs H Q => ∃ (l : Addr) (ys : List V) (y : V) (bs : Nat → Bool) (j : Nat), x = .ref l ∧ xs = [y] ∧ H l = some (.lst ys) ∧ (∀ i z, ys[i]? = some z → D z y H (bs i)) ∧ j < ys.length ∧ j < 1000000 ∧ bs j = true ∧ (∀ m, m < j → bs m = false) ∧ ∀ H', Same H H' → Q (.int (j : Nat)) H'
theorem mt_indexB {D : V → V → Hp → Bool → Prop} (O : DOk C D) (e : EqB X n D) (hr : Room (n + 1) X.A) : MtR X "list.index" (rIdxB D) := by
  intro pins s σ H x xs v us Q I rx rxs h
  obtain ⟨l, ys, y, bs, j, rfl, rfl, hl, hd, hj, hj2, hit, hno, q⟩ := h
  cases (show v = Value.ref l from rx)
  obtain ⟨u, rfl, ru⟩ := rxs.one
  obtain ⟨_, its, m, _, hp⟩ := (show ObjOk X.prog X.w H s.heap l (.lst ys) from I.hok l _ hl)
  refine GQ.call_here F.slot_list_index ⟨_, hp, rfl⟩ F.entry_list_index (F.args_list_index_2 _ _) ?_
  refine list_indexG l u ys.length bs (fun _ s' => ∃ H', L2.Inv X pins σ H' s' ∧ Same H H') (loopB_of O e (sub_here hr) (pins := pins) (σ := σ) hl ru hd) j hj (by omega) hit hno (fun s' z => ?_) ⟨H, I, fun _ _ e => e⟩
  obtain ⟨H', I', k⟩ := z
  exact ⟨.int _, H', I'.tok _, ⟨_, rfl⟩, q H' k⟩
def rInB (D : V → V → Hp → Bool → Prop) : R2 := fun y x H Q => ∃ (l : Addr) (ys : List V) (bs : Nat → Bool) (j : Nat), x = .ref l ∧ H l = some (.lst ys) ∧ (∀ i z, ys[i]? = some z → D z y H (bs i)) ∧ j < ys.length ∧ bs j = true ∧ (∀ m, m < j → bs m = false) ∧ ∀ H', Same H H' → Q (.bl true) H'
/-- y in xs, where it is -/
theorem op_inB {D : V → V → Hp → Bool → Prop} (O : DOk C D) (e : EqB X n D) (hr : Room (n + 1) X.A) : OpR X (compareOp .In) (rInB D) := by
  intro pins s σ H y x u v Q I ru rx h
  obtain ⟨l, ys, bs, j, rfl, hl, hd, hj, hit, hno, q⟩ := h
  cases (show v = Value.ref l from rx)
  obtain ⟨_, its, m, _, hp⟩ := (show ObjOk X.prog X.w H s.heap l (.lst ys) from I.hok l _ hl)
  show wpAny _ X.A (do return Value.bool (← PySem.contains (.ref l) u)) _ _ s
  have hT : s.TypeIs (.ref l) "list" := ⟨_, hp, rfl⟩
  refine wpAny_bind (wpAny_contains_slot hT F.slot_list_contains (wpAny_mono (GQ.call_here (Q := fun v s' => v = .bool true ∧ ∃ H', L2.Inv X pins σ H' s' ∧ Same H H') (E := X.xe) F.slot_list_contains hT F.entry_list_contains (F.args_list_contains_2 _ _)
    (list_containsG l u ys.length bs (fun _ s' => ∃ H', L2.Inv X pins σ H' s' ∧ Same H H') (loopB_of O e (sub_here hr) (pins := pins) (σ := σ) hl ru hd) j hj hit hno (fun s' z => ⟨rfl, z⟩) ⟨H, I, fun _ _ e => e⟩)) (fun v s' hv => ?_) fun _ _ e => e))
  obtain ⟨rfl, H', I', k⟩ := hv
  exact wpAny_truthy_bool (wpAny_pure ⟨.bl true, H', I', rfl, q H' k⟩)
end
/-! ### objects of an own class: len and truth by an own __len__; the length of a range -/
section
variable {prog : Program} {w : World} {A : Around} {E : Value → Shared → Prop} {s : Shared} {K : PySem.W.Frag} {x C f : Addr} {ox : Obj} {od : Option Obj}
theorem len_bodyK {Q : Value → Shared → Prop} (X : K.In s.heap) (I : PySem.W.InstAt s.heap x ox C od) (hs : PySem.W.findIn K (.ref C) "__len__" = some (some (.ref f))) (hf : PySem.W.isFn K (.ref f) = true)
    (h : wpAny (model prog w) A (call (.ref f) [.ref x]) (PySem.W.LenBack Q) E s) : wpAny (model prog w) A (Builtin.«len» ⟨[.ref x], []⟩) (fun fin s' => ∃ v, fin = .done (.ret v) ∧ Q v s') E s := by
  unfold Builtin.«len»
  refine wpAny_bind (m := oneArg "len" _) (wpAny_pure ?_)
  refine wpAny_bind (m := callSpecial? (.ref x) (Str.ofString "__len__")) (PySem.W.special_fn X I hs (beq_iff_eq.mp hf) (wpAny_mono h ?_ fun _ _ y => y))
  intro r s' hr
  match r, hr with
  | .int n u, ⟨⟨h0, h1⟩, hq⟩ =>
    refine wpAny_bind (wpAny_holding (wpAny_pure ?_))
    refine wpAny_bind (wpAny_letGo ?_)
    show wpAny _ _ (if n < 0 then _ else _) _ _ _
    rw [if_neg (by omega)]
    show wpAny _ _ (if n ≥ 2 ^ 63 then _ else _) _ _ _
    rw [if_neg (by omega)]
    exact wpAny_bind (wpAny_mkInt (wpAny_pure ⟨_, rfl, hq⟩))
theorem truthy_len {Q : Bool → Shared → Prop} (X : K.In s.heap) (I : PySem.W.InstAt s.heap x ox C od) (hb : PySem.W.findIn K (.ref C) "__bool__" = some none) (hs : PySem.W.findIn K (.ref C) "__len__" = some (some (.ref f))) (hf : PySem.W.isFn K (.ref f) = true)
    (h : wpAny (model prog w) A.in1 (call (.ref f) [.ref x]) (PySem.W.LenBack fun v s' => ∃ n t, v = .int n t ∧ Q (n != 0) s') E s) : wpAny (model prog w) A (truthy (.ref x)) Q E s := by
  unfold truthy
  refine wpAny_bind (m := callSpecial? (.ref x) (Str.ofString "__bool__")) (wpAny_bind (wpAny_bind (I.type.here ((PySem.W.looks_findIn X hb).here (wpAny_pure ?_)))))
  refine wpAny_bind (wpAny_bind (I.type.here ((PySem.W.looks_findIn X hs).here ?_)))
  show wpAny _ _ (runValue (.builtin "len" ⟨[.ref x], []⟩) >>= _) _ _ _
  refine wpAny_bind (wpAny_runValue (codeAny_builtin PySem.entry_len ?_))
  rw [Around.under_plainId PySem.plain_len _]
  refine wpAny_mono (len_bodyK X I hs hf h) ?_ (fun _ _ y => y)
  rintro fin s' ⟨v, rfl, n, t, rfl, q⟩
  exact wpAny_pure q
theorem bool_own {Q : Value → Shared → Prop} (h : wpAny (model prog w) A.in1.in1 (truthy (.ref x)) (fun b s' => Q (.bool b) s') E s) : wpAny (model prog w) A (call (.type "bool") [.ref x]) Q E s := by
  have g : MeetsIn prog w (Builtin.«bool.__new__» ⟨[.type "bool", .ref x], []⟩) (fun A R s => wpAny (model prog w) A.in1 (truthy (.ref x)) (fun b s' => R (.ok (.ret (.bool b))) s') (fun e s' => R (.error e) s') s) := by
    intro A R s hs
    obtain ⟨hp, g, d, tk, os⟩ := s
    have f1 := F.conv_sub_bool
    have hs2 : wpAny (model prog w) A.in1 (truthy (.ref x)) (fun b s' => wpAny (model prog w) A.in1 (ret (.bool b) : Sem Fin) (fun fin s' => match fin with | .done f => R (.ok f) s' | .again c' => c'.quiet = true ∧ codeAny (model prog w) A c' R s') (fun e s' => R (.error e) s') s') (fun e s' => R (.error e) s') ⟨hp, g, d, tk, os⟩ :=
      wpAny_mono hs (fun b s' z => wpAny_pure z) fun _ _ z => z
    repeat (any_goals (first | assumption | exact hs2 | wp_step))
  exact callType_newIn F.called_bool F.newNe_bool (F.typeCall_bool_1 _) (F.newCall_bool_1 _) (fun obj => F.args_object_init_2 obj _) F.entry_bool_new g (wpAny_mono h (fun b s' z => ⟨rfl, z⟩) fun _ _ z => z)
end
section
variable {X : Cx} {CX : CXT} {C g : Addr} {n : Nat} {fd : FuncData} {ps : List Str} {sp : Sp} {E : XK}
def QLen (Q : VK) : VK := fun z H' => ∃ m : Int, z = .int m ∧ 0 ≤ m ∧ m < 2 ^ 62 ∧ Q (.int m) H'
def QTru (Q : VK) : VK := fun z H' => ∃ m : Int, z = .int m ∧ 0 ≤ m ∧ m < 2 ^ 62 ∧ Q (.bl (m != 0)) H'
/-- len(o), by o's own __len__ -/
theorem call_lenOwn (hs : PySem.W.findIn X.K (.ref C) "__len__" = some (some (.ref g))) (hf : PySem.W.isFn X.K (.ref g) = true) (F : FnOk X.prog X.w X.K X.mg X.base CX n g fd ps sp) (hb : L2.Binds X.K fd ps [])
    (hr : Room (n + 1) X.A) (hx : Passes CX X E) : CallR X (.builtin "len") (rOwn1 C sp E QLen) := by
  intro pins s σ H vs us Q I r h
  obtain ⟨a, dx, fs, rfl, ha, q⟩ := h
  obtain ⟨u, rfl, ru⟩ := Vals.one r
  cases (show u = Value.ref a from ru)
  obtain ⟨od, J⟩ := inst_of I ha
  obtain ⟨m, hF⟩ := I.fr
  refine PySem.W.len_K hF I.ok.mod.kin J hs hf ?_
  refine wpAny_mono (run_fnA (A := X.A.in1) (us := [.ref a]) (vs := [.ref a]) F hr.in1 rfl hb hx I (.cons rfl .nil) q) ?_ (fun _ _ x => x)
  rintro v s' ⟨z, H', I', rz, m, rfl, m0, m1, q'⟩
  obtain ⟨t, rfl⟩ := (show ∃ t, v = Value.int m t from rz)
  exact ⟨⟨m0, Int.lt_trans m1 (by decide)⟩, .int m, H', I'.tok _, ⟨_, rfl⟩, q'⟩
theorem truthyOwn (hbl : PySem.W.findIn X.K (.ref C) "__bool__" = some none) (hs : PySem.W.findIn X.K (.ref C) "__len__" = some (some (.ref g))) (hf : PySem.W.isFn X.K (.ref g) = true) (F : FnOk X.prog X.w X.K X.mg X.base CX n g fd ps sp) (hb : L2.Binds X.K fd ps [])
    {A : Around} (hr : Room (n + 1) A) (hA : A.frames = X.A.frames) (hx : Passes CX X E) {pins : List (Addr × Obj)} {σ : L2.St} {H : Hp} {s : Shared} {a dx : Addr} {fs : List (Str × V)} {Q : VK} (I : L2.Inv X pins σ H s) (ha : H a = some (.ins C dx fs))
    (q : sp [.ref a] H (QTru Q) E) : wpAny (model X.prog X.w) A (truthy (.ref a)) (fun b s' => ∃ H', L2.Inv X pins σ H' s' ∧ Q (.bl b) H') X.xe s := by
  obtain ⟨od, J⟩ := inst_of I ha
  refine truthy_len I.kIn J hbl hs hf ?_
  refine wpAny_mono (run_fnA (A := A.in1) (us := [.ref a]) (vs := [.ref a]) F hr.in1 hA hb hx I (.cons rfl .nil) q) ?_ (fun _ _ x => x)
  rintro v s' ⟨z, H', I', rz, m, rfl, m0, m1, q'⟩
  obtain ⟨t, rfl⟩ := (show ∃ t, v = Value.int m t from rz)
  exact ⟨⟨m0, Int.lt_trans m1 (by decide)⟩, m, _, rfl, H', I'.tok _, q'⟩
/-- bool(o), by o's own __len__ -/
theorem call_boolOwn (hbl : PySem.W.findIn X.K (.ref C) "__bool__" = some none) (hs : PySem.W.findIn X.K (.ref C) "__len__" = some (some (.ref g))) (hf : PySem.W.isFn X.K (.ref g) = true) (F : FnOk X.prog X.w X.K X.mg X.base CX n g fd ps sp) (hb : L2.Binds X.K fd ps [])
    (hr : Room (n + 3) X.A) (hx : Passes CX X E) : CallR X (.type "bool") (rOwn1 C sp E QTru) := by
  intro pins s σ H vs us Q I r h
  obtain ⟨a, dx, fs, rfl, ha, q⟩ := h
  obtain ⟨u, rfl, ru⟩ := Vals.one r
  cases (show u = Value.ref a from ru)
  refine bool_own (wpAny_mono (truthyOwn hbl hs hf F hb (A := X.A.in1.in1) hr.in1.in1 rfl hx I ha q) ?_ fun _ _ x => x)
  rintro b s' ⟨H', I', q'⟩
  exact ⟨.bl b, H', I', rfl, q'⟩
/-- len(range(..)) -/
def tLenRg (te : L2.St → Hp → (Int → Int → Hp → Prop) → Prop) : TE := fun σ H Q => te σ H fun a b H1 => (b - a).toNat < 2 ^ 62 ∧ Q (.int ((b - a).toNat : Nat)) H1
theorem pe_lenRg {e : Expr} {te : L2.St → Hp → (Int → Int → Hp → Prop) → Prop} {p pos : Pos} (hg : Gl X "len") (hm : X.mg "len" = none) (he : PRg X e te) (na : starEach [e] X.env = (false, eval e X.env) :: starEach [] X.env := by rfl) : PE X (.Call (.Name "len" p) [e] [] pos) (tLenRg te) := by
  constructor
  intro pins s σ H Q I h
  refine wpAny_Call_Name_kw (ld_blt I hg hm PySem.boot_len ?_ (by decide) (by decide))
  refine PyProof.Rows.callWith_builtin1 (PyProof.Rows.args_cons (thn (he pins s σ H _ I h) ?_) na) na rfl
  rintro x s1 ⟨r, a, b, t, u, v, H1, rfl, hr, I1, hz, q⟩
  refine PyProof.Rows.args_nil (call_len_range (n := (b - a).toNat) hr ?_ ?_ ⟨.int ((b - a).toNat : Nat), H1, I1.tok _, ⟨_, rfl⟩, q⟩)
  · unfold Builtin.Range.rangeSize
    rw [if_pos (by decide)]
    split
    · rw [Int.ediv_one]
      omega
    · omega
  · omega
end
section
variable {X : Cx}
theorem eqBool_bl {prog : Program} {w : World} {A : Around} {E : Value → Shared → Prop} {s : Shared} {i j : Bool} {Q : Bool → Shared → Prop} (h : Q (i == j) s) : wpAny (model prog w) A (eqBool (.bool i) (.bool j)) Q E s := by
  have key : wpAny (model prog w) A (compareOp .Eq (.bool i) (.bool j)) (fun v s' => v = .bool (i == j) ∧ s' = s) E s := PyProof.Rows.eq_bool ⟨rfl, rfl⟩
  have key2 : wpAny (model prog w) A (richCompare .Eq (.bool i) (.bool j)) (fun v s' => v = .bool (i == j) ∧ s' = s) E s := key
  unfold eqBool
  refine wpAny_holding (wpAny_ite_split (fun e => ?_) (fun _ => ?_))
  · have e2 : i = j := by
      have := eq_of_beq e
      injection this
    subst e2
    rw [beq_self_eq_true] at h
    exact wpAny_bind (wpAny_rule (wpAny_pure h))
  · refine wpAny_bind (wpAny_mono key2 ?_ fun _ _ z => z)
    rintro v s' ⟨rfl, rfl⟩
    exact wpAny_truthy_bool h
/-- xs.count(b) of truths -/
def rCntBl : V → List V → Hp → VK → Prop := fun x xs H Q => ∃ (l : Addr) (rs : List Bool) (b : Bool), x = .ref l ∧ xs = [.bl b] ∧ H l = some (.lst (rs.map V.bl)) ∧ Q (.int (cntB (fun i => rs.getD i false == b) rs.length 0)) H
theorem mt_countBl : MtR X "list.count" rCntBl := by
  intro pins s σ H x xs v us Q I rx rxs h
  obtain ⟨l, rs, b, rfl, rfl, hl, q⟩ := h
  cases (show v = Value.ref l from rx)
  obtain ⟨u, rfl, ru⟩ := rxs.one
  cases (show u = Value.bool b from ru)
  obtain ⟨_, its, m, _, hp⟩ := (show ObjOk X.prog X.w H s.heap l (.lst (rs.map V.bl)) from I.hok l _ hl)
  refine GQ.call_here F.slot_list_count ⟨_, hp, rfl⟩ F.entry_list_count (F.args_list_count_2 _ _) ?_
  refine list_countG l (.bool b) rs.length (fun i => rs.getD i false == b) (fun _ s' => L2.Inv X pins σ H s') ?_ I (fun s' I' => ⟨.int _, H, I'.tok _, ⟨_, rfl⟩, q⟩)
  intro i s' I'
  obtain ⟨_, its, m, r, hp⟩ := (show ObjOk X.prog X.w H s'.heap l (.lst (rs.map V.bl)) from I'.hok l _ hl)
  have hlen : its.length = rs.length := by rw [← r.length, List.length_map]
  refine ⟨its.toArray, m, hp, by simpa using hlen, fun h1 => ?_⟩
  have h1' : i < its.length := by simpa using h1
  have hix : i < rs.length := by omega
  obtain ⟨v, hv, rv⟩ := r.get (show (rs.map V.bl)[i]? = some (.bl rs[i]) by rw [List.getElem?_map, List.getElem?_eq_getElem hix]; rfl)
  have ev : its.toArray[i] = v := by
    rw [List.getElem?_eq_getElem h1'] at hv
    simpa using hv
  cases (show v = Value.bool rs[i] from rv)
  rw [ev]
  refine eqBool_bl ⟨?_, I'⟩
  show (rs[i] == b) = (rs.getD i false == b)
  rw [List.getD_eq_getElem?_getD, List.getElem?_eq_getElem hix]
  rfl
end
/-! ### walks by enumerate; counts of texts; calls that may raise, where nothing is raised -/
theorem for_enum {K : PySem.W.Frag} {a : Addr} {xs : List V} {g : TG} {tb : TS} {D : L2.Ends} {σ : L2.St} {H : Hp} (Pv : Nat → L2.St → Hp → Prop) (h0 : Pv 0 σ H) (hl : ∀ i σ H, i ≤ xs.length → Pv i σ H → SqL K H a xs)
    (hs : ∀ i x T σ H, xs[i]? = some x → Pv i σ H → H T = none → g (.ref T) σ (upd H T (.tup [.int (i : Nat), x])) fun σ2 H2 => tb { D with nx := Pv (i + 1), ct := Pv (i + 1), bk := D.nx } σ2 H2) (hd : ∀ σ H, Pv xs.length σ H → D.nx σ H) :
    ∃ W : Nat → Nat → L2.St → Hp → Prop, (∃ m, W 0 m σ H) ∧ ∀ i m σ H, W i m σ H →
      ((Ite K a).stop i H ∧ D.nx σ H) ∨ ((Ite K a).go i H ∧ ∃ N : L2.St → Hp → Prop, (∀ σ' H', N σ' H' → ∃ m', m' < m ∧ W (i + 1) m' σ' H') ∧ ∀ x H', (Ite K a).yld i H x H' → g x σ H' fun σ2 H2 => tb { D with nx := N, ct := N, bk := D.nx } σ2 H2) := by
  refine ⟨fun i m σ H => m = xs.length - i ∧ i ≤ xs.length ∧ Pv i σ H, ⟨xs.length, by simp, Nat.zero_le _, h0⟩, ?_⟩
  rintro i m σ H ⟨rfl, hi, p⟩
  have q := hl i σ H hi p
  by_cases hlt : i < xs.length
  · refine .inr ⟨⟨xs, xs[i], q, by simp [hlt]⟩, Pv (i + 1), fun σ' H' p' => ⟨xs.length - (i + 1), by omega, rfl, hlt, p'⟩, ?_⟩
    rintro x H' ⟨T, y, rfl, hT, rfl, hy⟩
    exact hs i y T σ H (hy xs q) p hT
  · have e : i = xs.length := by omega
    subst e
    exact .inl ⟨⟨xs, q, Nat.le_refl _⟩, hd σ H p⟩
abbrev rLenQ (K : PySem.W.Frag) : List V → Hp → VK → Prop := fun xs H Q => ∃ p ys, xs = [V.ref p] ∧ (SqL K H p ys ∨ SqT K H p ys) ∧ Q (.int ((ys.length : Nat) : Int)) H
section
variable {X : Cx}
theorem eqBool_tx {prog : Program} {w : World} {A : Around} {E : Value → Shared → Prop} {s : Shared} {i j : Str} {t u : Tok} {Q : Bool → Shared → Prop} (h : Q (decide (i = j)) s) : wpAny (model prog w) A (eqBool (.str i t) (.str j u)) Q E s := wpAny_eqBool_str h
/-- xs.count(t) of texts -/
def rCntTx : V → List V → Hp → VK → Prop := fun x xs H Q => ∃ (l : Addr) (rs : List Str) (b : Str), x = .ref l ∧ xs = [.str b] ∧ H l = some (.lst (rs.map V.str)) ∧ Q (.int (cntB (fun i => decide (rs.getD i "" = b)) rs.length 0)) H
theorem mt_countTx : MtR X "list.count" rCntTx := by
  intro pins s σ H x xs v us Q I rx rxs h
  obtain ⟨l, rs, b, rfl, rfl, hl, q⟩ := h
  cases (show v = Value.ref l from rx)
  obtain ⟨u, rfl, ru⟩ := rxs.one
  obtain ⟨tb, rfl⟩ := (show ∃ t, u = Value.str b t from ru)
  obtain ⟨_, its, m, _, hp⟩ := (show ObjOk X.prog X.w H s.heap l (.lst (rs.map V.str)) from I.hok l _ hl)
  refine GQ.call_here F.slot_list_count ⟨_, hp, rfl⟩ F.entry_list_count (F.args_list_count_2 _ _) ?_
  refine list_countG l (.str b tb) rs.length (fun i => decide (rs.getD i "" = b)) (fun _ s' => L2.Inv X pins σ H s') ?_ I (fun s' I' => ⟨.int _, H, I'.tok _, ⟨_, rfl⟩, q⟩)
  intro i s' I'
  obtain ⟨_, its, m, r, hp⟩ := (show ObjOk X.prog X.w H s'.heap l (.lst (rs.map V.str)) from I'.hok l _ hl)
  have hlen : its.length = rs.length := by rw [← r.length, List.length_map]
  refine ⟨its.toArray, m, hp, by simpa using hlen, fun h1 => ?_⟩
  have h1' : i < its.length := by simpa using h1
  have hix : i < rs.length := by omega
  obtain ⟨v, hv, rv⟩ := r.get (show (rs.map V.str)[i]? = some (.str rs[i]) by rw [List.getElem?_map, List.getElem?_eq_getElem hix]; rfl)
  have ev : its.toArray[i] = v := by
    rw [List.getElem?_eq_getElem h1'] at hv
    simpa using hv
  obtain ⟨tv, e2⟩ := (show ∃ t, v = Value.str rs[i] t from rv)
  rw [ev, e2]
  refine eqBool_tx ⟨?_, I'⟩
  show decide (rs[i] = b) = decide (rs.getD i "" = b)
  rw [List.getD_eq_getElem?_getD, List.getElem?_eq_getElem hix]
  rfl
theorem passF {P : Program} {w : World} (hP : X.prog = P) (hw : X.w = w) : Passes (L2.CX P w) X E0 := fun pins σ H s e s' I h => passNo (σ := σ) hP hw pins H s e s' I h
end
theorem cntB_count {rs : List Str} {b : Str} : ∀ (k i : Nat), i + k ≤ rs.length → cntB (fun i => decide (rs.getD i "" = b)) k i = ((((rs.drop i).take k).count b : Nat) : Int)
  | 0, i, _ => by simp [cntB]
  | k + 1, i, h => by
    have hi : i < rs.length := by omega
    have ih := cntB_count (rs := rs) (b := b) k (i + 1) (by omega)
    rw [List.drop_eq_getElem_cons hi, List.take_succ_cons, List.count_cons]
    show (if decide (rs.getD i "" = b) = true then (1 : Int) else 0) + cntB _ k (i + 1) = _
    rw [ih]
    have e : rs.getD i "" = rs[i] := by rw [List.getD_eq_getElem?_getD, List.getElem?_eq_getElem hi]; rfl
    rw [e]
    by_cases c : rs[i] = b
    · simp [c]; omega
    · simp [c]
theorem cnt_all {rs : List Str} {b : Str} : cntB (fun i => decide (rs.getD i "" = b)) rs.length 0 = ((rs.count b : Nat) : Int) := by
  have := cntB_count (rs := rs) (b := b) rs.length 0 (by omega)
  rw [this, List.drop_zero, List.take_length]
theorem nodup_count {rs : List Str} : (∀ z ∈ rs, ((rs.count z : Nat) : Int) = 1) ↔ rs.Nodup := by
  rw [List.nodup_iff_count]
  constructor
  · intro h z
    by_cases c : z ∈ rs
    · have := h z c; omega
    · rw [List.count_eq_zero_of_not_mem c]; omega
  · intro h z hz
    have h1 := h z
    have h2 := List.count_pos_iff.mpr hz
    omega
/-- an exception that is made, not raised: a value, and it stays -/
theorem pe_ofMk {X : Cx} {e : Expr} {t : L2.St → Hp → XK → Prop} (h : PMk X e t) : PE X e (fun σ H Q => t σ H fun cls d H' => ∀ a, H' a = none → Q (.ref a) (upd H' a (keptX cls d a))) := by
  constructor
  intro pins s σ H Q I q
  refine wpAny_mono (h pins s σ H _ I q) ?_ (fun _ _ x => x)
  rintro u s1 ⟨a, oe, vs, sI, H', cls, d, rfl, J, k, ne, ha, hz, hd, _, na, os, ag, _, q2⟩
  have J2 := J.laidN (t' := s1.toks) k ne na (keptX_ok ha hz hd)
  exact ⟨.ref a, upd H' a (keptX cls d a), ⟨J2.ok, os.trans J.os, ag, J2.base, J2.loc, J2.cell, J2.free, J2.freeC, J2.pin, J2.hok, J2.len⟩, rfl, q2 a na⟩
def topS (i : Nat) : Stmt := PySem.Challenge.pw_boatbridge_k09_bridges_as_objects.main.body.getD i (.Pass ⟨0, 0, 0, 0⟩)
abbrev sWall : Stmt := topS 0
abbrev NWall : List Str := ["k"]
theorem scWall : FnScope NWall ["k"] (defScope sWall) := ⟨rfl, rfl, rfl, by decide +kernel, rfl, by decide +kernel, by decide +kernel⟩
abbrev sIsW : Stmt := topS 10
abbrev NIsW : List Str := ["thing", "least", "most"]
theorem scIsW : FnScope NIsW ["thing", "least", "most"] (defScope sIsW) := ⟨rfl, rfl, rfl, by decide +kernel, rfl, by decide +kernel, by decide +kernel⟩
abbrev sAreB : Stmt := topS 15
abbrev NAreB : List Str := ["thing", "names", "boat", "name"]
theorem scAreB : FnScope NAreB ["thing"] (defScope sAreB) := ⟨rfl, rfl, rfl, by decide +kernel, rfl, by decide +kernel, by decide +kernel⟩
abbrev sAreS : Stmt := topS 16
abbrev NAreS : List Str := ["thing", "span"]
theorem scAreS : FnScope NAreS ["thing"] (defScope sAreS) := ⟨rfl, rfl, rfl, by decide +kernel, rfl, by decide +kernel, by decide +kernel⟩
abbrev sTape : Stmt := topS 18
abbrev NTape : List Str := ["_law_script"]
theorem scTape : FnScope NTape ["_law_script"] (defScope sTape) := ⟨rfl, rfl, rfl, by decide +kernel, rfl, by decide +kernel, by decide +kernel⟩
abbrev sDraw : Stmt := topS 19
abbrev NDraw : List Str := ["_law_tape_here", "_law_many", "_law_digit", "_law_turn", "_law_cell", "_law_primes", "_law_prime", "_law_mixed"]
theorem scDraw : FnScope NDraw ["_law_tape_here", "_law_many"] (defScope sDraw) := ⟨rfl, rfl, rfl, by decide +kernel, rfl, by decide +kernel, by decide +kernel⟩
abbrev sPick : Stmt := topS 20
abbrev NPick : List Str := ["_law_tape_here", "_law_some"]
theorem scPick : FnScope NPick ["_law_tape_here", "_law_some"] (defScope sPick) := ⟨rfl, rfl, rfl, by decide +kernel, rfl, by decide +kernel, by decide +kernel⟩
abbrev sNames : Stmt := topS 21
abbrev NNames : List Str := ["_law_tape_here", "_law_many", "_law_letters", "_law_turn", "_law_words", "_law_base", "_law_at", "_law_first", "_law_step", "_law_ends", "_law_k"]
theorem scNames : FnScope NNames ["_law_tape_here", "_law_many"] (defScope sNames) := ⟨rfl, rfl, rfl, by decide +kernel, rfl, by decide +kernel, by decide +kernel⟩
abbrev sOdd : Stmt := topS 22
abbrev NOdd : List Str := ["_law_tape_here", "_law_some"]
theorem scOdd : FnScope NOdd ["_law_tape_here"] (defScope sOdd) := ⟨rfl, rfl, rfl, by decide +kernel, rfl, by decide +kernel, by decide +kernel⟩
abbrev sBRows : Stmt := topS 23
abbrev NBRows : List Str := ["_law_tape_here", "_law_names_here", "_law_most", "_law_found", "_law_who", "_law_k"]
theorem scBRows : FnScope NBRows ["_law_tape_here", "_law_names_here"] (defScope sBRows) := ⟨rfl, rfl, rfl, by decide +kernel, rfl, by decide +kernel, by decide +kernel⟩
abbrev sSRow : Stmt := topS 24
abbrev NSRow : List Str := ["_law_tape_here", "_law_many", "_law_most", "_law_k"]
theorem scSRow : FnScope NSRow ["_law_tape_here", "_law_many"] (defScope sSRow) := ⟨rfl, rfl, rfl, by decide +kernel, rfl, by decide +kernel, by decide +kernel⟩
abbrev sDParts : Stmt := topS 25
abbrev NDParts : List Str := ["_law_tape_here", "_law_many"]
theorem scDParts : FnScope NDParts ["_law_tape_here"] (defScope sDParts) := ⟨rfl, rfl, rfl, by decide +kernel, rfl, by decide +kernel, by decide +kernel⟩
abbrev sMade : Stmt := topS 26
abbrev NMade : List Str := ["_law_parts", "_law_who", "_law_bears"]
theorem scMade : FnScope NMade ["_law_parts"] (defScope sMade) := ⟨rfl, rfl, rfl, by decide +kernel, rfl, by decide +kernel, by decide +kernel⟩
abbrev sLBoat : Stmt := topS 27
abbrev NLBoat : List Str := ["_law_one", "_law_who", "_law_bears"]
theorem scLBoat : FnScope NLBoat ["_law_one", "_law_who", "_law_bears"] (defScope sLBoat) := ⟨rfl, rfl, rfl, by decide +kernel, rfl, by decide +kernel, by decide +kernel⟩
abbrev sLBridge : Stmt := topS 28
abbrev NLBridge : List Str := ["_law_bridge", "_law_parts", "_law_hulls", "_law_beams", "_law_k", "_law_one"]
theorem scLBridge : FnScope NLBridge ["_law_bridge", "_law_parts"] (defScope sLBridge) := ⟨rfl, rfl, rfl, by decide +kernel, rfl, by decide +kernel, by decide +kernel⟩
abbrev sLNear : Stmt := topS 29
abbrev NLNear : List Str := ["_law_tape_here", "_law_parts", "_law_hulls", "_law_beams", "_law_at", "_law_way", "_law_who", "_law_bears", "_law_spot", "_law_unlike", "_law_one"]
theorem scLNear : FnScope NLNear ["_law_tape_here", "_law_parts"] (defScope sLNear) := ⟨rfl, rfl, rfl, by decide +kernel, rfl, by decide +kernel, by decide +kernel⟩
abbrev sNamed : Stmt := topS 30
abbrev NNamed : List Str := ["_law_bridge", "_law_thing", "_law_found", "_law_error", "e"]
theorem scNamed : FnScope NNamed ["_law_bridge", "_law_thing"] (defScope sNamed) := ⟨rfl, rfl, rfl, by decide +kernel, rfl, by decide +kernel, by decide +kernel⟩
abbrev sNamesRight : Stmt := topS 31
abbrev NNamesRight : List Str := ["_law_tape_here", "_law_bridge", "_law_parts", "_law_who", "_law_bears", "_law_word", "_law_found", "_law_some", "_law_thing", "_law_known"]
theorem scNamesRight : FnScope NNamesRight ["_law_tape_here", "_law_bridge", "_law_parts"] (defScope sNamesRight) := ⟨rfl, rfl, rfl, by decide +kernel, rfl, by decide +kernel, by decide +kernel⟩
abbrev sLaw : Stmt := topS 32
abbrev NLaw : List Str := ["_law_script", "_law_tape_here", "_law_turn", "_law_parts", "_law_near_here", "_law_hulls", "_law_beams", "_law_one", "_law_other", "_law_at", "_law_due", "_law_thing", "_law_who", "_law_bears"]
theorem scLaw : FnScope NLaw ["_law_script"] (defScope sLaw) := ⟨rfl, rfl, rfl, by decide +kernel, rfl, by decide +kernel, by decide +kernel⟩
abbrev sBInit : Stmt := inClass (topS 2) 0
abbrev NBInit : List Str := ["self", "name", "bears"]
theorem scBInit : FnScope NBInit ["self", "name", "bears"] (defScope sBInit) := ⟨rfl, rfl, rfl, by decide +kernel, rfl, by decide +kernel, by decide +kernel⟩
abbrev sBEq : Stmt := inClass (topS 2) 1
abbrev NBEq : List Str := ["self", "other"]
theorem scBEq : FnScope NBEq ["self", "other"] (defScope sBEq) := ⟨rfl, rfl, rfl, by decide +kernel, rfl, by decide +kernel, by decide +kernel⟩
abbrev sBStr : Stmt := inClass (topS 2) 2
abbrev NBStr : List Str := ["self"]
theorem scBStr : FnScope NBStr ["self"] (defScope sBStr) := ⟨rfl, rfl, rfl, by decide +kernel, rfl, by decide +kernel, by decide +kernel⟩
abbrev sBRepr : Stmt := inClass (topS 2) 3
abbrev NBRepr : List Str := ["self"]
theorem scBRepr : FnScope NBRepr ["self"] (defScope sBRepr) := ⟨rfl, rfl, rfl, by decide +kernel, rfl, by decide +kernel, by decide +kernel⟩
abbrev sBrInit : Stmt := inClass (topS 14) 0
abbrev NBrInit : List Str := ["self", "boats", "spans"]
theorem scBrInit : FnScope NBrInit ["self", "boats", "spans"] (defScope sBrInit) := ⟨rfl, rfl, rfl, by decide +kernel, rfl, by decide +kernel, by decide +kernel⟩
abbrev sBridgeEq : Stmt := inClass (topS 14) 1
abbrev NBridgeEq : List Str := ["self", "other"]
theorem scBridgeEq : FnScope NBridgeEq ["self", "other"] (defScope sBridgeEq) := ⟨rfl, rfl, rfl, by decide +kernel, rfl, by decide +kernel, by decide +kernel⟩
abbrev sBrLen : Stmt := inClass (topS 14) 2
abbrev NBrLen : List Str := ["self"]
theorem scBrLen : FnScope NBrLen ["self"] (defScope sBrLen) := ⟨rfl, rfl, rfl, by decide +kernel, rfl, by decide +kernel, by decide +kernel⟩
abbrev sBridgeStr : Stmt := inClass (topS 14) 3
abbrev NBridgeStr : List Str := ["self", "behind", "boat", "span"]
theorem scBridgeStr : FnScope NBridgeStr ["self"] (defScope sBridgeStr) := ⟨rfl, rfl, rfl, by decide +kernel, rfl, by decide +kernel, by decide +kernel⟩
abbrev sBrBoats : Stmt := inClass (topS 14) 4
abbrev NBrBoats : List Str := ["self"]
theorem scBrBoats : FnScope NBrBoats ["self"] (defScope sBrBoats) := ⟨rfl, rfl, rfl, by decide +kernel, rfl, by decide +kernel, by decide +kernel⟩
abbrev sBrSpans : Stmt := inClass (topS 14) 5
abbrev NBrSpans : List Str := ["self"]
theorem scBrSpans : FnScope NBrSpans ["self"] (defScope sBrSpans) := ⟨rfl, rfl, rfl, by decide +kernel, rfl, by decide +kernel, by decide +kernel⟩
abbrev sBridgeBoat : Stmt := inClass (topS 14) 6
abbrev NBridgeBoat : List Str := ["self", "name", "boat"]
theorem scBridgeBoat : FnScope NBridgeBoat ["self", "name"] (defScope sBridgeBoat) := ⟨rfl, rfl, rfl, by decide +kernel, rfl, by decide +kernel, by decide +kernel⟩
abbrev sBridgeWithBoat : Stmt := inClass (topS 14) 7
abbrev NBridgeWithBoat : List Str := ["self", "at", "boat"]
theorem scBridgeWithBoat : FnScope NBridgeWithBoat ["self", "at", "boat"] (defScope sBridgeWithBoat) := ⟨rfl, rfl, rfl, by decide +kernel, rfl, by decide +kernel, by decide +kernel⟩
abbrev sNoBoatInit : Stmt := inClass (topS 5) 0
abbrev NNoBoatInit : List Str := ["self", "name"]
theorem scNoBoatInit : FnScope NNoBoatInit ["self", "name"] (defScope sNoBoatInit) := ⟨rfl, rfl, rfl, by decide +kernel, rfl, by decide +kernel, by decide +kernel⟩
abbrev sTakenInit : Stmt := inClass (topS 6) 0
abbrev NTakenInit : List Str := ["self", "name"]
theorem scTakenInit : FnScope NTakenInit ["self", "name"] (defScope sTakenInit) := ⟨rfl, rfl, rfl, by decide +kernel, rfl, by decide +kernel, by decide +kernel⟩
abbrev sNSInit : Stmt := inClass (topS 7) 0
abbrev NNSInit : List Str := ["self", "at"]
theorem scNSInit : FnScope NNSInit ["self", "at"] (defScope sNSInit) := ⟨rfl, rfl, rfl, by decide +kernel, rfl, by decide +kernel, by decide +kernel⟩
abbrev sOInit : Stmt := inClass (topS 8) 0
abbrev NOInit : List Str := ["self", "part", "at", "over"]
theorem scOInit : FnScope NOInit ["self", "part", "at", "over"] (defScope sOInit) := ⟨rfl, rfl, rfl, by decide +kernel, rfl, by decide +kernel, by decide +kernel⟩

/-- the tape at T: the cells' list, the draws done (at most n), the rest of a great cell -/
structure Tape (H : Hp) (T c : Addr) (n : Nat) : Prop where
  ex : ∃ (t r : Int) (ns : List Int), H T = some (.lst [.ref c, .int t, .int r]) ∧ H c = some (.lst (ns.map V.int)) ∧ c ≠ T ∧ 0 ≤ t ∧ t ≤ n ∧ ns.length ≤ 63
/-- all but the tape stands as it stood -/
def Keep (T : Addr) (H H' : Hp) : Prop := ∀ a o, a ≠ T → H a = some o → H' a = some o
theorem Keep.refl {T : Addr} {H : Hp} : Keep T H H := fun _ _ _ e => e
theorem Keep.trans {T : Addr} {H H1 H2 : Hp} (a : Keep T H H1) (b : Keep T H1 H2) : Keep T H H2 := fun x o n e => b x o n (a x o n e)
theorem Keep.updT {T : Addr} {H H1 : Hp} {o : HO} (a : Keep T H H1) : Keep T H (upd H1 T o) := fun x o n e => by
  rw [upd_ne n]; exact a x o n e
theorem Keep.new {T : Addr} {H H1 : Hp} {p : Addr} {o : HO} (a : Keep T H H1) (h : H1 p = none) : Keep T H (upd H1 p o) := fun x o n e => by
  have z := a x o n e
  rw [upd_ne (ne_of_none z h)]; exact z
theorem Tape.mono {H : Hp} {T c : Addr} {n m : Nat} (h : Tape H T c n) (l : n ≤ m) : Tape H T c m := by
  obtain ⟨t, r, ns, h1, h2, h3, h4, h5, h6⟩ := h.ex
  exact ⟨t, r, ns, h1, h2, h3, h4, by omega, h6⟩
theorem Tape.upd {H : Hp} {T c : Addr} {n : Nat} {p : Addr} {o : HO} (h : Tape H T c n) (n1 : p ≠ T) (n2 : p ≠ c) : Tape (upd H p o) T c n := by
  obtain ⟨t, r, ns, h1, h2, h3, h4, h5, h6⟩ := h.ex
  exact ⟨t, r, ns, by rw [upd_ne n1.symm]; exact h1, by rw [upd_ne n2.symm]; exact h2, h3, h4, h5, h6⟩
theorem Tape.new {H : Hp} {T c : Addr} {n : Nat} {p : Addr} {o : HO} (h : Tape H T c n) (hp : H p = none) : Tape (L2.upd H p o) T c n := by
  obtain ⟨t, r, ns, h1, h2, h3, h4, h5, h6⟩ := h.ex
  exact ⟨t, r, ns, by rw [upd_ne (ne_of_none h1 hp)]; exact h1, by rw [upd_ne (ne_of_none h2 hp)]; exact h2, h3, h4, h5, h6⟩
theorem Tape.nec {H : Hp} {T c : Addr} {n : Nat} {p : Addr} (h : Tape H T c n) (hp : H p = none) : p ≠ c := by
  obtain ⟨t, r, ns, _, h2, _⟩ := h.ex
  exact (ne_of_none h2 hp).symm
theorem Tape.ne {H : Hp} {T c : Addr} {n : Nat} {p : Addr} (h : Tape H T c n) (hp : H p = none) : p ≠ T := by
  obtain ⟨t, r, ns, h1, _⟩ := h.ex
  exact (ne_of_none h1 hp).symm
theorem upd_at {H : Hp} {p a : Addr} {o z : HO} (hp : H p = none) (h : H a = some z) : (upd H p o) a = some z := by
  rw [upd_ne (ne_of_none h hp)]; exact h
def spTape (K : PySem.W.Frag) : Sp := fun vs H Q _ => ∃ (a : Addr) (ns : List Int), vs = [.ref a] ∧ SqL K H a (ns.map V.int) ∧ ns.length ≤ 63 ∧
  ∀ T c H', H T = none → H c = none → Same H H' → Tape H' T c 0 → Q (.ref T) H'
def spDraw : Sp := fun vs H Q _ => ∃ (T c : Addr) (b : Int) (n : Nat), vs = [.ref T, .int b] ∧ 0 < b ∧ b < 1073741824 ∧ n < 1000000 ∧ Tape H T c n ∧
  ∀ d H', 0 ≤ d → d < b → Tape H' T c (n + 1) → Keep T H H' → Q (.int d) H'
/-- an item of a list, any one -/
def spPick : Sp := fun vs H Q _ => ∃ (T c p : Addr) (xs : List V) (n : Nat), vs = [.ref T, .ref p] ∧ H p = some (.lst xs) ∧ p ≠ T ∧ 0 < xs.length ∧ xs.length < 1000000 ∧ n < 1000000 ∧ Tape H T c n ∧
  ∀ (j : Nat) (x : V) H', xs[j]? = some x → Tape H' T c (n + 1) → Keep T H H' → Q x H'
theorem dp_ints {K : PySem.W.Frag} {H : Hp} : ∀ ns : List Int, DpAll K H (ns.map V.int) (ns.map PyData.int)
  | [] => .nil
  | _ :: r => .cons (.int _) (dp_ints r)
theorem cut63 {ns : List Int} (h : ns.length ≤ 63) : cutV (ns.map V.int) none (some 63) = ns.map V.int := by
  unfold cutV
  rw [HT.sIx_none, show HT.sIx (ns.map V.int).length (ns.map V.int).length (some 63) = min 63 (ns.map V.int).length from HT.sIx_nat _ _ 63, List.length_map, Nat.min_eq_right h]
  show ((ns.map V.int).take (ns.length - 0)) = _
  rw [Nat.sub_zero]
  exact List.take_of_length_le (by rw [List.length_map]; exact Nat.le_refl _)
theorem fmod_in {a b : Int} (h : 0 < b) : 0 ≤ a.fmod b ∧ a.fmod b < b := by
  rw [Int.fmod_eq_emod_of_nonneg a (Int.le_of_lt h)]; exact ⟨Int.emod_nonneg a (by omega), Int.emod_lt_of_pos a h⟩
theorem prime_at (t : Int) : ∃ (j : Nat) (p : Int), t.fmod 5 = (j : Int) ∧ ([.int 2147483647, .int 2147483629, .int 2147483587, .int 2147483579, .int 2147483563] : List V)[j]? = some (.int p) ∧ 0 < p ∧ p < 2147483648 := by
  obtain ⟨h1, h2⟩ := fmod_in (a := t) (b := 5) (by decide)
  generalize t.fmod 5 = z at h1 h2
  have : z = 0 ∨ z = 1 ∨ z = 2 ∨ z = 3 ∨ z = 4 := by omega
  rcases this with rfl | rfl | rfl | rfl | rfl
  · exact ⟨0, _, rfl, rfl, by decide, by decide⟩
  · exact ⟨1, _, rfl, rfl, by decide, by decide⟩
  · exact ⟨2, _, rfl, rfl, by decide, by decide⟩
  · exact ⟨3, _, rfl, rfl, by decide, by decide⟩
  · exact ⟨4, _, rfl, rfl, by decide, by decide⟩
/-- what the law's helpers ask of the module's names -/
structure Txt0 (mg : Str → Option Value) : Prop where
  mlen : mg "len" = none
section
variable {P : Program} {w : World} {K : PySem.W.Frag} {mg : Str → Option Value} {base : Heap}
theorem ok_draw {f : Addr} {fd : FuncData} {k : Nat} (F : Fun K "_law_draw" "_law_draw" sDraw f fd) (T : Txt0 mg) : FnOk P w K mg base CX0 (k + 1) f fd ["_law_tape_here", "_law_many"] spDraw := by
  refine F.ok scDraw (fun vs H Q E h => ?_) (fun cdv A outer s H vs Q E hr h => ?_)
  · obtain ⟨T, c, b, n, rfl, _⟩ := h
    rfl
  · obtain ⟨a, c, b, n, rfl, hb0, hb1, hn, hT, q⟩ := h
    obtain ⟨t, r, ns, h1, h2, h3, h4, h5, h6⟩ := hT.ex
    refine ⟨_,
      (pss_cons (ps_if (pt_cmpR op_gt (pe_ix ix_list (pv 0) pe_int (fun _ _ => rfl)) pe_int (nomark _))
      (pss_cons (ps_set (i := 2) scDraw.nd rfl (.inl rfl) (pe_op op_modN (pe_ix ix_list (pv 0) pe_int (fun _ _ => rfl)) (pv 1)))
      (pss_cons (ps_asg (pe_op op_fdivN (pe_ix ix_list (pv 0) pe_int (fun _ _ => rfl)) (pv 1)) (pg_sub (pv 0) pe_int set_list))
      (pss_one (ps_ret (pv 2)))))
      pss_nil)
      (pss_cons (ps_set (i := 3) scDraw.nd rfl (.inl rfl) (pe_ix ix_list (pv 0) pe_int (fun _ _ => rfl)))
      (pss_cut (ps_asg (pe_op op_add (pv 3) pe_int) (pg_sub (pv 0) pe_int set_list))
      (pss_cons (ps_set (i := 4) scDraw.nd rfl (.inl rfl) pe_int)
      (pss_cut (ps_if (pt_cmpR (op_neD hr.units) (pe_ix ix_list (pv 0) pe_int (fun _ _ => rfl)) (pe_lst pa_nil) (nomark _))
      (pss_one (ps_set (i := 4) scDraw.nd rfl (.inl rfl) (pe_ix ix_list (pe_ix ix_list (pv 0) pe_int (fun _ _ => rfl)) (pe_op op_modN (pv 3) (pe_callB call_len_seq (by rfl) T.mlen PySem.boot_len (pa_cons (pe_ix ix_list (pv 0) pe_int (fun _ _ => rfl)) pa_nil))) (fun _ _ => rfl))))
      pss_nil)
      (pss_cut (ps_if (PW.pt (pw_and (pt_cmpR op_ge (pv 4) (pe_op op_pow pe_int pe_int) (nomark _)) (pw_and1 (pt_cmpR op_lt (pv 3) (pe_callB call_len_seq (by rfl) T.mlen PySem.boot_len (pa_cons (pe_ix ix_list (pv 0) pe_int (fun _ _ => rfl)) pa_nil)) (nomark _)))))
      (pss_cons (ps_asg (pe_op op_fdivN (pe_op op_sub (pv 4) (pe_op op_pow pe_int pe_int)) (pv 1)) (pg_sub (pv 0) pe_int set_list))
      (pss_one (ps_ret (pe_op op_modN (pe_op op_sub (pv 4) (pe_op op_pow pe_int pe_int)) (pv 1)))))
      pss_nil)
      (pss_cons (ps_set (i := 5) scDraw.nd rfl (.inl rfl) (pe_lst (pa_cons pe_int (pa_cons pe_int (pa_cons pe_int (pa_cons pe_int (pa_cons pe_int pa_nil)))))))
      (pss_cons (ps_set (i := 6) scDraw.nd rfl (.inl rfl) (pe_ix ix_list (pv 5) (pe_op op_modN (pv 3) pe_int) (fun _ _ => rfl)))
      (pss_cut (ps_set (i := 7) scDraw.nd rfl (.inl rfl) (pe_op op_modN (pe_op op_add (pe_op op_add (pe_op op_add (pe_op op_mul (pe_op op_modN (pv 4) (pv 6)) pe_int) (pe_op op_mul (pe_op op_mul pe_int (pv 3)) (pv 3))) (pe_op op_mul pe_int (pv 3))) pe_int) (pv 6)))
      (pss_cut (ps_set (i := 7) scDraw.nd rfl (.inl rfl) (pe_op op_modN (pe_op op_mul (pv 7) (pe_op op_add (pv 7) pe_int)) (pe_ix ix_list (pv 5) (pe_op op_modN (pe_op op_add (pv 3) pe_int) pe_int) (fun _ _ => rfl))))
      (pss_one (ps_ret (pe_op op_modN (pe_op op_fdivN (pe_op op_modN (pe_op op_mul (pv 7) (pv 7)) pe_int) pe_int) (pv 1))))))))))))))
      , ?_⟩
    -- if tape[2] > 0
    refine ⟨_, rfl, a, _, 2, _, rfl, rfl, SqL.of h1, atI_nat (j := 2) rfl, _, _, rfl, rfl, _, rfl, ite2 (fun _ => ?_) (fun _ => ?_)⟩
    · obtain ⟨e1, e2⟩ := fmod_in (a := r) hb0
      refine ⟨_, rfl, a, _, 2, _, rfl, rfl, SqL.of h1, atI_nat (j := 2) rfl, _, rfl, _, _, rfl, rfl, by omega, ?_⟩
      refine ⟨_, rfl, a, _, 2, _, rfl, rfl, SqL.of h1, atI_nat (j := 2) rfl, _, rfl, _, _, rfl, rfl, ⟨by omega, by omega⟩, ?_⟩
      refine ⟨_, rfl, a, _, 2, 2, rfl, rfl, h1, rfl, ?_⟩
      refine ⟨_, rfl, q _ _ e1 e2 ⟨t, _, ns, upd_same, ?_, h3, h4, by omega, h6⟩ Keep.refl.updT⟩
      rw [upd_ne h3]; exact h2
    · refine ⟨_, rfl, a, _, 1, _, rfl, rfl, SqL.of h1, atI_nat (j := 1) rfl, ?_⟩
      refine ⟨fun σ H2 => σ = [some (.ref a), some (.int b), none, some (.int t), none, none, none, none] ∧ H2 a = some (.lst [.ref c, .int (t + 1), .int r]) ∧ H2 c = some (.lst (ns.map V.int)) ∧ Keep a H H2, ?_, ?_⟩
      · refine ⟨_, rfl, _, _, rfl, rfl, _, rfl, a, _, 1, 1, rfl, rfl, h1, rfl, rfl, upd_same, ?_, Keep.refl.updT⟩
        rw [upd_ne h3]; exact h2
      rintro σ H1 ⟨rfl, g1, g2, k0⟩
      -- if tape[0] != []: the two ways meet at a cell, any one
      refine ⟨fun σ H2 => ∃ cell : Int, σ = [some (.ref a), some (.int b), none, some (.int t), some (.int cell), none, none, none] ∧ H2 a = some (.lst [.ref c, .int (t + 1), .int r]) ∧ H2 c = some (.lst (ns.map V.int)) ∧ Keep a H H2, ?_, ?_⟩
      · refine ⟨_, rfl, a, _, 0, _, rfl, rfl, SqL.of g1, atI_nat (j := 0) rfl, Nat.zero_le _, fun l hl => ?_⟩
        have u1 := upd_at (o := .lst []) hl g1
        have u2 := upd_at (o := .lst []) hl g2
        refine ⟨_, .list [], .lst (SqL.of u2) (dp_ints _), .lst (SqL.of upd_same) .nil, ke_shaped_ints ns, ke_shaped_ints [], _, rfl, ?_⟩
        cases hns : ns with
        | nil => exact iteF ⟨0, rfl, u1, by rw [← hns]; exact u2, k0.new hl⟩
        | cons z zs =>
          refine iteT ?_
          rw [← hns]
          have hpos : 0 < (ns.length : Int) := by rw [hns]; simp
          refine ⟨_, rfl, a, _, 0, _, rfl, rfl, SqL.of u1, atI_nat (j := 0) rfl, _, rfl, _, rfl, a, _, 0, _, rfl, rfl, SqL.of u1, atI_nat (j := 0) rfl, c, _, rfl, .inl (SqL.of u2), _, _, rfl, rfl, ?_, ?_⟩
          · rw [List.length_map]; omega
          · obtain ⟨e1, e2⟩ := fmod_in (a := t) hpos
            obtain ⟨j, hj⟩ := Int.eq_ofNat_of_zero_le e1
            have hj2 : j < ns.length := by omega
            refine ⟨c, _, (j : Int), .int ns[j], rfl, ?_, SqL.of u2, atI_nat ?_, _, rfl, u1, u2, k0.new hl⟩
            · exact congrArg V.int (by rw [List.length_map]; exact hj)
            · rw [List.getElem?_map, List.getElem?_eq_getElem hj2]; rfl
      · rintro σ H2 ⟨cell, rfl, u1, u2, k2⟩
        -- if cell >= 10 ** 18 and turn < len(tape[0])
        have tp : ∀ (r' : Int) (H3 : Hp), H3 a = some (.lst [.ref c, .int (t + 1), .int r']) → H3 c = some (.lst (ns.map V.int)) → Tape H3 a c (n + 1) := fun r' H3 x1 x2 => ⟨t + 1, r', ns, x1, x2, h3, by omega, by omega, h6⟩
        refine ⟨fun σ H3 => σ = [some (.ref a), some (.int b), none, some (.int t), some (.int cell), none, none, none] ∧ H3 = H2, ?_, ?_⟩
        · refine ⟨_, rfl, _, _, rfl, rfl, ⟨by decide, by decide, by decide⟩, _, _, rfl, rfl, _, rfl, ite2 (fun _ => ?_) (fun _ => iteF ⟨rfl, rfl⟩)⟩
          refine ⟨_, rfl, _, rfl, a, _, 0, _, rfl, rfl, SqL.of u1, atI_nat (j := 0) rfl, c, _, rfl, .inl (SqL.of u2), _, _, rfl, rfl, _, rfl, ite2 (fun _ => ?_) (fun _ => ⟨rfl, rfl⟩)⟩
          refine ⟨_, rfl, _, _, rfl, rfl, ⟨by decide, by decide, by decide⟩, _, _, rfl, rfl, _, rfl, _, _, rfl, rfl, ⟨by omega, by omega⟩, _, rfl, a, _, 2, 2, rfl, rfl, u1, rfl, ?_⟩
          refine ⟨_, rfl, _, _, rfl, rfl, ⟨by decide, by decide, by decide⟩, _, _, rfl, rfl, _, rfl, _, _, rfl, rfl, by omega, ?_⟩
          exact q _ _ (fmod_in hb0).1 (fmod_in hb0).2 (tp _ _ upd_same (by rw [upd_ne h3]; exact u2)) k2.updT
        · rintro σ H3 ⟨rfl, rfl⟩
          -- the five primes, the mixing
          refine ⟨by show 5 ≤ sizeLine; decide, fun l hl => ?_⟩
          have w1 := upd_at (o := .lst [.int 2147483647, .int 2147483629, .int 2147483587, .int 2147483579, .int 2147483563]) hl u1
          have w2 := upd_at (o := .lst [.int 2147483647, .int 2147483629, .int 2147483587, .int 2147483579, .int 2147483563]) hl u2
          have w3 := upd_same (H := H3) (a := l) (o := .lst [.int 2147483647, .int 2147483629, .int 2147483587, .int 2147483579, .int 2147483563])
          obtain ⟨j1, p1, ej1, ep1, hp1, hq1⟩ := prime_at t
          obtain ⟨j2, p2, ej2, ep2, hp2, hq2⟩ := prime_at (t + 2)
          refine ⟨_, rfl, _, rfl, _, _, rfl, rfl, (by show (5 : Int) ≠ 0; decide), l, _, (j1 : Int), _, rfl, congrArg V.int ej1, SqL.of w3, atI_nat ep1, ?_⟩
          have late : ∀ {A B : Prop}, A → A := fun h => h
          refine ⟨fun σ H4 => ∃ m1 : Int, 0 ≤ m1 ∧ m1 < p1 ∧ σ = [some (.ref a), some (.int b), none, some (.int t), some (.int cell), some (.ref l), some (.int p1), some (.int m1)] ∧ H4 = upd H3 l (.lst [.int 2147483647, .int 2147483629, .int 2147483587, .int 2147483579, .int 2147483563]), ?_, ?_⟩
          · refine ⟨_, rfl, _, rfl, _, _, rfl, rfl, by omega, _, _, rfl, rfl, .inr ⟨by decide, by decide⟩, _, rfl, _, _, rfl, rfl, .inl ⟨by decide, by decide⟩, _, rfl, _, _, rfl, rfl, .inr ⟨by omega, by omega⟩, _, _, rfl, rfl, _, rfl, _, _, rfl, rfl, .inl ⟨by decide, by decide⟩, _, _, rfl, rfl, _, _, rfl, rfl, _, rfl, _, _, rfl, rfl, by omega, ?_⟩
            exact ⟨_, (fmod_in hp1).1, (fmod_in hp1).2, rfl, rfl⟩
          rintro σ H4 ⟨m1, m10, m11, rfl, rfl⟩
          refine ⟨fun σ H4 => ∃ m2 : Int, 0 ≤ m2 ∧ m2 < p2 ∧ σ = [some (.ref a), some (.int b), none, some (.int t), some (.int cell), some (.ref l), some (.int p1), some (.int m2)] ∧ H4 = upd H3 l (.lst [.int 2147483647, .int 2147483629, .int 2147483587, .int 2147483579, .int 2147483563]), ?_, ?_⟩
          · refine ⟨_, rfl, _, rfl, _, _, rfl, rfl, _, _, rfl, rfl, .inl ⟨by omega, by omega⟩, _, rfl, _, rfl, _, _, rfl, rfl, _, _, rfl, rfl, (by show (5 : Int) ≠ 0; decide), l, _, (j2 : Int), _, rfl, congrArg V.int ej2, SqL.of w3, atI_nat ep2, _, _, rfl, rfl, by omega, ?_⟩
            exact ⟨_, (fmod_in hp2).1, (fmod_in hp2).2, rfl, rfl⟩
          rintro σ H4 ⟨m2, m20, m21, rfl, rfl⟩
          refine ⟨_, rfl, _, rfl, _, _, rfl, rfl, .inl ⟨by omega, by omega⟩, _, _, rfl, rfl, (by show (2147483549 : Int) ≠ 0; decide), _, _, rfl, rfl, ⟨by decide, by decide⟩, _, rfl, _, _, rfl, rfl, by omega, ?_⟩
          exact q _ _ (fmod_in hb0).1 (fmod_in hb0).2 (tp _ _ w1 w2) (k2.new hl)
/-- an item of a list by a draw -/
theorem ok_pick {f fD : Addr} {fd fdD : FuncData} {k : Nat} (F : Fun K "_law_pick" "_law_pick" sPick f fd) (T : Txt0 mg) (F_law_draw : Fun K "_law_draw" "_law_draw" sDraw fD fdD) (g_law_draw : mg "_law_draw" = some (.ref fD)) (b_law_draw : Binds K fdD ["_law_tape_here", "_law_many"] []) :
    FnOk P w K mg base CX0 (k + 2) f fd ["_law_tape_here", "_law_some"] spPick := by
  have G_law_draw : FnOk P w K mg base CX0 (k + 1) fD fdD ["_law_tape_here", "_law_many"] spDraw := ok_draw F_law_draw T
  refine F.ok scPick (fun vs H Q E h => ?_) (fun cdv A outer s H vs Q E hr h => ?_)
  · obtain ⟨T, c, p, xs, n, rfl, _⟩ := h
    rfl
  · obtain ⟨a, c, p, xs, n, rfl, hS, hpa, hx0, hx1, hn, hT, q⟩ := h
    have hr_law_draw := hr
    refine ⟨_,
      (pss_one (ps_ret (pe_ix ix_list (pv 1) (pe_call G_law_draw hr_law_draw (by rfl) g_law_draw F_law_draw.kp b_law_draw .nil pass0 (pa_cons (pv 0) (pa_cons (pe_callB call_len_seq (by rfl) T.mlen PySem.boot_len (pa_cons (pv 1) pa_nil)) pa_nil))) (fun _ _ => rfl))))
      , ?_⟩
    refine ⟨_, rfl, _, rfl, _, rfl, p, xs, rfl, .inl (SqL.of hS), a, c, xs.length, n, rfl, by omega, by omega, hn, hT, fun d H' d0 d1 T' k' => ?_⟩
    obtain ⟨j, rfl⟩ := Int.eq_ofNat_of_zero_le d0
    have hj : j < xs.length := by omega
    exact ⟨p, xs, (j : Int), xs[j], rfl, rfl, SqL.of (k' p _ hpa hS), atI_nat (List.getElem?_eq_getElem hj), q j _ _ (List.getElem?_eq_getElem hj) T' k'⟩
/-- the tape's making: the cells in a list of their own -/
theorem ok_tape {f : Addr} {fd : FuncData} {k : Nat} (F : Fun K "_law_tape" "_law_tape" sTape f fd) (T : Txt0 mg) : FnOk P w K mg base CX0 (k + 1) f fd ["_law_script"] (spTape K) := by
  refine F.ok scTape (fun vs H Q E h => ?_) (fun cdv A outer s H vs Q E hr h => ?_)
  · obtain ⟨a, ns, rfl, _⟩ := h
    rfl
  · obtain ⟨a, ns, rfl, hS, hlen, q⟩ := h
    refine ⟨_,
      (pss_one (ps_ret (pe_lst (pa_cons (pe_slice sl_list (pv 0) po_none (po_some pe_int)) (pa_cons pe_int (pa_cons pe_int pa_nil))))))
      , ?_⟩
    refine ⟨_, rfl, _, rfl, a, _, rfl, hS, fun p hp => ?_⟩
    refine ⟨by show 3 ≤ sizeLine; decide, fun l hl => ?_⟩
    have nlp : p ≠ l := fun e => by rw [e, upd_same] at hl; cases hl
    have hl0 : H l = none := by rw [upd_ne nlp.symm] at hl; exact hl
    refine q l p _ hl0 hp (fun b o e => upd_at hl (upd_at hp e)) ⟨0, 0, ns, upd_same, ?_, nlp, by omega, by omega, hlen⟩
    rw [upd_ne nlp, upd_same, cut63 hlen]
end
/-! ### heaps that grow -/
theorem Tape.same {H H' : Hp} {T c : Addr} {n : Nat} (h : Tape H T c n) (s : Same H H') : Tape H' T c n := by
  obtain ⟨t, r, ns, h1, h2, h3, h4, h5, h6⟩ := h.ex
  exact ⟨t, r, ns, s _ _ h1, s _ _ h2, h3, h4, h5, h6⟩
theorem Keep.same {T : Addr} {H H1 H2 : Hp} (a : Keep T H H1) (b : Same H1 H2) : Keep T H H2 := fun x o n e => b x o (a x o n e)
theorem same_upd {H : Hp} {p : Addr} {o : HO} (h : H p = none) : Same H (upd H p o) := fun b x e => by
  rw [upd_ne (ne_of_none e h)]; exact e
theorem same_refl {H : Hp} : Same H H := fun _ _ e => e
theorem small_line {n : Nat} (h : n ≤ 100) : n ≤ sizeLine := Nat.le_trans h (by decide)
/-! ### data over heaps that change -/
mutual
/-- data without lists -/
def noL : PyData → Bool
  | .list _ => false
  | .tuple ds => noLs ds
  | .dict _ => false
  | _ => true
def noLs : List PyData → Bool
  | [] => true
  | d :: ds => noL d && noLs ds
end
theorem sqT_same {K : PySem.W.Frag} {H H' : Hp} {a : Addr} {xs : List V} (h : SqT K H a xs) (s : Same H H') : SqT K H' a xs := by
  rcases h with (h | ⟨o, h⟩) | h
  · exact .inl (.inl (s _ _ h))
  · exact .inl (.inr ⟨o, s _ _ h⟩)
  · exact .inr h
theorem sqL_same {K : PySem.W.Frag} {H H' : Hp} {a : Addr} {xs : List V} (h : SqL K H a xs) (s : Same H H') : SqL K H' a xs := by
  rcases h with (h | ⟨o, h⟩) | h
  · exact .inl (.inl (s _ _ h))
  · exact .inl (.inr ⟨o, s _ _ h⟩)
  · exact .inr h
theorem sqT_keep {K : PySem.W.Frag} {T : Addr} {H H' : Hp} {ys : List V} {a : Addr} {xs : List V} (hT : H T = some (.lst ys)) (h : SqT K H a xs) (s : Keep T H H') : SqT K H' a xs := by
  rcases h with (h | ⟨o, h⟩) | h
  · exact .inl (.inl (s _ _ (ne_of h hT (by intro z; cases z)) h))
  · exact .inl (.inr ⟨o, s _ _ (ne_of h hT (by intro z; cases z)) h⟩)
  · exact .inr h
mutual
theorem dp_same {K : PySem.W.Frag} {H H' : Hp} (s : Same H H') : ∀ (d : PyData) (v : V), Dp K H v d → Dp K H' v d
  | .none, _, h => by cases h; exact .non
  | .bool b, _, h => by cases h; exact .bl b
  | .int i, _, h => by cases h; exact .int i
  | .str x, _, h => by cases h; exact .str x
  | .list ds, _, h => by cases h with | lst a b => exact .lst (sqL_same a s) (dps_same s ds _ b)
  | .tuple ds, _, h => by cases h with | tup a b => exact .tup (sqT_same a s) (dps_same s ds _ b)
  | .dict _, _, h => by cases h
theorem dps_same {K : PySem.W.Frag} {H H' : Hp} (s : Same H H') : ∀ (ds : List PyData) (vs : List V), DpAll K H vs ds → DpAll K H' vs ds
  | [], _, h => by cases h; exact .nil
  | d :: ds, _, h => by cases h with | cons a b => exact .cons (dp_same s d _ a) (dps_same s ds _ b)
end
mutual
theorem dp_tups {K : PySem.W.Frag} {H H' : Hp} (s : ∀ a xs, SqT K H a xs → SqT K H' a xs) : ∀ (d : PyData) (v : V), noL d = true → Dp K H v d → Dp K H' v d
  | .none, _, _, h => by cases h; exact .non
  | .bool b, _, _, h => by cases h; exact .bl b
  | .int i, _, _, h => by cases h; exact .int i
  | .str x, _, _, h => by cases h; exact .str x
  | .list ds, _, n, h => by simp [noL] at n
  | .tuple ds, _, n, h => by cases h with | tup a b => exact .tup (s _ _ a) (dps_tups s ds _ (by simpa [noL] using n) b)
  | .dict _, _, _, h => by cases h
theorem dps_tups {K : PySem.W.Frag} {H H' : Hp} (s : ∀ a xs, SqT K H a xs → SqT K H' a xs) : ∀ (ds : List PyData) (vs : List V), noLs ds = true → DpAll K H vs ds → DpAll K H' vs ds
  | [], _, _, h => by cases h; exact .nil
  | d :: ds, _, n, h => by
    have n' : noL d = true ∧ noLs ds = true := by simpa [noLs] using n
    cases h with | cons a b => exact .cons (dp_tups s d _ n'.1 a) (dps_tups s ds _ n'.2 b)
end
theorem dps_keep {K : PySem.W.Frag} {T : Addr} {H H' : Hp} {ys : List V} {ds : List PyData} {vs : List V} (h : DpAll K H vs ds) (hT : H T = some (.lst ys)) (s : Keep T H H') (n : noLs ds = true) : DpAll K H' vs ds := dps_tups (fun _ _ z => sqT_keep hT z s) ds vs n h
theorem dp_keep {K : PySem.W.Frag} {T : Addr} {H H' : Hp} {ys : List V} {d : PyData} {v : V} (h : Dp K H v d) (hT : H T = some (.lst ys)) (s : Keep T H H') (n : noL d = true) : Dp K H' v d := dp_tups (fun _ _ z => sqT_keep hT z s) d v n h
theorem dps_len {K : PySem.W.Frag} {H : Hp} : ∀ {vs : List V} {ds : List PyData}, DpAll K H vs ds → vs.length = ds.length
  | _, _, .nil => rfl
  | _, _, .cons _ r => congrArg (· + 1) (dps_len r)
theorem dps_at {K : PySem.W.Frag} {H : Hp} : ∀ {vs : List V} {ds : List PyData} {i : Nat} {x : V}, DpAll K H vs ds → vs[i]? = some x → ∃ d, ds[i]? = some d ∧ Dp K H x d
  | _, _, _, _, .nil, e => by cases e
  | _, _, 0, _, .cons h _, e => by cases e; exact ⟨_, rfl, h⟩
  | _, _, i + 1, _, .cons _ r, e => dps_at (i := i) r e
theorem dps_app {K : PySem.W.Frag} {H : Hp} : ∀ {vs ws : List V} {ds es : List PyData}, DpAll K H vs ds → DpAll K H ws es → DpAll K H (vs ++ ws) (ds ++ es)
  | _, _, _, _, .nil, h => h
  | _, _, _, _, .cons a r, h => .cons a (dps_app r h)
theorem dp_tup {K : PySem.W.Frag} {H : Hp} {v : V} {ds : List PyData} (h : Dp K H v (.tuple ds)) : ∃ a xs, v = .ref a ∧ SqT K H a xs ∧ DpAll K H xs ds := by cases h with | tup a b => exact ⟨_, _, rfl, a, b⟩
theorem dp_lst {K : PySem.W.Frag} {H : Hp} {v : V} {ds : List PyData} (h : Dp K H v (.list ds)) : ∃ a xs, v = .ref a ∧ SqL K H a xs ∧ DpAll K H xs ds := by cases h with | lst a b => exact ⟨_, _, rfl, a, b⟩
theorem noLs_map {α : Type} (f : α → PyData) (h : ∀ x, noL (f x) = true) : ∀ l : List α, noLs (l.map f) = true
  | [] => rfl
  | x :: l => by rw [List.map_cons, noLs, h x, noLs_map f h l]; rfl
/-! ### Boats -/
theorem nb : ¬ (("name" : Str) = "bears") := by decide +kernel
def boatF (n : Str) (b : Int) : List (Str × V) := putF "bears" (.int b) (putF "name" (.str n) [])
theorem boatF_name (n : Str) (b : Int) : (boatF n b).lookup ("name" : Str) = some (.str n) := by
  unfold boatF
  rw [lookup_putF, if_neg nb, lookup_putF, if_pos rfl]
theorem boatF_bears (n : Str) (b : Int) : (boatF n b).lookup ("bears" : Str) = some (.int b) := by
  unfold boatF
  rw [lookup_putF, if_pos rfl]
def BoatAt (C : Addr) (H : Hp) (p : Addr) (n : Str) (b : Int) : Prop := ∃ dx, H p = some (.ins C dx (boatF n b))
structure BCl (K : PySem.W.Frag) (mg : Str → Option Value) (C : Addr) : Prop where
  cl : Cls K C
  nN : NoAttr K C "name"
  nB : NoAttr K C "bears"
  gC : mg "Boat" = some (.ref C)
  ha : PySem.W.findIn K (.ref C) "__class__" = some (some (.builtin "object.__class__"))
  hn : PySem.W.specialIn K (.builtin "object.__class__") "__get__" = some (some (.builtin "getset_descriptor.__get__"))
  htk : PySem.W.takesIn K (.builtin "object.__class__") = some true
  hm : PySem.W.mroIn K C (.type "object") = some true
theorem isBoat {K : PySem.W.Frag} {mg : Str → Option Value} {C : Addr} (T : BCl K mg C) {H : Hp} {p : Addr} {n : Str} {b : Int} (h : BoatAt C H p n b) : TyX K H (.ref p) (.ref C) := by
  obtain ⟨dx, e⟩ := h
  exact .base (.ins e T.cl T.ha T.hn T.htk T.hm)
theorem kitC {K : PySem.W.Frag} {C : Addr} : PySem.W.kitOne K (.ref C) (.ref C) = some true := if_pos (beq_self_eq_true _)
theorem made_same {H H' : Hp} {x dx : Addr} {o1 o2 : HO} (hx : H x = none) (hdx : H dx = none) (k : ∀ y o, y ≠ x → (upd (upd H dx o1) x o2) y = some o → H' y = some o) : Same H H' := fun y o e =>
  k y o (ne_of_none e hx) (by rw [upd_ne (ne_of_none e hx), upd_ne (ne_of_none e hdx)]; exact e)
/-- a list of Boats, by names and bearings -/
inductive Boats (C : Addr) (H : Hp) : List V → List (Str × Int) → Prop
  | nil : Boats C H [] []
  | cons {a : Addr} {r : Str × Int} {xs : List V} {rs : List (Str × Int)} : BoatAt C H a r.1 r.2 → Boats C H xs rs → Boats C H (.ref a :: xs) (r :: rs)
theorem Boats.len {C : Addr} {H : Hp} {xs : List V} {rs : List (Str × Int)} (h : Boats C H xs rs) : xs.length = rs.length := by
  induction h with
  | nil => rfl
  | cons _ _ ih => rw [List.length_cons, List.length_cons, ih]
theorem Boats.at {C : Addr} {H : Hp} {xs : List V} {rs : List (Str × Int)} (h : Boats C H xs rs) : ∀ {i : Nat} {y : V}, xs[i]? = some y → ∃ a r, y = .ref a ∧ rs[i]? = some r ∧ BoatAt C H a r.1 r.2 := by
  induction h with
  | nil => intro i y e; cases e
  | cons e _ ih =>
    intro i y z
    cases i with
    | zero => cases z; exact ⟨_, _, rfl, rfl, e⟩
    | succ i => exact ih z
theorem Boats.mono {C : Addr} {H H' : Hp} {xs : List V} {rs : List (Str × Int)} (h : Boats C H xs rs) (s : ∀ a dx n b, H a = some (.ins C dx (boatF n b)) → H' a = some (.ins C dx (boatF n b))) : Boats C H' xs rs := by
  induction h with
  | nil => exact .nil
  | cons e _ ih =>
    obtain ⟨dx, e⟩ := e
    exact .cons ⟨dx, s _ _ _ _ e⟩ ih
theorem Boats.same {C : Addr} {H H' : Hp} {xs : List V} {rs : List (Str × Int)} (h : Boats C H xs rs) (s : Same H H') : Boats C H' xs rs := h.mono fun a dx n b e => s _ _ e
theorem Boats.app {C : Addr} {H : Hp} {xs ys : List V} {rs ss : List (Str × Int)} (h : Boats C H xs rs) (h2 : Boats C H ys ss) : Boats C H (xs ++ ys) (rs ++ ss) := by
  induction h with
  | nil => exact h2
  | cons e _ ih => exact .cons e ih
/-! ### Bridges -/
def brF (bl sl : Addr) : List (Str × V) := putF "_spans" (.ref sl) (putF "_boats" (.ref bl) [])
theorem brF_boats (bl sl : Addr) : (brF bl sl).lookup ("_boats" : Str) = some (.ref bl) := by
  unfold brF; repeat (rw [lookup_putF]; first | rw [if_pos rfl] | rw [if_neg (by decide +kernel)])
theorem brF_spans (bl sl : Addr) : (brF bl sl).lookup ("_spans" : Str) = some (.ref sl) := by
  unfold brF; repeat (rw [lookup_putF]; first | rw [if_pos rfl] | rw [if_neg (by decide +kernel)])
theorem brF_no (bl sl : Addr) {x : Str} (h1 : ¬ x = "_boats") (h2 : ¬ x = "_spans") : (brF bl sl).lookup x = none := by
  unfold brF
  rw [lookup_putF, if_neg h2, lookup_putF, if_neg h1]
  rfl
theorem brF_mboats (bl sl : Addr) : (brF bl sl).lookup ("boats" : Str) = none := brF_no bl sl (by decide +kernel) (by decide +kernel)
theorem brF_mspans (bl sl : Addr) : (brF bl sl).lookup ("spans" : Str) = none := brF_no bl sl (by decide +kernel) (by decide +kernel)
/-- a Bridge of these boats and spans stands at p -/
structure BrAt (C CB : Addr) (H : Hp) (p bl sl : Addr) (rows : List (Str × Int)) (spans : List Int) : Prop where
  ex : ∃ dx bs, H p = some (.ins CB dx (brF bl sl)) ∧ H bl = some (.lst bs) ∧ Boats C H bs rows
  sp : H sl = some (.lst (spans.map V.int))
theorem BrAt.same {C CB : Addr} {H H' : Hp} {p bl sl : Addr} {rows : List (Str × Int)} {spans : List Int} (h : BrAt C CB H p bl sl rows spans) (s : Same H H') : BrAt C CB H' p bl sl rows spans := by
  obtain ⟨dx, bs, e1, e2, e3⟩ := h.ex
  exact ⟨⟨dx, bs, s _ _ e1, s _ _ e2, e3.same s⟩, s _ _ h.sp⟩
theorem BrAt.keep {C CB T : Addr} {H H' : Hp} {p bl sl : Addr} {rows : List (Str × Int)} {spans : List Int} {xs : List V} (h : BrAt C CB H p bl sl rows spans) (hT : H T = some (.lst xs)) (k : Keep T H H') (n1 : bl ≠ T) (n2 : sl ≠ T) : BrAt C CB H' p bl sl rows spans := by
  obtain ⟨dx, bs, e1, e2, e3⟩ := h.ex
  exact ⟨⟨dx, bs, k _ _ (ne_of e1 hT (by intro z; cases z)) e1, k _ _ n1 e2, e3.mono fun a dx n b e => k _ _ (ne_of e hT (by intro z; cases z)) e⟩, k _ _ n2 h.sp⟩
structure BrCl (K : PySem.W.Frag) (mg : Str → Option Value) (CB : Addr) : Prop where
  cl : Cls K CB
  nB : NoAttr K CB "_boats"
  nS : NoAttr K CB "_spans"
  gC : mg "Bridge" = some (.ref CB)
/-- boats and spans that make a Bridge -/
structure Good (rows : List (Str × Int)) (spans : List Int) : Prop where
  l0 : 1 ≤ rows.length
  l1 : rows.length ≤ 10
  nd : (rows.map Prod.fst).Nodup
  sl : spans.length = rows.length + 1
  sb : ∀ z ∈ spans, 1 ≤ z ∧ z ≤ 1000000
structure TxtB (mg : Str → Option Value) : Prop where
  misinstance : mg "isinstance" = none
  mlen : mg "len" = none
  mall : mg "all" = none
  mlist : mg "list" = none
  mint : mg "int" = none
  mbool : mg "bool" = none
  mMB : ∃ t, mg "MOST_BOATS" = some (.int 10 t)
  mMO : ∃ t, mg "MOST_BORNE" = some (.int 1000000 t)
def spBInit (C : Addr) : Sp := fun vs H Q _ => ∃ (p dx : Addr) (n : Str) (b : Int), vs = [.ref p, .str n, .int b] ∧ H p = some (.ins C dx []) ∧ ∀ H', BoatAt C H' p n b → (∀ x o, x ≠ p → H x = some o → H' x = some o) → Q .non H'
/-- a number within, a truth, or another thing -/
def spIsW (K : PySem.W.Frag) : Sp := fun vs H Q _ => ∃ (v : V) (lo hi : Int), vs = [v, .int lo, .int hi] ∧ ((∃ i, v = .int i ∧ Q (.bl (decide (lo ≤ i) && decide (i ≤ hi))) H) ∨ (∃ b, v = .bl b ∧ Q (.bl false) H) ∨ ∃ t, TyX K H v t ∧ PySem.W.kitOne K t (.type "int") = some false ∧ Q (.bl false) H)
def spAreB (C : Addr) : Sp := fun vs H Q _ => ∃ (l : Addr) (bs : List V) (rows : List (Str × Int)), vs = [.ref l] ∧ H l = some (.lst bs) ∧ Boats C H bs rows ∧ 1 ≤ rows.length ∧ rows.length ≤ 10 ∧ ∀ H', Same H H' → Q (.bl (decide (rows.map Prod.fst).Nodup)) H'
def spAreS : Sp := fun vs H Q _ => ∃ (l : Addr) (ns : List Int), vs = [.ref l] ∧ H l = some (.lst (ns.map V.int)) ∧ ns.length ≤ 1000 ∧ ∀ H', Same H H' → Q (.bl (ns.all fun z => decide (1 ≤ z) && decide (z ≤ 1000000))) H'
def spBrInit (C CB : Addr) : Sp := fun vs H Q _ => ∃ (p dx l s : Addr) (bs : List V) (rows : List (Str × Int)) (spans : List Int), vs = [.ref p, .ref l, .ref s] ∧ H p = some (.ins CB dx []) ∧ H l = some (.lst bs) ∧ Boats C H bs rows ∧ H s = some (.lst (spans.map V.int)) ∧ Good rows spans ∧
  ∀ bl sl H', H bl = none → H sl = none → BrAt C CB H' p bl sl rows spans → (∀ x o, x ≠ p → H x = some o → H' x = some o) → Q .non H'
def spBrBoats (C CB : Addr) : Sp := fun vs H Q _ => ∃ (p bl sl : Addr) (rows : List (Str × Int)) (spans : List Int), vs = [.ref p] ∧ BrAt C CB H p bl sl rows spans ∧ ∀ l bs H', Same H H' → H l = none → H' l = some (.lst bs) → Boats C H' bs rows → Q (.ref l) H'
def spBrSpans (C CB : Addr) : Sp := fun vs H Q _ => ∃ (p bl sl : Addr) (rows : List (Str × Int)) (spans : List Int), vs = [.ref p] ∧ BrAt C CB H p bl sl rows spans ∧ ∀ l H', Same H H' → H l = none → H' l = some (.lst (spans.map V.int)) → Q (.ref l) H'
def spBrLen (C CB : Addr) : Sp := fun vs H Q _ => ∃ (p bl sl : Addr) (rows : List (Str × Int)) (spans : List Int), vs = [.ref p] ∧ BrAt C CB H p bl sl rows spans ∧ Q (.int (rows.length : Nat)) H
section
variable {P : Program} {w : World} {K : PySem.W.Frag} {mg : Str → Option Value} {base : Heap} {C CB : Addr}
theorem ok_binit {f : Addr} {fd : FuncData} {k : Nat} (F : Fun K "__init__" "Boat.__init__" sBInit f fd) (T : BCl K mg C) : FnOk P w K mg base CX0 (k + 1) f fd ["self", "name", "bears"] (spBInit C) := by
  refine F.ok scBInit (fun vs H Q E h => ?_) (fun cdv A outer s H vs Q E hr h => ?_)
  · obtain ⟨p, dx, a, b, rfl, _⟩ := h
    rfl
  · obtain ⟨p, dx, n, b, rfl, hp, q⟩ := h
    refine ⟨_,
      (pss_cons (ps_fld (pv 0) (pv 1) rfl)
      (pss_one (ps_fld (pv 0) (pv 2) rfl)))
      , ?_⟩
    refine ⟨_, rfl, _, rfl, p, C, dx, _, rfl, hp, T.cl, T.nN, (by show 0 < 1000; decide), ?_⟩
    refine ⟨_, rfl, _, rfl, p, C, dx, _, rfl, upd_same, T.cl, T.nB, (by show 1 < 1000; decide), ?_⟩
    exact q _ ⟨dx, upd_same⟩ fun x o n e => by rw [upd_ne n, upd_ne n]; exact e
theorem ok_isw {f : Addr} {fd : FuncData} {k : Nat} (F : Fun K "is_whole" "is_whole" sIsW f fd) (T : TxtB mg) : FnOk P w K mg base CX0 (k + 1) f fd ["thing", "least", "most"] (spIsW K) := by
  refine F.ok scIsW (fun vs H Q E h => ?_) (fun cdv A outer s H vs Q E hr h => ?_)
  · obtain ⟨v, lo, hi, rfl, _⟩ := h
    rfl
  · obtain ⟨v, lo, hi, rfl, h⟩ := h
    refine ⟨_,
      (pss_one (ps_ret (pe_and (pe_callB call_isi (by rfl) T.misinstance (by decide +kernel) (pa_cons (pv 0) (pa_cons (pe_bltn (v := .ty "int") (u := .type "int") (by rfl) T.mint (by decide +kernel) rfl) pa_nil))) (pe_and (pe_not (pe_callB call_isi (by rfl) T.misinstance (by decide +kernel) (pa_cons (pv 0) (pa_cons (pe_bltn (v := .ty "bool") (u := .type "bool") (by rfl) T.mbool (by decide +kernel) rfl) pa_nil)))) (pe_one (pe_chain op_le op_le (pv 1) (pv 0) (pv 2)))))))
      , ?_⟩
    rcases h with ⟨i, rfl, q⟩ | ⟨b, rfl, q⟩ | ⟨t, ty, hk, q⟩
    · refine ⟨_, rfl, _, _, _, _, true, rfl, .ty "int", .base (.int _), kit_ty (by decide +kernel), _, rfl, ?_⟩
      refine ⟨_, rfl, _, _, _, _, false, rfl, .ty "bool", .base (.int _), kit_ty (by decide +kernel), _, rfl, _, rfl, ?_⟩
      refine ⟨_, rfl, _, rfl, _, _, rfl, rfl, _, rfl, ite2 (fun c => ?_) (fun c => ?_)⟩
      · refine ⟨_, rfl, _, _, rfl, rfl, ?_⟩
        rw [c, Bool.true_and] at q
        exact q
      · rw [show decide (lo ≤ i) = false from Bool.eq_false_iff.mpr c, Bool.false_and] at q
        exact q
    · refine ⟨_, rfl, _, _, _, _, true, rfl, .ty "int", .base (.bl _), kit_ty (by decide +kernel), _, rfl, ?_⟩
      exact ⟨_, rfl, _, _, _, _, true, rfl, .ty "bool", .base (.bl _), kit_ty (by decide +kernel), _, rfl, _, rfl, q⟩
    · exact ⟨_, rfl, _, _, _, _, false, rfl, .ty "int", ty, hk, _, rfl, q⟩
theorem ok_areb {f : Addr} {fd : FuncData} {k : Nat} (F : Fun K "_are_boats" "_are_boats" sAreB f fd) (T : TxtB mg) (TB : BCl K mg C) : FnOk P w K mg base CX0 (k + 1) f fd ["thing"] (spAreB C) := by
  refine F.ok scAreB (fun vs H Q E h => ?_) (fun cdv A outer s H vs Q E hr h => ?_)
  · obtain ⟨l, bs, rows, rfl, _⟩ := h
    rfl
  · obtain ⟨l, bs, rows, rfl, hl, hb, l0, l1, q⟩ := h
    obtain ⟨t1, mMOST_BOATS⟩ := T.mMB
    have gC := TB.gC
    have hbl := hb.len
    refine ⟨_,
      (pss_cons (ps_if (PW.pt (pw_or (pt_not (pt_val (pe_callB call_isi (by rfl) T.misinstance (by decide +kernel) (pa_cons (pv 0) (pa_cons (pe_bltn (v := .ty "list") (u := .type "list") (by rfl) T.mlist (by decide +kernel) rfl) pa_nil))))) (pw_or1 (pt_not (pt_chain op_le op_le pe_int (pe_callB call_len_seq (by rfl) T.mlen PySem.boot_len (pa_cons (pv 0) pa_nil)) (pe_glob (v := .int 10) (by rfl) mMOST_BOATS ⟨_, rfl⟩))))))
      (pss_one (ps_ret pe_bl))
      pss_nil)
      (pss_cons (ps_if (pt_not (pt_val (pe_callB (cr_all rfl) (by rfl) T.mall (by decide +kernel) (pa_cons (pe_lc (own := [("boat", 2)]) (g := gName 2) (tt := tYes) rfl scAreB.nd (pi_list (pv 0)) (blkOk_by (N := NAreB) (own := [("boat", 2)]) (sc := defScope sAreB) (by decide +kernel)) (fun _ _ _ _ _ => pg_name (i := 2) scAreB.nd rfl (Or.inl rfl)) (fun _ _ _ _ _ => pts_nil) (fun _ _ _ _ _ => (pe_callB (r := rIsi K) call_isi (by rfl) T.misinstance (by decide +kernel) (pa_cons (pv 2) (pa_cons (pe_glob (v := .ref C) (by rfl) gC rfl) pa_nil))))) pa_nil))))
      (pss_one (ps_ret pe_bl))
      pss_nil)
      (pss_cut (ps_set (i := 1) scAreB.nd rfl (.inr rfl) (pe_lc (own := [("boat", 2)]) (g := gName 2) (tt := tYes) rfl scAreB.nd (pi_list (pv 0)) (blkOk_by (N := NAreB) (own := [("boat", 2)]) (sc := defScope sAreB) (by decide +kernel)) (fun _ _ _ _ _ => pg_name (i := 2) scAreB.nd rfl (Or.inl rfl)) (fun _ _ _ _ _ => pts_nil) (fun _ _ _ _ _ => (show PE _ _ (tFld K (tVar 2) "name") from pe_fld (pv 2) rfl))))
      (pss_one (ps_ret (pe_callB (cr_all rfl) (by rfl) T.mall (by decide +kernel) (pa_cons (pe_lc (own := [("name", 3)]) (g := gName 3) (tt := tYes) rfl scAreB.nd (pi_list (pv 1)) (blkOk_by (N := NAreB) (own := [("name", 3)]) (sc := defScope sAreB) (by decide +kernel)) (fun _ _ _ _ _ => pg_name (i := 3) scAreB.nd rfl (Or.inl rfl)) (fun _ _ _ _ _ => pts_nil) (fun _ _ _ _ _ => (pe_cmpR op_eq (show PE _ _ (tBM K "list" rCntTx (tVar 1) (tCons (tVar 3) tNil)) from pe_bm PySem.F.plainAttrs_list PySem.F.slot_list_count PySem.F.type_list_count mt_countTx (pv 1) (pa_cons (pv 3) pa_nil)) pe_int (nomark _)))) pa_nil)))))))
      , ?_⟩
    refine ⟨_, rfl, _, _, _, _, true, rfl, .ty "list", .base (.lst hl), kit_ty (by decide +kernel), _, rfl, iteF ?_⟩
    refine ⟨_, rfl, l, _, rfl, .inl (SqL.of hl), _, _, rfl, rfl, _, rfl, ite2 (fun _ => ?_) (fun c => absurd (decide_eq_true (show (1 : Int) ≤ bs.length by omega)) c)⟩
    refine ⟨_, _, rfl, rfl, _, rfl, ite2 (fun c => absurd c (by rw [decide_eq_true (show (bs.length : Int) ≤ 10 by omega)]; intro z; cases z)) (fun _ => ?_)⟩
    -- all are Boats
    refine ⟨_, rfl, l, rfl, ⟨_, SqL.of hl⟩, fun D hD => ?_⟩
    refine lc_list (K := K) (a := l) (xs := bs) (fun i H' => H' D = some (.lst ((List.replicate i true).map V.bl)) ∧ Same H H')
      ⟨upd_same, same_upd hD⟩ (fun i H' _ ⟨_, z⟩ => SqL.of (z _ _ hl)) ?_ ?_
    · rintro i y H' hy ⟨eD, si⟩
      obtain ⟨a, r, rfl, hr2, ha⟩ := hb.at hy
      have hi : i < bs.length := (List.getElem?_eq_some_iff.mp hy).1
      obtain ⟨dx, ea⟩ := ha
      refine ⟨rfl, _, rfl, _, _, _, _, true, rfl, .own C, isBoat TB ⟨dx, si _ _ ea⟩, kitC, _, eD, ?_, ?_, fun z o e => by rw [upd_ne (ne_of_none e hD)]; exact si _ _ e⟩
      · rw [List.length_map, List.length_replicate]; exact Nat.lt_of_lt_of_le (show i < 100 by omega) (small_line (by decide))
      · rw [upd_same, List.replicate_succ', List.map_append]; rfl
    rintro H1 ⟨eD, s1⟩
    refine ⟨D, _, rfl, SqL.of eD, _, rfl, ?_⟩
    rw [show (List.replicate bs.length true).all id = true by simp]
    refine iteF ?_
    -- names
    refine ⟨fun σ H2 => ∃ (np : Addr), σ = [some (.ref l), some (.ref np), none, none] ∧ H2 np = some (.lst ((rows.map Prod.fst).map V.str)) ∧ Same H H2, ?_, ?_⟩
    · refine ⟨_, rfl, l, rfl, ⟨_, SqL.of (s1 _ _ hl)⟩, fun D2 hD2 => ?_⟩
      refine lc_list (K := K) (a := l) (xs := bs) (fun i H' => H' D2 = some (.lst (((rows.take i).map Prod.fst).map V.str)) ∧ Same H1 H')
        ⟨upd_same, same_upd hD2⟩ (fun i H' _ ⟨_, z⟩ => SqL.of (z _ _ (s1 _ _ hl))) ?_ ?_
      · rintro i y H' hy ⟨eD2, si⟩
        obtain ⟨a, r, rfl, hr2, ⟨dx, ea⟩⟩ := hb.at hy
        have hi : i < bs.length := (List.getElem?_eq_some_iff.mp hy).1
        refine ⟨rfl, _, rfl, a, C, dx, _, _, rfl, si _ _ (s1 _ _ ea), TB.cl, TB.nN, boatF_name _ _, _, eD2, ?_, ?_, fun z o e => by rw [upd_ne (ne_of_none e hD2)]; exact si _ _ e⟩
        · rw [List.length_map, List.length_map, List.length_take]; exact Nat.lt_of_lt_of_le (show _ < 100 by omega) (small_line (by decide))
        · rw [upd_same, List.take_succ, hr2]; simp
      · rintro H' ⟨eD2, si⟩
        rw [hbl, List.take_length] at eD2
        exact ⟨D2, rfl, eD2, s1.trans si⟩
    rintro σ H2 ⟨np, rfl, en, s2⟩
    have lnm : (rows.map Prod.fst).length = rows.length := List.length_map ..
    refine ⟨_, rfl, np, rfl, ⟨_, SqL.of en⟩, fun D3 hD3 => ?_⟩
    refine lc_list (K := K) (a := np) (xs := (rows.map Prod.fst).map V.str) (fun i H' => H' D3 = some (.lst ((((rows.map Prod.fst).take i).map fun z => decide ((((rows.map Prod.fst).count z : Nat) : Int) = 1)).map V.bl)) ∧ Same H2 H')
      ⟨upd_same, same_upd hD3⟩ (fun i H' _ ⟨_, z⟩ => SqL.of (z _ _ en)) ?_ ?_
    · rintro i y H' hy ⟨eD3, si⟩
      rw [List.getElem?_map] at hy
      cases hx : (rows.map Prod.fst)[i]? with
      | none => rw [hx] at hy; cases hy
      | some z =>
        rw [hx] at hy
        cases hy
        have hi : i < (rows.map Prod.fst).length := (List.getElem?_eq_some_iff.mp hx).1
        refine ⟨rfl, _, rfl, .inl ⟨rfl, _, SqL.of (si _ _ en)⟩, _, rfl, np, rows.map Prod.fst, z, rfl, rfl, si _ _ en, ?_⟩
        rw [cnt_all]
        refine ⟨rfl, _, eD3, ?_, ?_, fun z o e => by rw [upd_ne (ne_of_none e hD3)]; exact si _ _ e⟩
        · rw [List.length_map, List.length_map, List.length_take]; exact Nat.lt_of_lt_of_le (show _ < 100 by omega) (small_line (by decide))
        · have ez : decide (V.int (((rows.map Prod.fst).count z : Nat) : Int) = V.int 1) = decide ((((rows.map Prod.fst).count z : Nat) : Int) = 1) := decide_eq_decide.mpr ⟨fun e => V.int.inj e, fun e => congrArg V.int e⟩
          rw [upd_same, List.take_succ, hx, ez]; simp
    rintro H3 ⟨eD3, s3⟩
    rw [List.length_map, List.take_length] at eD3
    refine ⟨D3, _, rfl, SqL.of eD3, ?_⟩
    have e : ((rows.map Prod.fst).map fun z => decide ((((rows.map Prod.fst).count z : Nat) : Int) = 1)).all id = decide (rows.map Prod.fst).Nodup := by
      rw [Bool.eq_iff_iff, List.all_map, List.all_eq_true, decide_eq_true_eq, ← nodup_count]
      constructor
      · intro h z hz
        exact of_decide_eq_true (h z hz)
      · intro h z hz
        exact decide_eq_true (h z hz)
    rw [e]
    exact q _ (s2.trans s3)
theorem ok_ares {f fW : Addr} {fd fdW : FuncData} {k : Nat} (F : Fun K "_are_spans" "_are_spans" sAreS f fd) (T : TxtB mg) (Fis_whole : Fun K "is_whole" "is_whole" sIsW fW fdW) (gis_whole : mg "is_whole" = some (.ref fW)) (bis_whole : Binds K fdW ["thing", "least", "most"] []) :
    FnOk P w K mg base CX0 (k + 2) f fd ["thing"] spAreS := by
  have Gis_whole : FnOk P w K mg base CX0 (k + 1) fW fdW ["thing", "least", "most"] (spIsW K) := ok_isw Fis_whole T
  refine F.ok scAreS (fun vs H Q E h => ?_) (fun cdv A outer s H vs Q E hr h => ?_)
  · obtain ⟨l, ns, rfl, _⟩ := h
    rfl
  · obtain ⟨l, ns, rfl, hl, hlen, q⟩ := h
    obtain ⟨t1, mMOST_BORNE⟩ := T.mMO
    have hris_whole := hr
    refine ⟨_,
      (pss_one (ps_ret (pe_and (pe_callB call_isi (by rfl) T.misinstance (by decide +kernel) (pa_cons (pv 0) (pa_cons (pe_bltn (v := .ty "list") (u := .type "list") (by rfl) T.mlist (by decide +kernel) rfl) pa_nil))) (pe_one (pe_callB (cr_all rfl) (by rfl) T.mall (by decide +kernel) (pa_cons (pe_lc (own := [("span", 1)]) (g := gName 1) (tt := tYes) rfl scAreS.nd (pi_list (pv 0)) (blkOk_by (N := NAreS) (own := [("span", 1)]) (sc := defScope sAreS) (by decide +kernel)) (fun _ _ _ _ _ => pg_name (i := 1) scAreS.nd rfl (Or.inl rfl)) (fun _ _ _ _ _ => pts_nil) (fun _ _ _ _ _ => (pe_call Gis_whole hris_whole (by rfl) gis_whole Fis_whole.kp bis_whole .nil pass0 (pa_cons (pv 1) (pa_cons pe_int (pa_cons (pe_glob (v := .int 1000000) (by rfl) mMOST_BORNE ⟨_, rfl⟩) pa_nil)))))) pa_nil))))))
      , ?_⟩
    refine ⟨_, rfl, _, _, _, _, true, rfl, .ty "list", .base (.lst hl), kit_ty (by decide +kernel), _, rfl, ?_⟩
    refine ⟨_, rfl, l, rfl, ⟨_, SqL.of hl⟩, fun D hD => ?_⟩
    refine lc_list (K := K) (a := l) (xs := ns.map V.int) (fun i H' => H' D = some (.lst (((ns.take i).map fun z => decide (1 ≤ z) && decide (z ≤ 1000000)).map V.bl)) ∧ Same H H')
      ⟨upd_same, same_upd hD⟩ (fun i H' _ ⟨_, z⟩ => SqL.of (z _ _ hl)) ?_ ?_
    · rintro i y H' hy ⟨eD, si⟩
      rw [List.getElem?_map] at hy
      cases hx : ns[i]? with
      | none => rw [hx] at hy; cases hy
      | some z =>
        rw [hx] at hy
        cases hy
        have hi : i < ns.length := (List.getElem?_eq_some_iff.mp hx).1
        refine ⟨rfl, _, rfl, .int z, 1, 1000000, rfl, .inl ⟨z, rfl, _, eD, ?_, ?_, fun z o e => by rw [upd_ne (ne_of_none e hD)]; exact si _ _ e⟩⟩
        · rw [List.length_map, List.length_map, List.length_take]; exact Nat.lt_of_lt_of_le (show _ < 2000 by omega) (Nat.le_trans (show 2000 ≤ 100000 by decide) (by decide))
        · rw [upd_same, List.take_succ, hx]; simp
    rintro H1 ⟨eD, s1⟩
    rw [List.length_map, List.take_length] at eD
    refine ⟨D, _, rfl, SqL.of eD, ?_⟩
    rw [List.all_map]
    exact q _ s1
theorem ok_brinit {f fB fS fW : Addr} {fd fdB fdS fdW : FuncData} {k : Nat} (F : Fun K "__init__" "Bridge.__init__" sBrInit f fd) (T : TxtB mg) (TB : BCl K mg C) (TC : BrCl K mg CB)
    (F_are_boats : Fun K "_are_boats" "_are_boats" sAreB fB fdB) (g_are_boats : mg "_are_boats" = some (.ref fB)) (b_are_boats : Binds K fdB ["thing"] [])
    (F_are_spans : Fun K "_are_spans" "_are_spans" sAreS fS fdS) (g_are_spans : mg "_are_spans" = some (.ref fS)) (b_are_spans : Binds K fdS ["thing"] [])
    (Fis_whole : Fun K "is_whole" "is_whole" sIsW fW fdW) (gis_whole : mg "is_whole" = some (.ref fW)) (bis_whole : Binds K fdW ["thing", "least", "most"] []) :
    FnOk P w K mg base CX0 (k + 3) f fd ["self", "boats", "spans"] (spBrInit C CB) := by
  have G_are_boats : FnOk P w K mg base CX0 (k + 2) fB fdB ["thing"] (spAreB C) := ok_areb F_are_boats T TB
  have G_are_spans : FnOk P w K mg base CX0 (k + 2) fS fdS ["thing"] spAreS := ok_ares F_are_spans T Fis_whole gis_whole bis_whole
  refine F.ok scBrInit (fun vs H Q E h => ?_) (fun cdv A outer s H vs Q E hr h => ?_)
  · obtain ⟨p, dx, l, s, bs, rows, spans, rfl, _⟩ := h
    rfl
  · obtain ⟨p, dx, l, sp, bs, rows, spans, rfl, hp, hl, hb, hs, hg, q⟩ := h
    have hr_are_boats := hr
    have hr_are_spans := hr
    have hbl := hb.len
    refine ⟨_, PSs.nox (
      (pss_cons (ps_if (PW.pt (pw_or (pt_not (pt_val (pe_call G_are_boats hr_are_boats (by rfl) g_are_boats F_are_boats.kp b_are_boats .nil pass0 (pa_cons (pv 1) pa_nil)))) (pw_or (pt_not (pt_val (pe_call G_are_spans hr_are_spans (by rfl) g_are_spans F_are_spans.kp b_are_spans .nil pass0 (pa_cons (pv 2) pa_nil)))) (pw_or1 (pt_cmpR op_ne (pe_callB call_len_seq (by rfl) T.mlen PySem.boot_len (pa_cons (pv 2) pa_nil)) (pe_op op_add (pe_callB call_len_seq (by rfl) T.mlen PySem.boot_len (pa_cons (pv 1) pa_nil)) pe_int) (nomark _))))))
      (pss_one ps_never)
      pss_nil)
      (pss_cons (ps_fld (pv 0) (pe_callTy call_list_of (by rfl) T.mlist (by decide +kernel) (pa_cons (pv 1) pa_nil)) rfl)
      (pss_one (ps_fld (pv 0) (pe_callTy call_list_of (by rfl) T.mlist (by decide +kernel) (pa_cons (pv 2) pa_nil)) rfl))))
      ), ?_⟩
    refine ⟨_, rfl, l, bs, rows, rfl, hl, hb, hg.l0, hg.l1, fun H1 s1 => ⟨_, rfl, ?_⟩⟩
    rw [decide_eq_true hg.nd]
    refine iteF ⟨_, rfl, sp, spans, rfl, s1 _ _ hs, by rw [hg.sl]; have := hg.l1; omega, fun H2 s2 => ⟨_, rfl, ?_⟩⟩
    rw [show (spans.all fun z => decide (1 ≤ z) && decide (z ≤ 1000000)) = true from List.all_eq_true.mpr fun z hz => by rw [decide_eq_true (hg.sb z hz).1, decide_eq_true (hg.sb z hz).2]; rfl]
    have s12 := s1.trans s2
    refine iteF ⟨_, rfl, sp, _, rfl, .inl (SqL.of (s12 _ _ hs)), _, rfl, l, _, rfl, .inl (SqL.of (s12 _ _ hl)), _, _, rfl, rfl, rfl, _, rfl, ?_⟩
    have e0 : (!decide (V.int (((spans.map V.int).length : Nat) : Int) = V.int (((bs.length : Nat) : Int) + 1))) = false := by
      rw [decide_eq_true (congrArg V.int (show (((spans.map V.int).length : Nat) : Int) = ((bs.length : Nat) : Int) + 1 by rw [List.length_map, hg.sl, hbl]; rfl))]
      rfl
    rw [e0]
    refine iteF ?_
    have hp2 := s12 _ _ hp
    refine ⟨_, rfl, l, _, rfl, .inl (SqL.of (s12 _ _ hl)), fun bl hbl0 => ?_⟩
    have nbp : p ≠ bl := ne_of_none hp2 hbl0
    have sb := same_upd (o := .lst bs) hbl0
    refine ⟨_, rfl, p, CB, dx, _, rfl, sb _ _ hp2, TC.cl, TC.nB, (by show 0 < 1000; decide), ?_⟩
    have nsp : sp ≠ p := ne_of (s12 _ _ hs) hp2 (by intro z; cases z)
    have hs2 : (upd (upd H2 bl (.lst bs)) p (.ins CB dx (putF "_boats" (.ref bl) []))) sp = some (.lst (spans.map V.int)) := by rw [upd_ne nsp]; exact sb _ _ (s12 _ _ hs)
    refine ⟨_, rfl, sp, _, rfl, .inl (SqL.of hs2), fun sl hsl0 => ?_⟩
    have nsl : sl ≠ p := fun e => by rw [e, upd_same] at hsl0; cases hsl0
    have hsl1 : (upd H2 bl (.lst bs)) sl = none := by rw [upd_ne nsl] at hsl0; exact hsl0
    have nslbl : sl ≠ bl := fun e => by rw [e, upd_same] at hsl1; cases hsl1
    have hsl2 : H2 sl = none := by rw [upd_ne nslbl] at hsl1; exact hsl1
    refine ⟨_, rfl, p, CB, dx, _, rfl, by rw [upd_ne nsl.symm]; exact upd_same, TC.cl, TC.nS, (by show 1 < 1000; decide), ?_⟩
    have back : ∀ x, H2 x = none → H x = none := fun x e => by
      cases z : H x with
      | none => rfl
      | some o => rw [s12 _ _ z] at e; cases e
    have keep : ∀ x o, x ≠ p → H2 x = some o → (upd (upd (upd (upd H2 bl (.lst bs)) p (.ins CB dx (putF "_boats" (.ref bl) []))) sl (.lst (spans.map V.int))) p (.ins CB dx (putF "_spans" (.ref sl) (putF "_boats" (.ref bl) [])))) x = some o := fun x o n e => by
      rw [upd_ne n, upd_ne (ne_of_none e hsl2), upd_ne n, upd_ne (ne_of_none e hbl0)]; exact e
    refine q bl sl _ (back _ hbl0) (back _ hsl2) ⟨⟨dx, bs, upd_same, ?_, ?_⟩, ?_⟩ (fun x o n e => keep x o n (s12 _ _ e))
    · rw [upd_ne nbp.symm, upd_ne nslbl.symm, upd_ne nbp.symm]; exact upd_same
    · refine (hb.same s12).mono fun a dx' n b e => ?_
      by_cases ea : a = p
      · rw [ea, hp2] at e
        cases e
      · exact keep a _ ea e
    · rw [upd_ne nsl, upd_same]
theorem ok_brboats {f : Addr} {fd : FuncData} {k : Nat} (F : Fun K "boats" "Bridge.boats" sBrBoats f fd) (T : TxtB mg) (TC : BrCl K mg CB) : FnOk P w K mg base CX0 (k + 1) f fd ["self"] (spBrBoats C CB) := by
  refine F.ok scBrBoats (fun vs H Q E h => ?_) (fun cdv A outer s H vs Q E hr h => ?_)
  · obtain ⟨p, bl, sl, rows, spans, rfl, _⟩ := h
    rfl
  · obtain ⟨p, bl, sl, rows, spans, rfl, hp, q⟩ := h
    obtain ⟨dx, bs, e1, e2, e3⟩ := hp.ex
    refine ⟨_,
      (pss_one (ps_ret (pe_callTy call_list_of (by rfl) T.mlist (by decide +kernel) (pa_cons (pe_fld (pv 0) rfl) pa_nil))))
      , ?_⟩
    exact ⟨_, rfl, p, CB, dx, _, _, rfl, e1, TC.cl, TC.nB, brF_boats bl sl, bl, _, rfl, .inl (SqL.of e2), fun l hl => q l bs _ (same_upd hl) hl upd_same (e3.same (same_upd hl))⟩
theorem ok_brspans {f : Addr} {fd : FuncData} {k : Nat} (F : Fun K "spans" "Bridge.spans" sBrSpans f fd) (T : TxtB mg) (TC : BrCl K mg CB) : FnOk P w K mg base CX0 (k + 1) f fd ["self"] (spBrSpans C CB) := by
  refine F.ok scBrSpans (fun vs H Q E h => ?_) (fun cdv A outer s H vs Q E hr h => ?_)
  · obtain ⟨p, bl, sl, rows, spans, rfl, _⟩ := h
    rfl
  · obtain ⟨p, bl, sl, rows, spans, rfl, hp, q⟩ := h
    obtain ⟨dx, bs, e1, e2, e3⟩ := hp.ex
    refine ⟨_,
      (pss_one (ps_ret (pe_callTy call_list_of (by rfl) T.mlist (by decide +kernel) (pa_cons (pe_fld (pv 0) rfl) pa_nil))))
      , ?_⟩
    exact ⟨_, rfl, p, CB, dx, _, _, rfl, e1, TC.cl, TC.nS, brF_spans bl sl, sl, _, rfl, .inl (SqL.of hp.sp), fun l hl => q l _ (same_upd hl) hl upd_same⟩
theorem ok_brlen {f : Addr} {fd : FuncData} {k : Nat} (F : Fun K "__len__" "Bridge.__len__" sBrLen f fd) (T : TxtB mg) (TC : BrCl K mg CB) : FnOk P w K mg base CX0 (k + 1) f fd ["self"] (spBrLen C CB) := by
  refine F.ok scBrLen (fun vs H Q E h => ?_) (fun cdv A outer s H vs Q E hr h => ?_)
  · obtain ⟨p, bl, sl, rows, spans, rfl, _⟩ := h
    rfl
  · obtain ⟨p, bl, sl, rows, spans, rfl, hp, q⟩ := h
    obtain ⟨dx, bs, e1, e2, e3⟩ := hp.ex
    refine ⟨_,
      (pss_one (ps_ret (pe_callB call_len_seq (by rfl) T.mlen PySem.boot_len (pa_cons (pe_fld (pv 0) rfl) pa_nil))))
      , ?_⟩
    refine ⟨_, rfl, p, CB, dx, _, _, rfl, e1, TC.cl, TC.nB, brF_boats bl sl, bl, _, rfl, .inl (SqL.of e2), ?_⟩
    rw [e3.len]
    exact q
end
/-! ### texts of small letters -/
theorem emp (x : Str) : Str.empty ++ x = x := ext_tl (by show (Str.empty ++ x).cps.toList = _; rw [Str.cps_append]; simp [Str.empty])
theorem tl_app (x y : Str) : tl (x ++ y) = tl x ++ tl y := by unfold tl; rw [Str.cps_append]; simp
/-- texts of at most m small letters -/
def LowN (m : Nat) (z : Str) : Prop := z.length ≤ m ∧ ∀ c ∈ tl z, 97 ≤ c ∧ c ≤ 122
theorem tl_cut (z : Str) (lo hi : Option Int) : tl (cutS z lo hi) = ((tl z).drop (HT.sIx z.length 0 lo)).take (HT.sIx z.length z.length hi - HT.sIx z.length 0 lo) := by
  unfold tl cutS; simp
theorem cut_low {m : Nat} {z : Str} {lo hi : Option Int} (h : LowN m z) : LowN m (cutS z lo hi) := by
  refine ⟨?_, fun c hc => ?_⟩
  · have := TL.len_tl (cutS z lo hi)
    have h2 := TL.len_tl z
    rw [this, tl_cut, List.length_take, List.length_drop]
    have := h.1
    omega
  · rw [tl_cut] at hc
    exact h.2 c (List.mem_of_mem_drop (List.mem_of_mem_take hc))
theorem app_low {m k : Nat} {y z : Str} (h : LowN m y) (h2 : LowN k z) : LowN (m + k) (y ++ z) := by
  refine ⟨by rw [Str.length_append]; exact Nat.add_le_add h.1 h2.1, fun c hc => ?_⟩
  rw [tl_app] at hc
  rcases List.mem_append.mp hc with hc | hc
  · exact h.2 c hc
  · exact h2.2 c hc
theorem one_low {c : Nat} (h : 97 ≤ c ∧ c ≤ 122) : LowN 1 ⟨#[c]⟩ := ⟨Nat.le_refl _, fun d hd => by
  have : d = c := by simpa [tl] using hd
  rw [this]; exact h⟩
theorem join_low : ∀ ys : List Str, (∀ y ∈ ys, LowN 1 y ∧ y.length = 1) → (TL.joinL [] (ys.map tl)).length = ys.length ∧ ∀ c ∈ TL.joinL [] (ys.map tl), 97 ≤ c ∧ c ≤ 122
  | [], _ => ⟨rfl, fun c hc => by cases hc⟩
  | [y], h => by
    have hy := h y List.mem_cons_self
    exact ⟨by show (tl y).length = 1; rw [← TL.len_tl]; exact hy.2, hy.1.2⟩
  | y :: z :: r, h => by
    have hy := h y List.mem_cons_self
    obtain ⟨i1, i2⟩ := join_low (z :: r) fun w hw => h w (List.mem_cons_of_mem _ hw)
    refine ⟨?_, fun c hc => ?_⟩
    · show (tl y ++ ([] ++ TL.joinL [] ((z :: r).map tl))).length = (z :: r).length + 1
      rw [List.length_append, List.nil_append, i1, ← TL.len_tl, hy.2]
      omega
    · have hc' : c ∈ tl y ++ ([] ++ TL.joinL [] ((z :: r).map tl)) := hc
      rw [List.nil_append] at hc'
      rcases List.mem_append.mp hc' with hc' | hc'
      · exact hy.1.2 c hc'
      · exact i2 c hc'
theorem base_low {ys : List Str} (h : ∀ y ∈ ys, LowN 1 y ∧ y.length = 1) : LowN ys.length (Txt.join Str.empty ys) ∧ (Txt.join Str.empty ys).length = ys.length := by
  obtain ⟨a, b⟩ := join_low ys h
  have e : tl (Txt.join Str.empty ys) = TL.joinL [] (ys.map tl) := by rw [TL.join_eq, TL.tl_join]; rfl
  have l : (Txt.join Str.empty ys).length = ys.length := by rw [TL.len_tl, e, a]
  exact ⟨⟨Nat.le_of_eq l, fun c hc => b c (by rw [← e]; exact hc)⟩, l⟩
theorem letter : ∀ j : Nat, j < 26 → ∃ c, (tl "abcdefghijklmnopqrstuvwxyz")[j]? = some c ∧ 97 ≤ c ∧ c ≤ 122 := by
  have : ∀ j : Nat, j < 26 → (tl "abcdefghijklmnopqrstuvwxyz")[j]? = some (97 + j) := by decide +kernel
  intro j h
  exact ⟨_, this j h, by omega, by omega⟩
def words : List Str := ["near", "far", "water", "ice", "both", "days", "out", "down", "a", "ab", "abcdefgh", "on"]
theorem words_low : ∀ z ∈ words, LowN 8 z := by
  have : words.all (fun z => decide (z.length ≤ 8) && (tl z).all fun c => decide (97 ≤ c) && decide (c ≤ 122)) = true := by decide +kernel
  intro z hz
  have h := List.all_eq_true.mp this z hz
  rw [Bool.and_eq_true, decide_eq_true_eq, List.all_eq_true] at h
  refine ⟨h.1, fun c hc => ?_⟩
  have := h.2 c hc
  rw [Bool.and_eq_true, decide_eq_true_eq, decide_eq_true_eq] at this
  exact this

theorem words_pos : ∀ z ∈ words, 1 ≤ z.length := by
  have : words.all (fun z => decide (1 ≤ z.length)) = true := by decide +kernel
  intro z hz
  exact of_decide_eq_true (List.all_eq_true.mp this z hz)
theorem LowN.mono {m k : Nat} {z : Str} (h : LowN m z) (l : m ≤ k) : LowN k z := ⟨Nat.le_trans h.1 l, h.2⟩
theorem letter_at {j : Nat} (h : j < 26) : (tl "abcdefghijklmnopqrstuvwxyz")[j]? = some (97 + j) := by
  have : ∀ j : Nat, j < 26 → (tl "abcdefghijklmnopqrstuvwxyz")[j]? = some (97 + j) := by decide +kernel
  exact this j h
def steps : List Int := [1, 3, 5, 7, 9, 11, 15, 17, 19, 21, 23, 25]
theorem steps_pos {st : Int} (h : st ∈ steps) : 0 < st ∧ st < 100 := by
  have : ∀ st ∈ steps, 0 < st ∧ st < 100 := by decide
  exact this st h
theorem steps_apart {st : Int} (h : st ∈ steps) {f i j : Nat} (hi : i < 10) (hj : j < 10) (n : i ≠ j) (e : ((f : Int) + st * (i : Int)).toNat % 26 = ((f : Int) + st * (j : Int)).toNat % 26) : False := by
  unfold steps at h
  simp only [List.mem_cons, List.not_mem_nil, or_false] at h
  rcases h with rfl | rfl | rfl | rfl | rfl | rfl | rfl | rfl | rfl | rfl | rfl | rfl <;> omega
theorem cut_before_len {z : Str} {t : Nat} (h : t < z.length) : (tl (cutS z none (some (t : Int)))).length = t := by
  have lz := TL.len_tl z
  rw [tl_cut, HT.sIx_none, show HT.sIx z.length z.length (some (t : Int)) = min t z.length from HT.sIx_nat z.length _ t, List.length_take, List.length_drop]
  omega
theorem cut_before {m : Nat} {z : Str} {t : Nat} (h : LowN m z) (ht : t < z.length) : LowN t (cutS z none (some (t : Int))) :=
  ⟨by rw [TL.len_tl]; exact Nat.le_of_eq (cut_before_len ht), (cut_low h).2⟩
theorem cut_after {m : Nat} {z : Str} {t : Nat} (h : LowN m z) (ht : t < z.length) : LowN (z.length - (t + 1)) (cutS z (some ((t : Int) + 1)) none) := by
  refine ⟨?_, (cut_low h).2⟩
  have lz := TL.len_tl z
  rw [TL.len_tl, tl_cut, HT.sIx_none, show HT.sIx z.length 0 (some ((t : Int) + 1)) = min (t + 1) z.length from HT.sIx_nat z.length _ (t + 1), List.length_take, List.length_drop]
  omega
theorem cut_from {xs : List V} {t : Nat} (h : t ≤ xs.length) : cutV xs (some (t : Int)) none = xs.drop t := by
  unfold cutV
  rw [show HT.sIx xs.length 0 (some (t : Int)) = min t xs.length from HT.sIx_nat xs.length 0 t, HT.sIx_none, Nat.min_eq_left h]
  exact List.take_of_length_le (by rw [List.length_drop]; exact Nat.le_refl _)
theorem cut_to {xs : List V} {t : Nat} (h : t ≤ xs.length) : cutV xs none (some (t : Int)) = xs.take t := by
  unfold cutV
  rw [HT.sIx_none, show HT.sIx xs.length xs.length (some (t : Int)) = min t xs.length from HT.sIx_nat xs.length _ t, Nat.min_eq_left h]
  show (xs.drop 0).take (t - 0) = _
  rw [Nat.sub_zero]; rfl
def spNames : Sp := fun vs H Q _ => ∃ (T c : Addr) (m n : Nat), vs = [.ref T, .int (m : Int)] ∧ 1 ≤ m ∧ m ≤ 10 ∧ n < 900000 ∧ Tape H T c n ∧
  ∀ (p : Addr) (zs : List Str) H', zs.length = m → (∀ z ∈ zs, LowN 8 z ∧ 1 ≤ z.length) → zs.Nodup → H' p = some (.lst (zs.map V.str)) → p ≠ T → Tape H' T c (n + 40) → Keep T H H' → Q (.ref p) H'
structure TxtN (mg : Str → Option Value) : Prop where
  mlen : mg "len" = none
  mrange : mg "range" = none
section
variable {P : Program} {w : World} {K : PySem.W.Frag} {mg : Str → Option Value} {base : Heap} {C : Addr}
theorem ok_names {f fD : Addr} {fd fdD : FuncData} {k : Nat} (F : Fun K "_law_names" "_law_names" sNames f fd) (T0 : Txt0 mg) (T : TxtN mg)
    (F_law_draw : Fun K "_law_draw" "_law_draw" sDraw fD fdD) (g_law_draw : mg "_law_draw" = some (.ref fD)) (b_law_draw : Binds K fdD ["_law_tape_here", "_law_many"] []) :
    FnOk P w K mg base CX0 (k + 2) f fd ["_law_tape_here", "_law_many"] spNames := by
  have G_law_draw : FnOk P w K mg base CX0 (k + 1) fD fdD ["_law_tape_here", "_law_many"] spDraw := ok_draw F_law_draw T0
  refine F.ok scNames (fun vs H Q E h => ?_) (fun cdv A outer s H vs Q E hr h => ?_)
  · obtain ⟨a, c, m, n, rfl, _⟩ := h
    rfl
  · obtain ⟨a, c, m, n, rfl, hm1, hm10, hn, hT, q⟩ := h
    have hr_law_draw := hr
    refine ⟨_,
      (pss_cons (ps_set (i := 2) scNames.nd rfl (.inr rfl) pe_str)
      (pss_cons (ps_set (i := 3) scNames.nd rfl (.inl rfl) (pe_call G_law_draw hr_law_draw (by rfl) g_law_draw F_law_draw.kp b_law_draw .nil pass0 (pa_cons (pv 0) (pa_cons pe_int pa_nil))))
      (pss_cons (ps_if (pt_cmpR op_eq (pe_call G_law_draw hr_law_draw (by rfl) g_law_draw F_law_draw.kp b_law_draw .nil pass0 (pa_cons (pv 0) (pa_cons pe_int pa_nil))) pe_int (nomark _))
      (pss_cons (ps_set (i := 4) scNames.nd rfl (.inl rfl) (pe_lst (pa_cons pe_str (pa_cons pe_str (pa_cons pe_str (pa_cons pe_str (pa_cons pe_str (pa_cons pe_str (pa_cons pe_str (pa_cons pe_str (pa_cons pe_str (pa_cons pe_str (pa_cons pe_str (pa_cons pe_str pa_nil))))))))))))))
      (pss_one (ps_ret (pe_slice sl_list (pe_op op_cat (pe_slice sl_list (pv 4) (po_some (pv 3)) po_none) (pe_slice sl_list (pv 4) po_none (po_some (pv 3)))) po_none (po_some (pv 1))))))
      pss_nil)
      (pss_cut (ps_set (i := 5) scNames.nd rfl (.inr rfl) (pe_join pe_str (pe_lc (own := [("_law_k", 10)]) (g := gName 10) (tt := tYes) rfl scNames.nd (pi_range1 (by rfl) T.mrange (pa_cons (pe_op op_add pe_int (pe_call G_law_draw hr_law_draw (by rfl) g_law_draw F_law_draw.kp b_law_draw .nil pass0 (pa_cons (pv 0) (pa_cons pe_int pa_nil)))) pa_nil)) (blkOk_by (N := NNames) (own := [("_law_k", 10)]) (sc := defScope sNames) (by decide +kernel)) (fun _ _ _ _ _ => pg_name (i := 10) scNames.nd rfl (Or.inl rfl)) (fun _ _ _ _ _ => pts_nil) (fun _ _ _ _ _ => (pe_ix ix_str (pv 2) (pe_call G_law_draw hr_law_draw (by rfl) g_law_draw F_law_draw.kp b_law_draw .nil pass0 (pa_cons (pv 0) (pa_cons pe_int pa_nil))) (fun _ _ => rfl))))))
      (pss_cut (ps_asg (pe_tup (pa_cons (pe_call G_law_draw hr_law_draw (by rfl) g_law_draw F_law_draw.kp b_law_draw .nil pass0 (pa_cons (pv 0) (pa_cons (pe_callB call_len_str (by rfl) T.mlen PySem.boot_len (pa_cons (pv 5) pa_nil)) pa_nil))) (pa_cons (pe_call G_law_draw hr_law_draw (by rfl) g_law_draw F_law_draw.kp b_law_draw .nil pass0 (pa_cons (pv 0) (pa_cons pe_int pa_nil))) pa_nil))) (pg_tup rfl (pgs_cons (pg_name (i := 6) scNames.nd rfl (.inr rfl)) (pgs_cons (pg_name (i := 7) scNames.nd rfl (.inr rfl)) pgs_nil))))
      (pss_cut (ps_set (i := 8) scNames.nd rfl (.inr rfl) (pe_ix ix_list (pe_lst (pa_cons pe_int (pa_cons pe_int (pa_cons pe_int (pa_cons pe_int (pa_cons pe_int (pa_cons pe_int (pa_cons pe_int (pa_cons pe_int (pa_cons pe_int (pa_cons pe_int (pa_cons pe_int (pa_cons pe_int pa_nil))))))))))))) (pv 3) (fun _ _ => rfl)))
      (pss_cut (ps_set (i := 9) scNames.nd rfl (.inr rfl) (pe_lc (own := [("_law_k", 10)]) (g := gName 10) (tt := tYes) rfl scNames.nd (pi_range1 (by rfl) T.mrange (pa_cons (pv 1) pa_nil)) (blkOk_by (N := NNames) (own := [("_law_k", 10)]) (sc := defScope sNames) (by decide +kernel)) (fun _ _ _ _ _ => pg_name (i := 10) scNames.nd rfl (Or.inl rfl)) (fun _ _ _ _ _ => pts_nil) (fun _ _ _ _ _ => (pe_slice sl_str (pe_slice sl_str (pv 5) (po_some (pe_op op_add (pv 6) pe_int)) po_none) po_none (po_some (pe_call G_law_draw hr_law_draw (by rfl) g_law_draw F_law_draw.kp b_law_draw .nil pass0 (pa_cons (pv 0) (pa_cons pe_int pa_nil))))))))
      (pss_one (ps_ret (pe_lc (own := [("_law_k", 10)]) (g := gName 10) (tt := tYes) rfl scNames.nd (pi_range1 (by rfl) T.mrange (pa_cons (pv 1) pa_nil)) (blkOk_by (N := NNames) (own := [("_law_k", 10)]) (sc := defScope sNames) (by decide +kernel)) (fun _ _ _ _ _ => pg_name (i := 10) scNames.nd rfl (Or.inl rfl)) (fun _ _ _ _ _ => pts_nil) (fun _ _ _ _ _ => (pe_op op_add_str (pe_op op_add_str (pe_slice sl_str (pv 5) po_none (po_some (pv 6))) (pe_ix ix_str (pv 2) (pe_op op_modN (pe_op op_add (pv 7) (pe_op op_mul (pv 8) (pv 10))) pe_int) (fun _ _ => rfl))) (pe_ix (r := rIxL K) ix_list (pv 9) (pv 10) (fun _ _ => rfl))))))))))))))
      , ?_⟩
    refine ⟨_, rfl, a, c, 12, n, rfl, by omega, by omega, by omega, hT, fun t H1 t0 t1 T1 k1 => ?_⟩
    obtain ⟨tn, rfl⟩ := Int.eq_ofNat_of_zero_le t0
    refine ⟨_, rfl, a, c, 5, n + 1, rfl, by omega, by omega, by omega, T1, fun d5 H2 _ _ T2 k2 => ⟨rfl, _, rfl, ite2 (fun _ => ?_) (fun _ => ?_)⟩⟩
    · -- written names
      refine ⟨by show 12 ≤ sizeLine; decide, fun pw npw => ?_⟩
      have hw : (upd H2 pw (.lst (words.map V.str))) pw = some (.lst (words.map V.str)) := upd_same
      have lw : (words.map V.str).length = 12 := rfl
      have ht : tn ≤ (words.map V.str).length := by rw [lw]; omega
      refine ⟨_, rfl, _, rfl, (tn : Int), rfl, pw, words.map V.str, rfl, SqL.of hw, fun c1 n1 => ?_⟩
      have hw1 := upd_at (o := .lst (cutV (words.map V.str) (some (tn : Int)) none)) n1 hw
      refine ⟨_, rfl, _, rfl, (tn : Int), rfl, pw, words.map V.str, rfl, SqL.of hw1, fun c2 n2 => ?_⟩
      rw [cut_from ht, cut_to ht]
      rw [cut_from ht] at n2
      refine ⟨_, _, _, _, rfl, rfl, upd_at n2 upd_same, upd_same, by rw [List.length_drop, List.length_take, lw]; exact small_line (by omega), fun c3 n3 => ?_⟩
      refine ⟨_, rfl, (m : Int), rfl, c3, _, rfl, SqL.of upd_same, fun c4 n4 => ?_⟩
      have l4 : m ≤ ((words.map V.str).drop tn ++ (words.map V.str).take tn).length := by rw [List.length_append, List.length_drop, List.length_take, lw]; omega
      rw [show cutV _ none (some (m : Int)) = _ from cut_to (t := m) l4]
      have lall : (words.drop tn ++ words.take tn).length = 12 := by rw [List.length_append, List.length_drop, List.length_take]; show (12 - tn) + min tn 12 = 12; omega
      refine q c4 ((words.drop tn ++ words.take tn).take m) _ (by rw [List.length_take, lall]; omega) ?_ ?_ ?_ ?_ ?_ ?_
      · intro z hz
        have hz' := List.mem_of_mem_take hz
        rcases List.mem_append.mp hz' with hz' | hz'
        · exact ⟨words_low z (List.mem_of_mem_drop hz'), words_pos z (List.mem_of_mem_drop hz')⟩
        · exact ⟨words_low z (List.mem_of_mem_take hz'), words_pos z (List.mem_of_mem_take hz')⟩
      · refine List.Nodup.sublist (List.take_sublist _ _) ?_
        have e : (words.take tn ++ words.drop tn).Nodup := by rw [List.take_append_drop]; decide +kernel
        exact (List.perm_append_comm.nodup_iff).mp e
      · rw [upd_same, List.map_take, List.map_append, List.map_drop, List.map_take]
      · exact ((((T2.new npw).new n1).new n2).new n3).ne n4
      · exact (((((T2.new npw).new n1).new n2).new n3).new n4).mono (by omega)
      · exact (((((k1.trans k2).new npw).new n1).new n2).new n3).new n4
    -- a drawn base
    refine ⟨fun σ H' => ∃ base : Str, LowN 8 base ∧ 0 < base.length ∧ σ = [some (.ref a), some (.int (m : Int)), some (.str "abcdefghijklmnopqrstuvwxyz"), some (.int (tn : Int)), none, some (.str base), none, none, none, none, none] ∧ Tape H' a c (n + 11) ∧ Keep a H H', ?_, ?_⟩
    · refine ⟨⟨_, rfl⟩, _, rfl, a, c, 8, n + 2, rfl, by omega, by omega, by omega, T2, fun d8 H3 d80 d81 T3 k3 => ⟨_, _, rfl, rfl, 1 + d8, rfl, by omega, by omega, fun D nD => ?_⟩⟩
      have nDa : D ≠ a := T3.ne nD
      have nDc : D ≠ c := T3.nec nD
      refine lc_range (lo := 0) (n := (1 + d8).toNat) (fun i H' => ∃ ys : List Str, ys.length = i ∧ (∀ y ∈ ys, LowN 1 y ∧ y.length = 1) ∧ H' D = some (.lst (ys.map V.str)) ∧ Tape H' a c (n + 3 + i) ∧ Keep a H H')
        ⟨[], rfl, fun y hy => (by cases hy), upd_same, T3.new nD, ((k1.trans k2).trans k3).new nD⟩ ?_ ?_
      · rintro i H' hi ⟨ys, ly, lo, eD, Ti, ki⟩
        refine ⟨rfl, _, rfl, _, rfl, a, c, 26, n + 3 + i, rfl, by omega, by omega, by omega, Ti, fun d H4 d0 d1 T4 k4 => ?_⟩
        obtain ⟨dn, rfl⟩ := Int.eq_ofNat_of_zero_le d0
        obtain ⟨ch, hc, c0, c1⟩ := letter dn (by omega)
        refine ⟨_, _, ch, rfl, rfl, small_line (by decide), atI_nat hc, _, k4 _ _ nDa eD, by rw [List.length_map]; exact Nat.lt_of_lt_of_le (show ys.length < 100 by omega) (small_line (by decide)), ys ++ [⟨#[ch]⟩], by rw [List.length_append, ly]; rfl, ?_, ?_, ?_, ?_⟩
        · intro y hy
          rcases List.mem_append.mp hy with hy | hy
          · exact lo y hy
          · rw [List.mem_singleton.mp hy]; exact ⟨one_low ⟨c0, c1⟩, rfl⟩
        · rw [upd_same, List.map_append]; rfl
        · exact (T4.upd nDa nDc).mono (by omega)
        · exact fun x o nx e => by rw [upd_ne (ne_of_none (k1 x o nx e |> k2 x o nx |> k3 x o nx) nD)]; exact k4 x o nx (ki x o nx e)
      · rintro H' ⟨ys, ly, lo, eD, Ti, ki⟩
        obtain ⟨b1, b2⟩ := base_low lo
        have len1 : ∀ l : List Str, (∀ y ∈ l, LowN 1 y ∧ y.length = 1) → (l.map (·.length)).sum = l.length := fun l => by
          induction l with
          | nil => intro _; rfl
          | cons z r ih => intro h; rw [List.map_cons, List.sum_cons, ih (fun w hw => h w (List.mem_cons_of_mem _ hw)), (h z List.mem_cons_self).2, List.length_cons]; omega
        refine ⟨Str.empty, D, ys, rfl, rfl, .inl (SqL.of eD), ?_, Txt.join Str.empty ys, ?_, ?_, rfl, Ti.mono (by omega), ki⟩
        · rw [len1 ys lo]; show ys.length + ys.length * 0 ≤ 16777216; omega
        · exact ⟨by rw [b2]; omega, b1.2⟩
        · rw [b2]; omega
    rintro σ H5 ⟨base, lb, pb, rfl, T5, k5⟩
    -- at, first
    refine ⟨fun σ H' => ∃ (at_ fst : Nat), at_ < base.length ∧ fst < 26 ∧ σ = [some (.ref a), some (.int (m : Int)), some (.str "abcdefghijklmnopqrstuvwxyz"), some (.int (tn : Int)), none, some (.str base), some (.int (at_ : Int)), some (.int (fst : Int)), none, none, none] ∧ Tape H' a c (n + 13) ∧ Keep a H H', ?_, ?_⟩
    · have lb8 := lb.1
      refine ⟨_, rfl, _, rfl, base, rfl, small_line (by omega), a, c, base.length, n + 11, rfl, by omega, by omega, by omega, T5, fun d6 H6 d60 d61 T6 k6 => ?_⟩
      refine ⟨_, rfl, a, c, 26, n + 12, rfl, by omega, by omega, by omega, T6, fun d7 H7 d70 d71 T7 k7 => ⟨by show 2 ≤ sizeLine; decide, fun pt npt => ?_⟩⟩
      obtain ⟨m6, rfl⟩ := Int.eq_ofNat_of_zero_le d60
      obtain ⟨m7, rfl⟩ := Int.eq_ofNat_of_zero_le d70
      exact ⟨pt, _, rfl, .inl (.inl upd_same), rfl, _, _, rfl, _, _, rfl, rfl, m6, m7, by omega, by omega, rfl, (T7.new npt).mono (by omega), ((k5.trans k6).trans k7).new npt⟩
    rintro σ H8 ⟨at_, fst, hat, hfst, rfl, T8, k8⟩
    -- step
    refine ⟨fun σ H' => ∃ st : Int, st ∈ steps ∧ σ = [some (.ref a), some (.int (m : Int)), some (.str "abcdefghijklmnopqrstuvwxyz"), some (.int (tn : Int)), none, some (.str base), some (.int (at_ : Int)), some (.int (fst : Int)), some (.int st), none, none] ∧ Tape H' a c (n + 13) ∧ Keep a H H', ?_, ?_⟩
    · refine ⟨by show 12 ≤ sizeLine; decide, fun pl npl => ?_⟩
      have hst : ∃ st : Int, ([.int 1, .int 3, .int 5, .int 7, .int 9, .int 11, .int 15, .int 17, .int 19, .int 21, .int 23, .int 25] : List V)[tn]? = some (.int st) ∧ st ∈ steps := by
        have ht12 : tn < 12 := by omega
        have : ∀ j : Nat, j < 12 → ∃ st : Int, ([.int 1, .int 3, .int 5, .int 7, .int 9, .int 11, .int 15, .int 17, .int 19, .int 21, .int 23, .int 25] : List V)[j]? = some (.int st) ∧ st ∈ steps
          | 0, _ => ⟨_, rfl, by decide⟩ | 1, _ => ⟨_, rfl, by decide⟩ | 2, _ => ⟨_, rfl, by decide⟩ | 3, _ => ⟨_, rfl, by decide⟩
          | 4, _ => ⟨_, rfl, by decide⟩ | 5, _ => ⟨_, rfl, by decide⟩ | 6, _ => ⟨_, rfl, by decide⟩ | 7, _ => ⟨_, rfl, by decide⟩
          | 8, _ => ⟨_, rfl, by decide⟩ | 9, _ => ⟨_, rfl, by decide⟩ | 10, _ => ⟨_, rfl, by decide⟩ | 11, _ => ⟨_, rfl, by decide⟩
          | n + 12, h => absurd h (by omega)
        exact this tn ht12
      obtain ⟨st, hst, s0⟩ := hst
      exact ⟨_, rfl, pl, _, (tn : Int), _, rfl, rfl, SqL.of upd_same, atI_nat hst, st, s0, rfl, T8.new npl, k8.new npl⟩
    rintro σ H9 ⟨st, hst, rfl, T9, k9⟩
    have hst0 := steps_pos hst
    -- ends
    refine ⟨fun σ H' => ∃ (pe : Addr) (zs : List Str), zs.length = m ∧ (∀ z ∈ zs, LowN (base.length - (at_ + 1)) z) ∧ σ = [some (.ref a), some (.int (m : Int)), some (.str "abcdefghijklmnopqrstuvwxyz"), some (.int (tn : Int)), none, some (.str base), some (.int (at_ : Int)), some (.int (fst : Int)), some (.int st), some (.ref pe), none] ∧ H' pe = some (.lst (zs.map V.str)) ∧ pe ≠ a ∧ Tape H' a c (n + 13 + m) ∧ Keep a H H', ?_, ?_⟩
    · refine ⟨_, rfl, (m : Int), rfl, by omega, by omega, fun D nD => ?_⟩
      have nDa : D ≠ a := T9.ne nD
      have nDc : D ≠ c := T9.nec nD
      refine lc_range (lo := 0) (n := (m : Int).toNat) (fun i H' => ∃ ys : List Str, ys.length = i ∧ (∀ y ∈ ys, LowN (base.length - (at_ + 1)) y) ∧ H' D = some (.lst (ys.map V.str)) ∧ Tape H' a c (n + 13 + i) ∧ Keep a H H')
        ⟨[], rfl, fun y hy => (by cases hy), upd_same, T9.new nD, k9.new nD⟩ ?_ ?_
      · rintro i H' hi ⟨ys, ly, lo, eD, Ti, ki⟩
        have hD0 : H D = none := by
          cases e : H D with
          | none => rfl
          | some o => rw [k9 D o nDa e] at nD; cases nD
        refine ⟨rfl, _, rfl, _, rfl, _, _, rfl, rfl, _, rfl, base, rfl, small_line (by have := lb.1; omega), _, rfl, a, c, 8, n + 13 + i, rfl, by omega, by omega, by omega, Ti, fun d H4 d0 d1 T4 k4 => ?_⟩
        have lc1 : LowN (base.length - (at_ + 1)) (cutS base (some ((at_ : Int) + 1)) none) := cut_after lb hat
        have lc2 : LowN (base.length - (at_ + 1)) (cutS (cutS base (some ((at_ : Int) + 1)) none) none (some d)) := cut_low lc1
        refine ⟨d, rfl, _, rfl, small_line (by have := lc1.1; have := lb.1; omega), _, k4 _ _ nDa eD, by rw [List.length_map]; exact Nat.lt_of_lt_of_le (show ys.length < 100 by omega) (small_line (by decide)), ys ++ [cutS (cutS base (some ((at_ : Int) + 1)) none) none (some d)], by rw [List.length_append, ly]; rfl, ?_, ?_, ?_, ?_⟩
        · intro y hy
          rcases List.mem_append.mp hy with hy | hy
          · exact lo y hy
          · rw [List.mem_singleton.mp hy]; exact lc2
        · rw [upd_same, List.map_append]; rfl
        · exact (T4.upd nDa nDc).mono (by omega)
        · exact fun x o nx e => by rw [upd_ne (ne_of_none e hD0)]; exact k4 x o nx (ki x o nx e)
      · rintro H' ⟨ys, ly, lo, eD, Ti, ki⟩
        exact ⟨D, ys, by omega, lo, rfl, eD, nDa, Ti.mono (by omega), ki⟩
    rintro σ H10 ⟨pe, zs, lz, lz8, rfl, epe, nea, T10, k10⟩
    refine ⟨_, rfl, (m : Int), rfl, by omega, by omega, fun D nD => ?_⟩
    have nDa : D ≠ a := T10.ne nD
    refine lc_range (lo := 0) (n := (m : Int).toNat) (fun i H' => ∃ ys : List Str, ys.length = i ∧ (∀ y ∈ ys, LowN 8 y ∧ 1 ≤ y.length) ∧ (∀ k, k < i → ∃ y, ys[k]? = some y ∧ (tl y)[at_]? = some (97 + ((fst : Int) + st * (k : Int)).toNat % 26)) ∧ Same H10 H' ∧ H' D = some (.lst (ys.map V.str)))
      ⟨[], rfl, fun y hy => (by cases hy), fun k hk => absurd hk (Nat.not_lt_zero k), same_upd nD, upd_same⟩ ?_ ?_
    · rintro i H' hi ⟨ys, ly, lo, lk, si, eD⟩
      have hv0 : 0 ≤ (fst : Int) + st * (0 + (i : Int)) := Int.add_nonneg (by omega) (Int.mul_nonneg (by omega) (by omega))
      obtain ⟨e1, e2⟩ := fmod_in (a := (fst : Int) + st * (0 + (i : Int))) (b := 26) (by decide)
      have ej : ((fst : Int) + st * (0 + (i : Int))).fmod 26 = ((((fst : Int) + st * (i : Int)).toNat % 26 : Nat) : Int) := by
        rw [Int.zero_add] at hv0 ⊢
        rw [Int.fmod_eq_emod_of_nonneg _ (by decide)]
        omega
      have hc := letter_at (j := ((fst : Int) + st * (i : Int)).toNat % 26) (Nat.mod_lt _ (by decide))
      have hcl : 97 ≤ 97 + ((fst : Int) + st * (i : Int)).toNat % 26 ∧ 97 + ((fst : Int) + st * (i : Int)).toNat % 26 ≤ 122 := by have := Nat.mod_lt ((fst : Int) + st * (i : Int)).toNat (show 0 < 26 by decide); omega
      generalize hch : 97 + ((fst : Int) + st * (i : Int)).toNat % 26 = ch at hc hcl
      have l1 : LowN at_ (cutS base none (some (at_ : Int))) := cut_before lb hat
      have l2 : LowN (at_ + 1) (cutS base none (some (at_ : Int)) ++ ⟨#[ch]⟩) := app_low l1 (one_low hcl)
      have hz : i < zs.length := by omega
      have hb8 := lb.1
      have l3 : LowN 8 (cutS base none (some (at_ : Int)) ++ ⟨#[ch]⟩ ++ zs[i]) := (app_low l2 (lz8 _ (List.getElem_mem hz))).mono (by omega)
      have gz : (zs.map V.str)[i]? = some (.str zs[i]) := by rw [List.getElem?_map, List.getElem?_eq_getElem hz]; rfl
      refine ⟨rfl, _, rfl, _, rfl, (at_ : Int), rfl, base, rfl, small_line (by omega), _, rfl, _, rfl, _, rfl, _, rfl, _, _, rfl, rfl, .inr ⟨by omega, by omega⟩, _, _, rfl, rfl, _, _, rfl, rfl, (by show (26 : Int) ≠ 0; decide), "abcdefghijklmnopqrstuvwxyz", _, ch, rfl, congrArg V.int ej, small_line (by decide), atI_nat hc, _, _, rfl, rfl, small_line (by have := l1.1; show _ + 1 ≤ 100; omega), _, rfl, _, rfl, pe, zs.map V.str, (i : Int), _, rfl, ?_, SqL.of (si _ _ epe), atI_nat gz, _, _, rfl, rfl, ?_, _, eD, ?_, ys ++ [cutS base none (some (at_ : Int)) ++ ⟨#[ch]⟩ ++ zs[i]], ?_, ?_, ?_, ?_, ?_⟩
      · exact congrArg V.int (by omega)
      · have := l2.1
        have := (lz8 _ (List.getElem_mem hz)).1
        exact small_line (by omega)
      · rw [List.length_map]; exact Nat.lt_of_lt_of_le (show ys.length < 100 by omega) (small_line (by decide))
      · rw [List.length_append, ly]; rfl
      · intro y hy
        rcases List.mem_append.mp hy with hy | hy
        · exact lo y hy
        · rw [List.mem_singleton.mp hy]; exact ⟨l3, by rw [Str.length_append, Str.length_append]; show 1 ≤ _ + 1 + _; omega⟩
      · intro k hk
        by_cases e : k = i
        · subst e
          refine ⟨_, by rw [List.getElem?_append_right (by omega), ly, Nat.sub_self]; rfl, ?_⟩
          rw [hch, tl_app, tl_app]
          have la : (tl (cutS base none (some (at_ : Int)))).length = at_ := cut_before_len hat
          rw [List.append_assoc, List.getElem?_append_right (by omega), la, Nat.sub_self]
          rfl
        · obtain ⟨y, h1, h2⟩ := lk k (by omega)
          exact ⟨y, by rw [List.getElem?_append_left (by have := (List.getElem?_eq_some_iff.mp h1).1; exact this)]; exact h1, h2⟩
      · exact fun x o e => by rw [upd_ne (ne_of_none e nD)]; exact si x o e
      · rw [upd_same, List.map_append]; rfl
    · rintro H' ⟨ys, ly, lo, lk, si, eD⟩
      have lm : ys.length = m := by omega
      refine q D ys H' lm lo ?_ eD nDa ((T10.same si).mono (by omega)) (k10.same si)
      rw [List.nodup_iff_pairwise_ne, List.pairwise_iff_getElem]
      intro i j hi hj hij e
      obtain ⟨y1, g1, h1⟩ := lk i (by omega)
      obtain ⟨y2, g2, h2⟩ := lk j (by omega)
      rw [List.getElem?_eq_getElem hi] at g1
      rw [List.getElem?_eq_getElem hj] at g2
      cases g1
      cases g2
      rw [e] at h1
      rw [h1] at h2
      have h3 := Option.some.inj h2
      exact steps_apart hst (f := fst) (i := i) (j := j) (by omega) (by omega) (by omega) (by omega)
end
theorem small100 {n : Nat} (h : n < 100) : n < sizeLine := Nat.lt_of_lt_of_le h (Nat.le_trans (show 100 ≤ 100000 by decide) (by decide))
/-! ### rows of names and bearings, as the law draws them -/
inductive Rws (H : Hp) : List V → List (Str × Int) → Prop
  | nil : Rws H [] []
  | cons {a : Addr} {r : Str × Int} {xs : List V} {rs : List (Str × Int)} : H a = some (.tup [.str r.1, .int r.2]) → Rws H xs rs → Rws H (.ref a :: xs) (r :: rs)
theorem Rws.len {H : Hp} {xs : List V} {rs : List (Str × Int)} (h : Rws H xs rs) : xs.length = rs.length := by
  induction h with
  | nil => rfl
  | cons _ _ ih => rw [List.length_cons, List.length_cons, ih]
theorem Rws.at {H : Hp} {xs : List V} {rs : List (Str × Int)} (h : Rws H xs rs) : ∀ {i : Nat} {y : V}, xs[i]? = some y → ∃ a r, y = .ref a ∧ rs[i]? = some r ∧ H a = some (.tup [.str r.1, .int r.2]) := by
  induction h with
  | nil => intro i y e; cases e
  | cons e _ ih =>
    intro i y z
    cases i with
    | zero => cases z; exact ⟨_, _, rfl, rfl, e⟩
    | succ i => exact ih z
theorem Rws.at2 {H : Hp} {xs : List V} {rs : List (Str × Int)} (h : Rws H xs rs) {i : Nat} (hi : i < rs.length) : ∃ a, xs[i]? = some (.ref a) ∧ H a = some (.tup [.str rs[i].1, .int rs[i].2]) := by
  have hx : i < xs.length := by rw [h.len]; exact hi
  obtain ⟨a, r, e1, e2, e3⟩ := h.at (List.getElem?_eq_getElem hx)
  rw [List.getElem?_eq_getElem hi] at e2
  cases e2
  exact ⟨a, by rw [List.getElem?_eq_getElem hx, e1], e3⟩
theorem Rws.mono {H H' : Hp} {xs : List V} {rs : List (Str × Int)} (h : Rws H xs rs) (s : ∀ a ts, H a = some (.tup ts) → H' a = some (.tup ts)) : Rws H' xs rs := by
  induction h with
  | nil => exact .nil
  | cons e _ ih => exact .cons (s _ _ e) ih
theorem Rws.app {H : Hp} {xs ys : List V} {rs ss : List (Str × Int)} (h : Rws H xs rs) (h2 : Rws H ys ss) : Rws H (xs ++ ys) (rs ++ ss) := by
  induction h with
  | nil => exact h2
  | cons e _ ih => exact .cons e ih
theorem Rws.set {H : Hp} {xs : List V} {rs : List (Str × Int)} (h : Rws H xs rs) {a : Addr} {r : Str × Int} (ha : H a = some (.tup [.str r.1, .int r.2])) : ∀ j, Rws H (xs.set j (.ref a)) (rs.set j r) := by
  induction h with
  | nil => intro j; exact .nil
  | cons e h2 ih =>
    intro j
    cases j with
    | zero => exact .cons ha h2
    | succ j => exact .cons e (ih j)
/-- boats' rows and spans, in a tuple -/
structure PartsAt (H : Hp) (q r s : Addr) (rows : List (Str × Int)) (spans : List Int) : Prop where
  tp : H q = some (.tup [.ref r, .ref s])
  rw : ∃ xs, H r = some (.lst xs) ∧ Rws H xs rows
  sp : H s = some (.lst (spans.map V.int))
theorem PartsAt.same {H H' : Hp} {q r s : Addr} {rows : List (Str × Int)} {spans : List Int} (h : PartsAt H q r s rows spans) (z : Same H H') : PartsAt H' q r s rows spans := by
  obtain ⟨xs, e1, e2⟩ := h.rw
  exact ⟨z _ _ h.tp, ⟨xs, z _ _ e1, e2.mono fun a ts e => z _ _ e⟩, z _ _ h.sp⟩
theorem PartsAt.keep {H H' : Hp} {T q r s : Addr} {rows : List (Str × Int)} {spans : List Int} {ys : List V} (h : PartsAt H q r s rows spans) (hT : H T = some (.lst ys)) (k : Keep T H H') (n1 : r ≠ T) (n2 : s ≠ T) : PartsAt H' q r s rows spans := by
  obtain ⟨xs, e1, e2⟩ := h.rw
  exact ⟨k _ _ (ne_of h.tp hT (by intro z; cases z)) h.tp, ⟨xs, k _ _ n1 e1, e2.mono fun a ts e => k _ _ (ne_of e hT (by intro z; cases z)) e⟩, k _ _ n2 h.sp⟩
theorem ixN_nat {n j : Nat} (h : j < n) : ixN n (j : Int) = some j := by
  unfold ixN
  rw [if_pos (by omega), if_pos (by omega)]
  simp
def Bear (b : Int) : Prop := 1 ≤ b ∧ b ≤ 1000000
theorem pickI {xs : List Int} {lo hi : Int} (h : ∀ z ∈ xs, lo ≤ z ∧ z ≤ hi) {j : Nat} {x : V} (e : (xs.map V.int)[j]? = some x) : ∃ z : Int, x = .int z ∧ lo ≤ z ∧ z ≤ hi := by
  rw [List.getElem?_map] at e
  cases e2 : xs[j]? with
  | none => rw [e2] at e; cases e
  | some z => rw [e2] at e; cases e; exact ⟨z, rfl, h z (List.mem_of_getElem? e2)⟩
theorem zip_fst {zs : List Str} {bs : List Int} (h : zs.length ≤ bs.length) : (zs.zip bs).map Prod.fst = zs := by
  rw [List.map_fst_zip]; exact h
def spBRows : Sp := fun vs H Q _ => ∃ (T c np : Addr) (zs : List Str) (n : Nat), vs = [.ref T, .ref np] ∧ H np = some (.lst (zs.map V.str)) ∧ np ≠ T ∧ 1 ≤ zs.length ∧ zs.length ≤ 10 ∧ n < 900000 ∧ Tape H T c n ∧
  ∀ (r : Addr) (xs : List V) (rows : List (Str × Int)) H', rows.map Prod.fst = zs → (∀ x ∈ rows, Bear x.2) → H' r = some (.lst xs) → Rws H' xs rows → r ≠ T → H r = none → Tape H' T c (n + 30) → Keep T H H' → Q (.ref r) H'
def spSRow : Sp := fun vs H Q _ => ∃ (T c : Addr) (m n : Nat), vs = [.ref T, .int (m : Int)] ∧ m ≤ 100 ∧ n < 900000 ∧ Tape H T c n ∧
  ∀ (s : Addr) (spans : List Int) H', spans.length = m → (∀ z ∈ spans, Bear z) → H' s = some (.lst (spans.map V.int)) → s ≠ T → H s = none → Tape H' T c (n + 1 + m) → Keep T H H' → Q (.ref s) H'
def spDParts : Sp := fun vs H Q _ => ∃ (T c : Addr) (n : Nat), vs = [.ref T] ∧ n < 800000 ∧ Tape H T c n ∧
  ∀ (q r s : Addr) (rows : List (Str × Int)) (spans : List Int) H', Good rows spans → (∀ x ∈ rows, Bear x.2) → (∀ x ∈ rows, LowN 8 x.1 ∧ 1 ≤ x.1.length) → PartsAt H' q r s rows spans → r ≠ T → s ≠ T → Tape H' T c (n + 100) → Keep T H H' → Q (.ref q) H'
def spMade (C CB : Addr) : Sp := fun vs H Q _ => ∃ (q r s : Addr) (rows : List (Str × Int)) (spans : List Int), vs = [.ref q] ∧ PartsAt H q r s rows spans ∧ Good rows spans ∧ ∀ p bl sl H', H bl = none → H sl = none → Same H H' → BrAt C CB H' p bl sl rows spans → Q (.ref p) H'
structure TxtP (mg : Str → Option Value) : Prop where
  mlen : mg "len" = none
  mrange : mg "range" = none
  mlist : mg "list" = none
  misinstance : mg "isinstance" = none
  mint : mg "int" = none
  mbool : mg "bool" = none
  mstr : mg "str" = none
section
variable {P : Program} {w : World} {K : PySem.W.Frag} {mg : Str → Option Value} {base : Heap} {C CB : Addr}
theorem ok_brows {f fD fP : Addr} {fd fdD fdP : FuncData} {k : Nat} (F : Fun K "_law_boat_rows" "_law_boat_rows" sBRows f fd) (T0 : Txt0 mg) (T : TxtP mg)
    (F_law_draw : Fun K "_law_draw" "_law_draw" sDraw fD fdD) (g_law_draw : mg "_law_draw" = some (.ref fD)) (b_law_draw : Binds K fdD ["_law_tape_here", "_law_many"] [])
    (F_law_pick : Fun K "_law_pick" "_law_pick" sPick fP fdP) (g_law_pick : mg "_law_pick" = some (.ref fP)) (b_law_pick : Binds K fdP ["_law_tape_here", "_law_some"] []) :
    FnOk P w K mg base CX0 (k + 3) f fd ["_law_tape_here", "_law_names_here"] spBRows := by
  have G_law_draw : FnOk P w K mg base CX0 (k + 2) fD fdD ["_law_tape_here", "_law_many"] spDraw := ok_draw F_law_draw T0
  have G_law_pick : FnOk P w K mg base CX0 (k + 2) fP fdP ["_law_tape_here", "_law_some"] spPick := ok_pick F_law_pick T0 F_law_draw g_law_draw b_law_draw
  refine F.ok scBRows (fun vs H Q E h => ?_) (fun cdv A outer s H vs Q E hr h => ?_)
  · obtain ⟨a, c, np, zs, n, rfl, _⟩ := h
    rfl
  · obtain ⟨a, c, np, zs, n, rfl, hnp, nna, hz1, hz10, hn, hT, q⟩ := h
    have hr_law_draw := hr
    have hr_law_pick := hr
    refine ⟨_,
      (pss_cons (ps_set (i := 2) scBRows.nd rfl (.inr rfl) (pe_call G_law_pick hr_law_pick (by rfl) g_law_pick F_law_pick.kp b_law_pick .nil pass0 (pa_cons (pv 0) (pa_cons (pe_lst (pa_cons pe_int (pa_cons pe_int (pa_cons pe_int (pa_cons (pe_op op_pow pe_int pe_int) pa_nil))))) pa_nil))))
      (pss_cut (ps_set (i := 3) scBRows.nd rfl (.inr rfl) (pe_lc (own := [("_law_who", 4)]) (g := gName 4) (tt := tYes) rfl scBRows.nd (pi_list (pv 1)) (blkOk_by (N := NBRows) (own := [("_law_who", 4)]) (sc := defScope sBRows) (by decide +kernel)) (fun _ _ _ _ _ => pg_name (i := 4) scBRows.nd rfl (Or.inl rfl)) (fun _ _ _ _ _ => pts_nil) (fun _ _ _ _ _ => (pe_tup (pa_cons (pv 4) (pa_cons (pe_op op_add pe_int (pe_call G_law_draw hr_law_draw (by rfl) g_law_draw F_law_draw.kp b_law_draw .nil pass0 (pa_cons (pv 0) (pa_cons (pv 2) pa_nil)))) pa_nil))))))
      (pss_cut (ps_if (pt_cmpR op_eq (pe_call G_law_draw hr_law_draw (by rfl) g_law_draw F_law_draw.kp b_law_draw .nil pass0 (pa_cons (pv 0) (pa_cons pe_int pa_nil))) pe_int (nomark _))
      (pss_cut (ps_asg (pe_tup (pa_cons (pe_ix ix_list (pv 1) pe_int (fun _ _ => rfl)) (pa_cons (pe_op op_pow pe_int pe_int) pa_nil))) (pg_sub (pv 3) (pe_call G_law_draw hr_law_draw (by rfl) g_law_draw F_law_draw.kp b_law_draw .nil pass0 (pa_cons (pv 0) (pa_cons (pe_callB call_len_seq (by rfl) T.mlen PySem.boot_len (pa_cons (pv 3) pa_nil)) pa_nil))) set_list))
      (pss_one (ps_set (i := 3) scBRows.nd rfl (.inr rfl) (pe_lc (own := [("_law_k", 5)]) (g := gName 5) (tt := tYes) rfl scBRows.nd (pi_range1 (by rfl) T.mrange (pa_cons (pe_callB call_len_seq (by rfl) T.mlen PySem.boot_len (pa_cons (pv 1) pa_nil)) pa_nil)) (blkOk_by (N := NBRows) (own := [("_law_k", 5)]) (sc := defScope sBRows) (by decide +kernel)) (fun _ _ _ _ _ => pg_name (i := 5) scBRows.nd rfl (Or.inl rfl)) (fun _ _ _ _ _ => pts_nil) (fun _ _ _ _ _ => (pe_tup (pa_cons (pe_ix (r := rIxL K) ix_list (pv 1) (pv 5) (fun _ _ => rfl)) (pa_cons (pe_ix (r := rIxT K) ix_tup (pe_ix (r := rIxL K) ix_list (pv 3) (pv 5) (fun _ _ => rfl)) pe_int (fun _ _ => rfl)) pa_nil))))))))
      pss_nil)
      (pss_one (ps_ret (pv 3))))))
      , ?_⟩
    refine ⟨_, rfl, _, _, rfl, rfl, ⟨by decide, by decide, by decide⟩, by show 4 ≤ sizeLine; decide, fun l hl => ?_⟩
    refine ⟨a, c, l, _, n, rfl, upd_same, hT.ne hl, by show 0 < 4; decide, by show 4 < 1000000; decide, by omega, hT.new hl, fun j x H1 hx T1 k1 => ?_⟩
    obtain ⟨most, rfl, hm0, hm1⟩ := pickI (xs := [3, 20, 1000, 1000000]) (lo := 3) (hi := 1000000) (by simp) hx
    have k01 : Keep a H H1 := (Keep.refl.new hl).trans k1
    have hnp1 := k01 _ _ nna hnp
    -- found
    refine ⟨fun σ H2 => ∃ (fp : Addr) (xs : List V) (rows : List (Str × Int)), σ = [some (.ref a), some (.ref np), some (.int most), some (.ref fp), none, none] ∧ H2 fp = some (.lst xs) ∧ Rws H2 xs rows ∧ rows.map Prod.fst = zs ∧ (∀ x ∈ rows, Bear x.2) ∧ H fp = none ∧ fp ≠ a ∧ fp ≠ c ∧ Tape H2 a c (n + 11) ∧ Keep a H H2, ?_, ?_⟩
    · refine ⟨_, rfl, np, rfl, ⟨_, SqL.of hnp1⟩, fun D hD => ?_⟩
      have nDa : D ≠ a := T1.ne hD
      have nDc : D ≠ c := T1.nec hD
      have hD0 : H D = none := by
        cases e : H D with
        | none => rfl
        | some o => have := k01 D o nDa e; rw [hD] at this; cases this
      have nnD : np ≠ D := ne_of_none hnp1 hD
      refine lc_list (K := K) (a := np) (xs := zs.map V.str) (fun i H' => ∃ (xs : List V) (rows : List (Str × Int)), H' D = some (.lst xs) ∧ Rws H' xs rows ∧ rows.map Prod.fst = zs.take i ∧ (∀ x ∈ rows, Bear x.2) ∧ H' np = some (.lst (zs.map V.str)) ∧ Tape H' a c (n + 1 + i) ∧ Keep a H H')
        ⟨[], [], upd_same, .nil, rfl, fun x hx => (by cases hx), upd_at hD hnp1, T1.new hD, k01.new hD⟩ (fun i H' _ ⟨_, _, _, _, _, _, z, _⟩ => SqL.of z) ?_ ?_
      · rintro i y H' hy ⟨xs, rows, eD, hrw, hfst, hbe, hnp', Ti, ki⟩
        rw [List.getElem?_map] at hy
        cases hx : zs[i]? with
        | none => rw [hx] at hy; cases hy
        | some z =>
          rw [hx] at hy
          cases hy
          have hi : i < zs.length := (List.getElem?_eq_some_iff.mp hx).1
          refine ⟨rfl, _, rfl, _, rfl, _, rfl, a, c, most, n + 1 + i, rfl, by omega, by omega, by omega, Ti, fun d H3 d0 d1 T3 k3 => ⟨_, _, rfl, rfl, by show 2 ≤ sizeLine; decide, fun t ht => ?_⟩⟩
          obtain ⟨_, _, _, hTa, _⟩ := Ti.ex
          have eD3 := k3 _ _ nDa eD
          have ntD : t ≠ D := (ne_of_none eD3 ht).symm
          have lxs : xs.length = i := by rw [hrw.len, ← List.length_map (f := Prod.fst), hfst, List.length_take]; omega
          refine ⟨xs, upd_at ht eD3, small100 (by omega), xs ++ [.ref t], rows ++ [(z, 1 + d)], upd_same, ?_, ?_, ?_, ?_, ?_, ?_⟩
          · have h3 : Rws (upd (upd H3 t (.tup [.str z, .int (1 + d)])) D (.lst (xs ++ [.ref t]))) xs rows := hrw.mono fun b ts e => by
              rw [upd_ne (ne_of e eD (by intro z; cases z))]
              exact upd_at ht (k3 _ _ (ne_of e hTa (by intro z; cases z)) e)
            exact h3.app (.cons (by rw [upd_ne ntD]; exact upd_same) .nil)
          · rw [List.map_append, hfst, List.take_succ, hx]; rfl
          · intro x hx
            rcases List.mem_append.mp hx with hx | hx
            · exact hbe x hx
            · rw [List.mem_singleton.mp hx]; exact ⟨by show 1 ≤ 1 + d; omega, by show 1 + d ≤ 1000000; omega⟩
          · rw [upd_ne nnD]; exact upd_at ht (k3 _ _ nna hnp')
          · exact ((T3.new ht).upd nDa nDc).mono (by omega)
          · exact fun x o nx e => by rw [upd_ne (ne_of_none e hD0)]; exact upd_at ht (k3 x o nx (ki x o nx e))
      · rintro H' ⟨xs, rows, eD, hrw, hfst, hbe, hnp', Ti, ki⟩
        rw [List.length_map, List.take_length] at hfst
        rw [List.length_map] at Ti
        exact ⟨D, xs, rows, rfl, eD, hrw, hfst, hbe, hD0, nDa, nDc, Ti.mono (by omega), ki⟩
    rintro σ H2 ⟨fp, xs, rows, rfl, ef, hrw, hfst, hbe, hf0, nfa, nfc, T2, k2⟩
    have lr : rows.length = zs.length := by rw [← hfst, List.length_map]
    have lx := hrw.len
    have hnp2 := k2 _ _ nna hnp
    have nnf : np ≠ fp := ne_of_none hnp hf0
    refine ⟨fun σ H3 => ∃ (fp : Addr) (xs : List V) (rows : List (Str × Int)) (w5 : Option V), σ = [some (.ref a), some (.ref np), some (.int most), some (.ref fp), none, w5] ∧ H3 fp = some (.lst xs) ∧ Rws H3 xs rows ∧ rows.map Prod.fst = zs ∧ (∀ x ∈ rows, Bear x.2) ∧ H fp = none ∧ fp ≠ a ∧ Tape H3 a c (n + 20) ∧ Keep a H H3, ?_, ?_⟩
    · refine ⟨_, rfl, a, c, 6, n + 11, rfl, by omega, by omega, by omega, T2, fun d6 H3 _ _ T3 k3 => ⟨rfl, _, rfl, ite2 (fun _ => ?_) (fun _ => ?_)⟩⟩
      · obtain ⟨_, _, _, hTa, _⟩ := T2.ex
        have hnp3 := k3 _ _ nna hnp2
        have ef3 := k3 _ _ nfa ef
        have hrw3 : Rws H3 xs rows := hrw.mono fun b ts e => k3 _ _ (ne_of e hTa (by intro z; cases z)) e
        have g0 : (zs.map V.str)[0]? = some (.str zs[0]) := by rw [List.getElem?_map, List.getElem?_eq_getElem (show 0 < zs.length by omega)]; rfl
        -- found[..] = (names[0], 10 ** 6)
        refine ⟨fun σ H4 => ∃ (xs' : List V) (rows' : List (Str × Int)), σ = [some (.ref a), some (.ref np), some (.int most), some (.ref fp), none, none] ∧ H4 fp = some (.lst xs') ∧ Rws H4 xs' rows' ∧ rows'.length = rows.length ∧ (∀ x ∈ rows', Bear x.2) ∧ H4 np = some (.lst (zs.map V.str)) ∧ Tape H4 a c (n + 13) ∧ Keep a H H4, ?_, ?_⟩
        · refine ⟨_, rfl, np, _, 0, _, rfl, rfl, SqL.of hnp3, atI_nat g0, _, _, rfl, rfl, ⟨by decide, by decide, by decide⟩, by show 2 ≤ sizeLine; decide, fun t ht => ?_⟩
          have ef4 := upd_at (o := .tup [.str zs[0], .int (10 ^ (6 : Int).toNat)]) ht ef3
          refine ⟨_, rfl, _, rfl, _, rfl, fp, xs, rfl, .inl (SqL.of ef4), a, c, (xs.length : Nat), n + 12, rfl, by omega, by omega, by omega, T3.new ht, fun d H5 d0 d1 T5 k5 => ?_⟩
          obtain ⟨jn, rfl⟩ := Int.eq_ofNat_of_zero_le d0
          have ef5 := k5 _ _ nfa ef4
          have hjl : jn < xs.length := by omega
          have nta : t ≠ a := T3.ne ht
          have ht5 := k5 _ _ nta (upd_same (H := H3) (a := t) (o := .tup [.str zs[0], .int (10 ^ (6 : Int).toNat)]))
          refine ⟨fp, xs, (jn : Int), jn, rfl, rfl, ef5, ixN_nat hjl, xs.set jn (.ref t), rows.set jn (zs[0], 1000000), rfl, upd_same, ?_, List.length_set .., ?_, ?_, ?_, ?_⟩
          · have h6 : Rws (upd H5 fp (.lst (xs.set jn (.ref t)))) xs rows := hrw3.mono fun b ts e => by
              rw [upd_ne (ne_of e ef3 (by intro z; cases z))]
              exact k5 _ _ (ne_of (upd_at ht e) (T3.new (o := .tup [.str zs[0], .int (10 ^ (6 : Int).toNat)]) ht).ex.choose_spec.choose_spec.choose_spec.1 (by intro z; cases z)) (upd_at ht e)
            exact h6.set (r := (zs[0], 1000000)) (by rw [upd_ne (ne_of ht5 ef5 (by intro z; cases z))]; exact ht5) jn
          · intro x hx
            rcases List.mem_or_eq_of_mem_set hx with hx | hx
            · exact hbe x hx
            · rw [hx]; exact ⟨show (1 : Int) ≤ 1000000 by decide, show (1000000 : Int) ≤ 1000000 by decide⟩
          · rw [upd_ne nnf]; exact k5 _ _ nna (upd_at ht hnp3)
          · exact (T5.upd nfa nfc).mono (by omega)
          · exact fun x o nx e => by rw [upd_ne (ne_of_none e hf0)]; exact k5 x o nx (upd_at ht (k3 x o nx (k2 x o nx e)))
        rintro σ H4 ⟨xs', rows', rfl, ef4, hrw4, lr4, hbe4, hnp4, T4, k4⟩
        refine ⟨_, rfl, np, _, rfl, .inl (SqL.of hnp4), _, rfl, by rw [List.length_map]; omega, by rw [List.length_map]; omega, fun D hD => ?_⟩
        have nDa : D ≠ a := T4.ne hD
        have hD0 : H D = none := by
          cases e : H D with
          | none => rfl
          | some o => have := k4 D o nDa e; rw [hD] at this; cases this
        refine lc_range (lo := 0) (n := (((zs.map V.str).length : Nat) : Int).toNat) (fun i H' => ∃ (ys : List V) (rs : List (Str × Int)), H' D = some (.lst ys) ∧ Rws H' ys rs ∧ rs.map Prod.fst = zs.take i ∧ (∀ x ∈ rs, Bear x.2) ∧ Same H4 H')
          ⟨[], [], upd_same, .nil, rfl, fun x hx => (by cases hx), same_upd hD⟩ ?_ ?_
        · rintro i H' hi ⟨ys, rs, eD, hys, hfs, hbr, si⟩
          have hi2 : i < zs.length := by rw [List.length_map] at hi; omega
          have gz : (zs.map V.str)[i]? = some (.str zs[i]) := by rw [List.getElem?_map, List.getElem?_eq_getElem hi2]; rfl
          have hi3 : i < rows'.length := by omega
          obtain ⟨b, gb, hb⟩ := hrw4.at2 hi3
          have lys : ys.length = i := by rw [hys.len, ← List.length_map (f := Prod.fst), hfs, List.length_take]; omega
          refine ⟨rfl, _, rfl, _, rfl, np, _, (i : Int), _, rfl, congrArg V.int (by omega), SqL.of (si _ _ hnp4), atI_nat gz, _, rfl, _, rfl, fp, _, (i : Int), _, rfl, congrArg V.int (by omega), SqL.of (si _ _ ef4), atI_nat gb, b, _, 1, _, rfl, rfl, SqT.of (si _ _ hb), atI_nat (j := 1) rfl, by show 2 ≤ sizeLine; decide, fun t ht => ?_⟩
          have eD' := upd_at (o := .tup [.str zs[i], .int rows'[i].2]) ht eD
          have ntD : t ≠ D := (ne_of_none eD ht).symm
          refine ⟨ys, eD', small100 (by omega), ys ++ [.ref t], rs ++ [(zs[i], rows'[i].2)], upd_same, ?_, ?_, ?_, ?_⟩
          · have h3 : Rws (upd (upd H' t (.tup [.str zs[i], .int rows'[i].2])) D (.lst (ys ++ [.ref t]))) ys rs := hys.mono fun b ts e => by
              rw [upd_ne (ne_of e eD (by intro z; cases z))]
              exact upd_at ht e
            exact h3.app (.cons (by rw [upd_ne ntD]; exact upd_same) .nil)
          · rw [List.map_append, hfs, List.take_succ, List.getElem?_eq_getElem hi2]; rfl
          · intro x hx
            rcases List.mem_append.mp hx with hx | hx
            · exact hbr x hx
            · rw [List.mem_singleton.mp hx]; show Bear rows'[i].2; exact hbe4 _ (List.getElem_mem hi3)
          · exact fun x o e => by rw [upd_ne (ne_of_none e hD)]; exact upd_at ht (si _ _ e)
        · rintro H' ⟨ys, rs, eD, hys, hfs, hbr, si⟩
          have en : (((zs.map V.str).length : Nat) : Int).toNat = zs.length := by rw [List.length_map]; omega
          rw [en, List.take_length] at hfs
          exact ⟨D, ys, rs, none, rfl, eD, hys, hfs, hbr, hD0, nDa, (T4.same si).mono (by omega), k4.same si⟩
      · obtain ⟨_, _, _, hTa, _⟩ := T2.ex
        exact ⟨fp, xs, rows, none, rfl, k3 _ _ nfa ef, hrw.mono fun b ts e => k3 _ _ (ne_of e hTa (by intro z; cases z)) e, hfst, hbe, hf0, nfa, T3.mono (by omega), k2.trans k3⟩
    rintro σ H3 ⟨fp, xs, rows, w5, rfl, ef, hrw, hfst, hbe, hf0, nfa, T3, k3⟩
    exact ⟨_, rfl, q fp xs rows H3 hfst hbe ef hrw nfa hf0 (T3.mono (by omega)) k3⟩
theorem ok_srow {f fD fP : Addr} {fd fdD fdP : FuncData} {k : Nat} (F : Fun K "_law_span_row" "_law_span_row" sSRow f fd) (T0 : Txt0 mg) (T : TxtP mg)
    (F_law_draw : Fun K "_law_draw" "_law_draw" sDraw fD fdD) (g_law_draw : mg "_law_draw" = some (.ref fD)) (b_law_draw : Binds K fdD ["_law_tape_here", "_law_many"] [])
    (F_law_pick : Fun K "_law_pick" "_law_pick" sPick fP fdP) (g_law_pick : mg "_law_pick" = some (.ref fP)) (b_law_pick : Binds K fdP ["_law_tape_here", "_law_some"] []) :
    FnOk P w K mg base CX0 (k + 3) f fd ["_law_tape_here", "_law_many"] spSRow := by
  have G_law_draw : FnOk P w K mg base CX0 (k + 2) fD fdD ["_law_tape_here", "_law_many"] spDraw := ok_draw F_law_draw T0
  have G_law_pick : FnOk P w K mg base CX0 (k + 2) fP fdP ["_law_tape_here", "_law_some"] spPick := ok_pick F_law_pick T0 F_law_draw g_law_draw b_law_draw
  refine F.ok scSRow (fun vs H Q E h => ?_) (fun cdv A outer s H vs Q E hr h => ?_)
  · obtain ⟨a, c, m, n, rfl, _⟩ := h
    rfl
  · obtain ⟨a, c, m, n, rfl, hm, hn, hT, q⟩ := h
    have hr_law_draw := hr
    have hr_law_pick := hr
    refine ⟨_,
      (pss_cons (ps_set (i := 2) scSRow.nd rfl (.inr rfl) (pe_call G_law_pick hr_law_pick (by rfl) g_law_pick F_law_pick.kp b_law_pick .nil pass0 (pa_cons (pv 0) (pa_cons (pe_lst (pa_cons pe_int (pa_cons pe_int (pa_cons pe_int (pa_cons (pe_op op_pow pe_int pe_int) pa_nil))))) pa_nil))))
      (pss_one (ps_ret (pe_lc (own := [("_law_k", 3)]) (g := gName 3) (tt := tYes) rfl scSRow.nd (pi_range1 (by rfl) T.mrange (pa_cons (pv 1) pa_nil)) (blkOk_by (N := NSRow) (own := [("_law_k", 3)]) (sc := defScope sSRow) (by decide +kernel)) (fun _ _ _ _ _ => pg_name (i := 3) scSRow.nd rfl (Or.inl rfl)) (fun _ _ _ _ _ => pts_nil) (fun _ _ _ _ _ => (pe_op op_add pe_int (pe_call G_law_draw hr_law_draw (by rfl) g_law_draw F_law_draw.kp b_law_draw .nil pass0 (pa_cons (pv 0) (pa_cons (pv 2) pa_nil)))))))))
      , ?_⟩
    refine ⟨_, rfl, _, _, rfl, rfl, ⟨by decide, by decide, by decide⟩, by show 4 ≤ sizeLine; decide, fun l hl => ?_⟩
    refine ⟨a, c, l, _, n, rfl, upd_same, hT.ne hl, by show 0 < 4; decide, by show 4 < 1000000; decide, by omega, hT.new hl, fun j x H1 hx T1 k1 => ?_⟩
    obtain ⟨most, rfl, hm0, hm1⟩ := pickI (xs := [3, 20, 1000, 1000000]) (lo := 3) (hi := 1000000) (by simp) hx
    have k01 : Keep a H H1 := (Keep.refl.new hl).trans k1
    refine ⟨_, rfl, (m : Int), rfl, by omega, by omega, fun D hD => ?_⟩
    have nDa : D ≠ a := T1.ne hD
    have nDc : D ≠ c := T1.nec hD
    have hD0 : H D = none := by
      cases e : H D with
      | none => rfl
      | some o => have := k01 D o nDa e; rw [hD] at this; cases this
    refine lc_range (lo := 0) (n := (m : Int).toNat) (fun i H' => ∃ ns : List Int, H' D = some (.lst (ns.map V.int)) ∧ ns.length = i ∧ (∀ z ∈ ns, Bear z) ∧ Tape H' a c (n + 1 + i) ∧ Keep a H H')
      ⟨[], upd_same, rfl, fun x hx => (by cases hx), T1.new hD, k01.new hD⟩ ?_ ?_
    · rintro i H' hi ⟨ns, eD, ln, hb, Ti, ki⟩
      refine ⟨rfl, _, rfl, _, rfl, a, c, most, n + 1 + i, rfl, by omega, by omega, by omega, Ti, fun d H3 d0 d1 T3 k3 => ?_⟩
      refine ⟨_, _, rfl, rfl, _, k3 _ _ nDa eD, by rw [List.length_map]; exact Nat.lt_of_lt_of_le (show ns.length < 1000 by omega) (Nat.le_trans (show 1000 ≤ 100000 by decide) (by decide)), ns ++ [1 + d], by rw [upd_same, List.map_append]; rfl, by rw [List.length_append, ln]; rfl, ?_, (T3.upd nDa nDc).mono (by omega), fun x o nx e => by rw [upd_ne (ne_of_none e hD0)]; exact k3 x o nx (ki x o nx e)⟩
      intro x hx
      rcases List.mem_append.mp hx with hx | hx
      · exact hb x hx
      · rw [List.mem_singleton.mp hx]; exact ⟨by omega, by omega⟩
    · rintro H' ⟨ns, eD, ln, hb, Ti, ki⟩
      exact q D ns H' (by omega) hb eD nDa hD0 (Ti.mono (by omega)) ki
theorem ok_dparts {f fD fP fN fB fS : Addr} {fd fdD fdP fdN fdB fdS : FuncData} {k : Nat} (F : Fun K "_law_drawn_parts" "_law_drawn_parts" sDParts f fd) (T0 : Txt0 mg) (TN : TxtN mg) (T : TxtP mg)
    (F_law_draw : Fun K "_law_draw" "_law_draw" sDraw fD fdD) (g_law_draw : mg "_law_draw" = some (.ref fD)) (b_law_draw : Binds K fdD ["_law_tape_here", "_law_many"] [])
    (F_law_pick : Fun K "_law_pick" "_law_pick" sPick fP fdP) (g_law_pick : mg "_law_pick" = some (.ref fP)) (b_law_pick : Binds K fdP ["_law_tape_here", "_law_some"] [])
    (F_law_names : Fun K "_law_names" "_law_names" sNames fN fdN) (g_law_names : mg "_law_names" = some (.ref fN)) (b_law_names : Binds K fdN ["_law_tape_here", "_law_many"] [])
    (F_law_boat_rows : Fun K "_law_boat_rows" "_law_boat_rows" sBRows fB fdB) (g_law_boat_rows : mg "_law_boat_rows" = some (.ref fB)) (b_law_boat_rows : Binds K fdB ["_law_tape_here", "_law_names_here"] [])
    (F_law_span_row : Fun K "_law_span_row" "_law_span_row" sSRow fS fdS) (g_law_span_row : mg "_law_span_row" = some (.ref fS)) (b_law_span_row : Binds K fdS ["_law_tape_here", "_law_many"] []) :
    FnOk P w K mg base CX0 (k + 4) f fd ["_law_tape_here"] spDParts := by
  have G_law_draw : FnOk P w K mg base CX0 (k + 3) fD fdD ["_law_tape_here", "_law_many"] spDraw := ok_draw F_law_draw T0
  have G_law_pick : FnOk P w K mg base CX0 (k + 3) fP fdP ["_law_tape_here", "_law_some"] spPick := ok_pick F_law_pick T0 F_law_draw g_law_draw b_law_draw
  have G_law_names : FnOk P w K mg base CX0 (k + 3) fN fdN ["_law_tape_here", "_law_many"] spNames := ok_names F_law_names T0 TN F_law_draw g_law_draw b_law_draw
  have G_law_boat_rows : FnOk P w K mg base CX0 (k + 3) fB fdB ["_law_tape_here", "_law_names_here"] spBRows := ok_brows F_law_boat_rows T0 T F_law_draw g_law_draw b_law_draw F_law_pick g_law_pick b_law_pick
  have G_law_span_row : FnOk P w K mg base CX0 (k + 3) fS fdS ["_law_tape_here", "_law_many"] spSRow := ok_srow F_law_span_row T0 T F_law_draw g_law_draw b_law_draw F_law_pick g_law_pick b_law_pick
  refine F.ok scDParts (fun vs H Q E h => ?_) (fun cdv A outer s H vs Q E hr h => ?_)
  · obtain ⟨a, c, n, rfl, _⟩ := h
    rfl
  · obtain ⟨a, c, n, rfl, hn, hT, q⟩ := h
    have hr_law_draw := hr
    have hr_law_pick := hr
    have hr_law_names := hr
    have hr_law_boat_rows := hr
    have hr_law_span_row := hr
    refine ⟨_,
      (pss_cons (ps_set (i := 1) scDParts.nd rfl (.inl rfl) (pe_call G_law_pick hr_law_pick (by rfl) g_law_pick F_law_pick.kp b_law_pick .nil pass0 (pa_cons (pv 0) (pa_cons (pe_lst (pa_cons pe_int (pa_cons pe_int (pa_cons pe_int (pa_cons (pe_op op_add pe_int (pe_call G_law_draw hr_law_draw (by rfl) g_law_draw F_law_draw.kp b_law_draw .nil pass0 (pa_cons (pv 0) (pa_cons pe_int pa_nil)))) (pa_cons pe_int pa_nil)))))) pa_nil))))
      (pss_one (ps_ret (pe_tup (pa_cons (pe_call G_law_boat_rows hr_law_boat_rows (by rfl) g_law_boat_rows F_law_boat_rows.kp b_law_boat_rows .nil pass0 (pa_cons (pv 0) (pa_cons (pe_call G_law_names hr_law_names (by rfl) g_law_names F_law_names.kp b_law_names .nil pass0 (pa_cons (pv 0) (pa_cons (pv 1) pa_nil))) pa_nil))) (pa_cons (pe_call G_law_span_row hr_law_span_row (by rfl) g_law_span_row F_law_span_row.kp b_law_span_row .nil pass0 (pa_cons (pv 0) (pa_cons (pe_op op_add (pv 1) pe_int) pa_nil))) pa_nil))))))
      , ?_⟩
    refine ⟨_, rfl, _, rfl, a, c, 10, n, rfl, by omega, by omega, by omega, hT, fun d H1 d0 d1 T1 k1 => ⟨_, _, rfl, rfl, by show 5 ≤ sizeLine; decide, fun l hl => ?_⟩⟩
    refine ⟨a, c, l, _, n + 1, rfl, upd_same, T1.ne hl, by show 0 < 5; decide, by show 5 < 1000000; decide, by omega, T1.new hl, fun j x H2 hx T2 k2 => ?_⟩
    obtain ⟨mi, rfl, hm0, hm1⟩ := pickI (xs := [1, 2, 3, 1 + d, 10]) (lo := 1) (hi := 10) (by simp; omega) hx
    obtain ⟨m, rfl⟩ := Int.eq_ofNat_of_zero_le (show 0 ≤ mi by omega)
    have k02 : Keep a H H2 := (k1.new hl).trans k2
    refine ⟨_, rfl, _, rfl, _, rfl, a, c, m, n + 2, rfl, by omega, by omega, by omega, T2, fun np zs H3 lz hz8 hnd enp npa T3 k3 => ?_⟩
    refine ⟨a, c, np, zs, n + 42, rfl, enp, npa, by omega, by omega, by omega, T3, fun r xs rows H4 hfst hbe er hrw nra hr0 T4 k4 => ?_⟩
    refine ⟨_, rfl, _, rfl, _, _, rfl, rfl, a, c, m + 1, n + 72, rfl, by omega, by omega, T4, fun s spans H5 lsp hsp es nsa hs0 T5 k5 => ⟨by show 2 ≤ sizeLine; decide, fun t ht => ?_⟩⟩
    obtain ⟨_, _, _, hTa, _⟩ := T4.ex
    have lrows : rows.length = m := by rw [← lz, ← hfst, List.length_map]
    refine q t r s rows spans _ ⟨by omega, by omega, by rw [hfst]; exact hnd, by omega, hsp⟩ hbe (fun x hx => hz8 _ (by rw [← hfst]; exact List.mem_map_of_mem hx)) ⟨upd_same, ⟨xs, upd_at ht (k5 _ _ nra er), hrw.mono fun b ts e => upd_at ht (k5 _ _ (ne_of e hTa (by intro z; cases z)) e)⟩, upd_at ht es⟩ nra nsa ((T5.new ht).mono (by omega)) ((((k02.trans k3).trans k4).trans k5).new ht)
theorem ok_made {f fI fR fB fS fW : Addr} {fd fdI fdR fdB fdS fdW : FuncData} {k : Nat} (F : Fun K "_law_made" "_law_made" sMade f fd) (TB0 : TxtB mg) (TB : BCl K mg C) (TC : BrCl K mg CB) (T : TxtP mg)
    (MBoat : Mk K C fI) (FI : Fun K "__init__" "Boat.__init__" sBInit fI fdI) (bBoat : Binds K fdI ["self", "name", "bears"] [])
    (MBridge : Mk K CB fR) (FR : Fun K "__init__" "Bridge.__init__" sBrInit fR fdR) (bBridge : Binds K fdR ["self", "boats", "spans"] [])
    (F_are_boats : Fun K "_are_boats" "_are_boats" sAreB fB fdB) (g_are_boats : mg "_are_boats" = some (.ref fB)) (b_are_boats : Binds K fdB ["thing"] [])
    (F_are_spans : Fun K "_are_spans" "_are_spans" sAreS fS fdS) (g_are_spans : mg "_are_spans" = some (.ref fS)) (b_are_spans : Binds K fdS ["thing"] [])
    (Fis_whole : Fun K "is_whole" "is_whole" sIsW fW fdW) (gis_whole : mg "is_whole" = some (.ref fW)) (bis_whole : Binds K fdW ["thing", "least", "most"] []) :
    FnOk P w K mg base CX0 (k + 5) f fd ["_law_parts"] (spMade C CB) := by
  have GBoat : FnOk P w K mg base CX0 (k + 1) fI fdI ["self", "name", "bears"] (spBInit C) := ok_binit FI TB
  have GBridge : FnOk P w K mg base CX0 (k + 3) fR fdR ["self", "boats", "spans"] (spBrInit C CB) := ok_brinit FR TB0 TB TC F_are_boats g_are_boats b_are_boats F_are_spans g_are_spans b_are_spans Fis_whole gis_whole bis_whole
  refine F.ok scMade (fun vs H Q E h => ?_) (fun cdv A outer s H vs Q E hr h => ?_)
  · obtain ⟨p, r, s, rows, spans, rfl, _⟩ := h
    rfl
  · obtain ⟨p, r, sp, rows, spans, rfl, hp, hg, q⟩ := h
    have hrBoat : Room (k + 2) _ := hr.mono (by omega)
    have hrBridge : Room (k + 4) _ := hr
    have gCBoat := TB.gC
    have gCBridge := TC.gC
    refine ⟨_,
      (pss_one (ps_ret (pe_make MBridge GBridge hrBridge (by rfl) gCBridge bBridge .nil pass0 (pa_cons (pe_lc (own := [("_law_who", 1), ("_law_bears", 2)]) (g := gTup K 2 (gCons (gName 1) (gCons (gName 2) gNil))) (tt := tYes) rfl scMade.nd (pi_list (pe_ix ix_tup (pv 0) pe_int (fun _ _ => rfl))) (blkOk_by (N := NMade) (own := [("_law_who", 1), ("_law_bears", 2)]) (sc := defScope sMade) (by decide +kernel)) (fun _ _ _ _ _ => pg_tup rfl (pgs_cons (pg_name (i := 1) scMade.nd rfl (Or.inl rfl)) (pgs_cons (pg_name (i := 2) scMade.nd rfl (Or.inl rfl)) pgs_nil))) (fun _ _ _ _ _ => pts_nil) (fun _ _ _ _ _ => (pe_make MBoat GBoat hrBoat (by rfl) gCBoat bBoat .nil pass0 (pa_cons (pv 1) (pa_cons (pv 2) pa_nil))))) (pa_cons (pe_callTy call_list_of (by rfl) T.mlist (by decide +kernel) (pa_cons (pe_ix ix_tup (pv 0) pe_int (fun _ _ => rfl)) pa_nil)) pa_nil)))))
      , ?_⟩
    obtain ⟨xs, er, hrw⟩ := hp.rw
    have hlx := hrw.len
    refine ⟨_, rfl, p, _, 0, _, rfl, rfl, SqT.of hp.tp, atI_nat (j := 0) rfl, r, rfl, ⟨_, SqL.of er⟩, fun D hD => ?_⟩
    refine lc_list (K := K) (a := r) (xs := xs) (fun i H' => ∃ ys, H' D = some (.lst ys) ∧ Boats C H' ys (rows.take i) ∧ ys.length = i ∧ Same H H')
      ⟨[], upd_same, .nil, rfl, same_upd hD⟩ (fun i H' _ ⟨_, _, _, _, z⟩ => SqL.of (z _ _ er)) ?_ ?_
    · rintro i y H' hy ⟨ys, eD, hys, ly, si⟩
      obtain ⟨b, x, rfl, hx, hb⟩ := hrw.at hy
      have hi : i < xs.length := (List.getElem?_eq_some_iff.mp hy).1
      refine ⟨b, _, rfl, SqT.of (si _ _ hb), rfl, _, _, rfl, _, _, rfl, rfl, rfl, _, rfl, _, rfl, ?_⟩
      intro x1 dx1 hx1 hdx1 ne1
      refine ⟨x1, dx1, x.1, x.2, rfl, upd_same, fun H2 hb2 k2 => ⟨rfl, ?_⟩⟩
      have s2 := made_same hx1 hdx1 k2
      have eD2 := s2 _ _ eD
      obtain ⟨dx2, eb2⟩ := hb2
      have nxD : x1 ≠ D := ne_of eb2 eD2 (by intro z; cases z)
      refine ⟨ys, eD2, small100 (by have := hg.l1; omega), ys ++ [.ref x1], upd_same, ?_, by rw [List.length_append, ly]; rfl, fun z o e => by rw [upd_ne (ne_of_none e hD)]; exact s2 _ _ (si _ _ e)⟩
      have h3 : Boats C (upd H2 D (.lst (ys ++ [.ref x1]))) ys (rows.take i) := (hys.same s2).mono fun a dx n b e => by rw [upd_ne (ne_of e eD2 (by intro z; cases z))]; exact e
      rw [List.take_succ, hx]
      exact h3.app (.cons ⟨dx2, by rw [upd_ne nxD]; exact eb2⟩ .nil)
    · rintro H' ⟨ys, eD, hys, ly, si⟩
      rw [hlx, List.take_length] at hys
      refine ⟨_, rfl, p, _, 1, _, rfl, rfl, SqT.of (si _ _ hp.tp), atI_nat (j := 1) rfl, sp, _, rfl, .inl (SqL.of (si _ _ hp.sp)), fun s2 hs2 => ?_⟩
      have ss := same_upd (o := .lst (spans.map V.int)) hs2
      intro x dx hx hdx ne
      have nsx : s2 ≠ x := ne_of_none (upd_same (H := H') (a := s2) (o := .lst (spans.map V.int))) hx
      have nsd : s2 ≠ dx := ne_of_none (upd_same (H := H') (a := s2) (o := .lst (spans.map V.int))) hdx
      have s3 : Same (upd H' s2 (.lst (spans.map V.int))) (upd (upd (upd H' s2 (.lst (spans.map V.int))) dx (.own x)) x (.ins CB dx [])) := fun b o e => by
        rw [upd_ne (ne_of_none e hx), upd_ne (ne_of_none e hdx)]; exact e
      refine ⟨x, dx, D, s2, ys, rows, spans, rfl, upd_same, s3 _ _ (ss _ _ eD), hys.same (ss.trans s3), s3 _ _ upd_same, hg, fun bl sl H2 hbl hsl hbr k2 => ⟨rfl, ?_⟩⟩
      have back : ∀ z, (upd (upd (upd H' s2 (.lst (spans.map V.int))) dx (.own x)) x (.ins CB dx [])) z = none → H z = none := fun z e => by
        cases ez : H z with
        | none => rfl
        | some o => rw [s3 _ _ (ss _ _ (si _ _ ez))] at e; cases e
      have sAll : Same H H2 := fun b o e => k2 b o (ne_of_none (ss _ _ (si _ _ e)) hx) (s3 _ _ (ss _ _ (si _ _ e)))
      exact q x bl sl H2 (back _ hbl) (back _ hsl) sAll hbr
end
/-! ### f"{o}" of an own object; slices of lists by steps; zip in comprehensions -/
section
variable {X : Cx}
section
variable {CX : CXT} {C g : Addr} {n : Nat} {fd : FuncData} {ps : List Str} {sp : Sp} {E : XK}
def tFmtO (C : Addr) (sp : Sp) (E : XK) (te : TE) : TE := fun σ H Q => te σ H fun x H1 => rOwn1 C sp E QStr [x] H1 Q
theorem pe_fmtO {e : Expr} {te : TE} {pos : Pos} (he : PE X e te) (hfm : PySem.W.findIn X.K (.ref C) "__format__" = some (some (.builtin "object.__format__"))) (hm : PySem.W.mroIn X.K C (.type "object") = some true)
    (hs : PySem.W.findIn X.K (.ref C) "__str__" = some (some (.ref g))) (hf : PySem.W.isFn X.K (.ref g) = true) (F : FnOk X.prog X.w X.K X.mg X.base CX n g fd ps sp) (hb : L2.Binds X.K fd ps []) (hr : Room (n + 1) X.A) (hx : Passes CX X E) : PE X (.FormattedValue e (-1) none pos) (tFmtO C sp E te) := by
  refine ⟨fun pins s σ H Q I h => ?_⟩
  refine wpAny_FormattedValue_plain (thn (he.run pins s σ H _ I h) fun v s1 hv => ?_)
  obtain ⟨x, H1, I1, r1, a, dx, fs, ex, ha, q⟩ := hv
  cases ex
  cases (show v = Value.ref a from r1)
  obtain ⟨od, J⟩ := inst_of I1 ha
  have hr2 : Room n X.A.in1 := hr.in1
  refine PySem.W.kfo_fieldS hr2.units0 I1.kIn J hfm hm hs hf ?_
  exact wpAny_mono (run_fnA (A := X.A.in1) (us := [.ref a]) (vs := [.ref a]) F hr2 rfl hb hx (I1.tok _) (.cons rfl .nil) q) (fun v s' z => strback z) fun _ _ x => x
end
/-- f'..' within a comprehension -/
def tJoined (ts : List TE) : TE := fun σ H Q => tJs ts Str.empty σ H fun out H1 => Q (.str out) H1
theorem pe_joinedN {v1 v2 : Expr} {rest : List Expr} {ts : List TE} {pos : Pos} (h : PJ X (v1 :: v2 :: rest) ts) : PE X (.JoinedStr (v1 :: v2 :: rest) pos) (tJoined ts) := pe_joined h
/-- what xs[lo::k] picks -/
def stepIx (lo : Option Int) (k : Int) (n : Nat) : List Nat := sliceRange (sliceBounds lo none (some k) n).1 (sliceBounds lo none (some k) n).2.1 (sliceBounds lo none (some k) n).2.2
def stepV {α : Type} (xs : List α) (lo : Option Int) (k : Int) : List α := (stepIx lo k xs.length).filterMap (xs[·]?)
theorem vals_pick {xs : List V} {its : List Value} (r : Vals xs its) : ∀ ix : List Nat, Vals (ix.filterMap (xs[·]?)) (ix.filterMap (its[·]?))
  | [] => .nil
  | i :: ix => by
    rw [List.filterMap_cons, List.filterMap_cons]
    have hl := r.length
    by_cases h : i < xs.length
    · obtain ⟨u, eu, ru⟩ : ∃ u, its[i]? = some u ∧ RelV xs[i] u := by
        clear hl
        revert i
        induction r with
        | nil => intro i h; exact absurd h (Nat.not_lt_zero _)
        | cons a _ ih =>
          intro i h
          cases i with
          | zero => exact ⟨_, rfl, a⟩
          | succ i => exact ih i (Nat.lt_of_succ_lt_succ h)
      rw [List.getElem?_eq_getElem h, eu]
      exact .cons ru (vals_pick r ix)
    · rw [List.getElem?_eq_none (by omega), List.getElem?_eq_none (by omega)]
      exact vals_pick r ix
def tStepL (K : PySem.W.Frag) (te : TE) (tl : TO) (k : Int) : TE := fun σ H Q => te σ H fun x H1 => tl σ H1 fun lo H2 => ∃ a xs, x = .ref a ∧ SqL K H2 a xs ∧ (stepV xs lo k).length ≤ sizeLine ∧ ∀ p, H2 p = none → Q (.ref p) (upd H2 p (.lst (stepV xs lo k)))
theorem pe_stepL {e : Expr} {lo : Option Expr} {te : TE} {tl : TO} {k : Int} {kk : Nat} {p1 p3 pos : Pos} (he : PE X e te) (hlo : PO X lo tl) (hk : k ≠ 0) : PE X (.Subscript e (.Slice lo none (some (.Constant (.int k) kk p1)) p3) pos) (tStepL X.K te tl k) := by
  refine ⟨fun pins s σ H Q I h => ?_⟩
  refine Subscript_ (thn (he.run pins s σ H _ I h) fun v s1 ⟨x, H1, I1, r1, q1⟩ => ?_)
  have hst : PO X (some (.Constant (.int k) kk p1)) (tPart (tC (.int k))) := po_some pe_int
  refine wpAny_Slice (thn (hlo.run pins s1 σ H1 _ I1 q1) fun vl s2 ⟨l, H2, I2, pl, q2⟩ => ?_)
  obtain ⟨a, xs, ex, hx, hz2, q⟩ := q2
  subst ex
  cases r1
  refine thn (po_none.run pins s2 σ H2 (fun o H3 => o = none ∧ H3 = H2) I2 ⟨rfl, rfl⟩) fun vu s3 ⟨u, H3, I3, pu, eu, e3⟩ => ?_
  subst eu e3
  refine thn (hst.run pins s3 σ H3 (fun o H4 => o = some k ∧ H4 = H3) I3 ⟨k, rfl, rfl, rfl⟩) fun vs s4 ⟨o, H4, I4, ps, eo, e4⟩ => ?_
  subst eo e4
  have I5 : Inv X pins σ H4 { s4 with heap := s4.heap.push { cls := .type "slice", data := .fields #[vl, vu, vs] } } := I4.kept (t' := s4.toks) fun b ob q => Heap.get?_push_of_some _ q
  obtain ⟨its, r, ht, hz⟩ := I5.list hx
  have hlen := r.length
  show wpAny (model X.prog X.w) X.A (subscriptTail e (.Slice lo none (some (.Constant (.int k) kk p1)) p3) (.ref a) (.ref s4.heap.objs.size)) (EP X pins σ Q) X.xe { s4 with heap := s4.heap.push { cls := .type "slice", data := .fields #[vl, vu, vs] } }
  refine tail_any (ops := [.ref a, .ref s4.heap.objs.size]) ht.isList.typeIs (PySem.slot_list_getitem.lookup) ?_ (by with_unfolding_all rfl)
  refine wpAny_getItem_list_slice ht.isList (Heap.IsSliceOf.new _ vl vu vs) pl pu ps (fun e => hk (Option.some.inj e)) ?_ (by rw [List.size_toArray]; omega)
  have hp := vals_pick r (stepIx l k xs.length)
  have e1 : slicePick its.toArray l none (some k) = ((stepIx l k xs.length).filterMap (its[·]?)).toArray := by
    unfold slicePick stepIx
    rw [List.size_toArray, hlen]
    simp
  rw [e1]
  refine ⟨.ref _, _, I5.laid (t' := s4.toks) (o := .lst (stepV xs l k)) (fun b ob q => Heap.get?_push_of_some _ q) (Nat.le_refl _) ?_, rfl, q _ (I5.hok.fresh (Nat.le_refl _))⟩
  exact ⟨hz2, _, 0, hp, Heap.get?_push_size _ rfl⟩
end
/-- all the places -/
theorem fm_range {α : Type} : ∀ (l : List α), (List.range l.length).filterMap (fun k => l[k]?) = l
  | [] => rfl
  | x :: l => by
    rw [List.length_cons, List.range_succ_eq_map, List.filterMap_cons]
    show x :: _ = _
    rw [List.filterMap_map]
    congr 1
    exact fm_range l
/-- two lists by turns -/
def weave {α : Type} : List α → List α → List α
  | b :: bs, s :: ss => b :: s :: weave bs ss
  | _, _ => []
theorem weave_at {α : Type} : ∀ (bs ss : List α) (k : Nat), bs.length = ss.length → (weave bs ss)[2 * k]? = bs[k]? ∧ (weave bs ss)[2 * k + 1]? = ss[k]?
  | [], [], k, _ => ⟨by simp [weave], by simp [weave]⟩
  | b :: bs, s :: ss, 0, _ => ⟨rfl, rfl⟩
  | b :: bs, s :: ss, k + 1, h => by
    have := weave_at bs ss k (Nat.succ.inj h)
    exact this
theorem weave_len {α : Type} : ∀ (bs ss : List α), bs.length = ss.length → (weave bs ss).length = 2 * bs.length
  | [], [], _ => rfl
  | b :: bs, s :: ss, h => by
    have := weave_len bs ss (Nat.succ.inj h)
    show (weave bs ss).length + 1 + 1 = 2 * (bs.length + 1)
    omega
theorem step_odd {α : Type} {s0 : α} {bs ss : List α} (h : bs.length = ss.length) : stepV (s0 :: weave bs ss) (some 1) 2 = bs := by
  have hl := weave_len bs ss h
  unfold stepV stepIx
  have e : sliceBounds (some 1) none (some 2) (s0 :: weave bs ss).length = (1, ((2 * bs.length + 1 : Nat) : Int), 2) := by
    rw [List.length_cons, hl]
    show (max 0 (min 1 _), _, _) = _
    congr 1
    omega
  rw [e]
  show ((List.range (if (2 : Int) > 0 then (if (1 : Int) < ((2 * bs.length + 1 : Nat) : Int) then (((2 * bs.length + 1 : Nat) : Int) - 1 + 2 - 1) / 2 else 0) else _).toNat).map fun (k : Nat) => ((1 : Int) + 2 * (k : Int)).toNat).filterMap _ = bs
  rw [if_pos (by decide)]
  have hc : (if (1 : Int) < ((2 * bs.length + 1 : Nat) : Int) then (((2 * bs.length + 1 : Nat) : Int) - 1 + 2 - 1) / 2 else 0).toNat = bs.length := by split <;> omega
  rw [hc, List.filterMap_map]
  refine Eq.trans ?_ (fm_range bs)
  refine congrArg (fun f => List.filterMap f (List.range bs.length)) (funext fun k => ?_)
  show (s0 :: weave bs ss)[((1 : Int) + 2 * (k : Int)).toNat]? = _
  rw [show ((1 : Int) + 2 * (k : Int)).toNat = 2 * k + 1 by omega, List.getElem?_cons_succ, (weave_at bs ss k h).1]
theorem step_even {α : Type} {s0 : α} {bs ss : List α} (h : bs.length = ss.length) : stepV (s0 :: weave bs ss) none 2 = s0 :: ss := by
  have hl := weave_len bs ss h
  unfold stepV stepIx
  have e : sliceBounds none none (some 2) (s0 :: weave bs ss).length = (0, ((2 * bs.length + 1 : Nat) : Int), 2) := by
    rw [List.length_cons, hl]
    rfl
  rw [e]
  show ((List.range (if (2 : Int) > 0 then (if (0 : Int) < ((2 * bs.length + 1 : Nat) : Int) then (((2 * bs.length + 1 : Nat) : Int) - 0 + 2 - 1) / 2 else 0) else _).toNat).map fun (k : Nat) => ((0 : Int) + 2 * (k : Int)).toNat).filterMap _ = s0 :: ss
  rw [if_pos (by decide)]
  have hc : (if (0 : Int) < ((2 * bs.length + 1 : Nat) : Int) then (((2 * bs.length + 1 : Nat) : Int) - 0 + 2 - 1) / 2 else 0).toNat = (s0 :: ss).length := by rw [List.length_cons, ← h]; split <;> omega
  rw [hc, List.filterMap_map]
  refine Eq.trans ?_ (fm_range (s0 :: ss))
  refine congrArg (fun f => List.filterMap f (List.range (s0 :: ss).length)) (funext fun k => ?_)
  show (s0 :: weave bs ss)[((0 : Int) + 2 * (k : Int)).toNat]? = _
  rw [show ((0 : Int) + 2 * (k : Int)).toNat = 2 * k by omega]
  cases k with
  | zero => rfl
  | succ k =>
    rw [show 2 * (k + 1) = (2 * k + 1) + 1 by omega, List.getElem?_cons_succ, List.getElem?_cons_succ, (weave_at bs ss k h).2]
/-! ### comprehensions over zip, over texts -/
theorem lc_zip {K : PySem.W.Frag} {a b : Addr} {xs ys : List V} {g : TG} {tt : TT} {te : TE} {vs : List Nat} {σ : L2.St} {H1 : Hp} {D : Addr} {Qd : Hp → Prop} (hlen : xs.length = ys.length) (Pv : Nat → Hp → Prop) (h0 : Pv 0 (upd H1 D (.lst []))) (hl : ∀ i H, i ≤ xs.length → Pv i H → SqL K H a xs ∧ SqL K H b ys)
    (hs : ∀ i x y T H, xs[i]? = some x → ys[i]? = some y → Pv i H → H T = none → g (.ref T) (wipe σ vs) (upd H T (.tup [x, y])) fun σ2 H2 => wipe σ2 vs = wipe σ vs ∧ tt σ2 H2 fun b H3 =>
      if b = true then te σ2 H3 fun y H4 => ∃ acc, H4 D = some (.lst acc) ∧ acc.length < sizeLine ∧ Pv (i + 1) (upd H4 D (.lst (acc ++ [y]))) else Pv (i + 1) H3) (hd : ∀ H, Pv xs.length H → Qd H) :
    ∃ W : Nat → Nat → Hp → Prop, (∃ m, W 0 m (upd H1 D (.lst []))) ∧ ∀ i m H, W i m H →
      ((Itz K a b).stop i H ∧ Qd H) ∨ ((Itz K a b).go i H ∧ ∃ Nx : Hp → Prop, (∀ H', Nx H' → ∃ m', m' < m ∧ W (i + 1) m' H') ∧ ∀ x H', (Itz K a b).yld i H x H' → g x (wipe σ vs) H' fun σ2 H2 => wipe σ2 vs = wipe σ vs ∧ tt σ2 H2 fun b H3 =>
        if b = true then te σ2 H3 fun y H4 => ∃ acc, H4 D = some (.lst acc) ∧ acc.length < sizeLine ∧ Nx (upd H4 D (.lst (acc ++ [y]))) else Nx H3) := by
  refine ⟨fun i m H => m = xs.length - i ∧ i ≤ xs.length ∧ Pv i H, ⟨xs.length, by simp, Nat.zero_le _, h0⟩, ?_⟩
  rintro i m H ⟨rfl, hi, p⟩
  obtain ⟨qx, qy⟩ := hl i H hi p
  by_cases hlt : i < xs.length
  · have hx : xs[i]? = some xs[i] := List.getElem?_eq_getElem hlt
    have hlt2 : i < ys.length := by omega
    have hy : ys[i]? = some ys[i] := List.getElem?_eq_getElem hlt2
    refine .inr ⟨⟨xs, ys, _, _, qx, qy, hx, hy⟩, Pv (i + 1), fun H' p' => ⟨xs.length - (i + 1), by omega, rfl, hlt, p'⟩, fun v H' y => ?_⟩
    obtain ⟨T, x', y', rfl, hT, rfl, f1, f2⟩ := y
    exact hs i x' y' T H (f1 xs qx) (f2 ys qy) p hT
  · have e : i = xs.length := by omega
    subst e
    exact .inl ⟨⟨xs, ys, qx, qy, Or.inl (Nat.le_refl _)⟩, hd H p⟩
theorem lc_str {z : Str} {g : TG} {tt : TT} {te : TE} {vs : List Nat} {σ : L2.St} {H1 : Hp} {D : Addr} {Qd : Hp → Prop} (Pv : Nat → Hp → Prop) (h0 : Pv 0 (upd H1 D (.lst [])))
    (hs : ∀ i c H, z.cps[i]? = some c → Pv i H → g (.str ⟨#[c]⟩) (wipe σ vs) H fun σ2 H2 => wipe σ2 vs = wipe σ vs ∧ tt σ2 H2 fun b H3 =>
      if b = true then te σ2 H3 fun y H4 => ∃ acc, H4 D = some (.lst acc) ∧ acc.length < sizeLine ∧ Pv (i + 1) (upd H4 D (.lst (acc ++ [y]))) else Pv (i + 1) H3) (hd : ∀ H, Pv z.cps.size H → Qd H) :
    ∃ W : Nat → Nat → Hp → Prop, (∃ m, W 0 m (upd H1 D (.lst []))) ∧ ∀ i m H, W i m H →
      ((Its z).stop i H ∧ Qd H) ∨ ((Its z).go i H ∧ ∃ Nx : Hp → Prop, (∀ H', Nx H' → ∃ m', m' < m ∧ W (i + 1) m' H') ∧ ∀ x H', (Its z).yld i H x H' → g x (wipe σ vs) H' fun σ2 H2 => wipe σ2 vs = wipe σ vs ∧ tt σ2 H2 fun b H3 =>
        if b = true then te σ2 H3 fun y H4 => ∃ acc, H4 D = some (.lst acc) ∧ acc.length < sizeLine ∧ Nx (upd H4 D (.lst (acc ++ [y]))) else Nx H3) := by
  refine ⟨fun i m H => m = z.cps.size - i ∧ i ≤ z.cps.size ∧ Pv i H, ⟨z.cps.size, by simp, Nat.zero_le _, h0⟩, ?_⟩
  rintro i m H ⟨rfl, hi, p⟩
  by_cases hlt : i < z.cps.size
  · refine .inr ⟨hlt, Pv (i + 1), fun H' p' => ⟨z.cps.size - (i + 1), by omega, rfl, hlt, p'⟩, fun x H' y => ?_⟩
    obtain ⟨rfl, c, hc, rfl⟩ := y
    exact hs i c _ hc p
  · have e : i = z.cps.size := by omega
    subst e
    exact .inl ⟨Nat.le_refl _, hd H p⟩
/-! ### == and != of tuples, whatever their items are -/
section
open PySem.SeqAt GQ
open AutoSeq1 (wpAny_loadPart')
open MeetsSeq MeetsSeq2 MeetsSeq3 SeqRoads2
section
variable {prog : Program} {w : World} {A : Around} {R : Result → Shared → Prop}
theorem tup_eqB (neg : Bool) (l b : Addr) {items items2 : Array Value} {n n2 : Nat} {dd dd2 : Option Addr} {sl sl2 : Array (Option Value)} (k : Nat) (hk : k ≤ min items.size items2.size) (I : Nat → Shared → Prop)
    (hl : ∀ i s', I i s' → i ≤ k → ∀ (h1 : i < items.size) (h2 : i < items2.size), wpAny (model prog w) A.in1 (eqBool items[i] items2[i]) (fun r s'' => r = decide (i < k) ∧ I (i + 1) s'') (fun e s' => R (.error e) s') s')
    (fin : ∀ i s', I i s' → R (.ok (.ret (.bool (neg != (decide (k = min items.size items2.size) && decide (items.size = items2.size)))))) s') {s : Shared}
    (hl1 : s.heap.get? l = some { cls := .type "tuple", dict := dd, data := .seq items n, slots := sl }) (hb1 : s.heap.get? b = some { cls := .type "tuple", dict := dd2, data := .seq items2 n2, slots := sl2 }) (h : I 0 s) :
    wpAny (model prog w) A.in1 ((if neg = true then Builtin.«tuple.__ne__» else Builtin.«tuple.__eq__») ⟨[.ref l, .ref b], []⟩) (FinOf prog w A R) (fun e s' => R (.error e) s') s := by
  have f2 := AutoSeq1.sub_tuple_tuple
  have hZ : (items.toList.zip items2.toList).length = min items.size items2.size := by simp
  have turn : ∀ (y x : Value) (rest : List (Value × Value)) (s' : Shared), (∃ i, i ≤ k ∧ (y, x) :: rest = (items.toList.zip items2.toList).drop i ∧ I i s') →
      wpAny (model prog w) A.in1 (eqBool y x) (fun r s'' => (r = true ∧ ∃ i, i ≤ k ∧ rest = (items.toList.zip items2.toList).drop i ∧ I i s'') ∨ (r = false ∧ R (.ok (.ret (.bool (neg != false)))) s'')) (fun e s' => R (.error e) s') s' := by
    rintro y x rest s' ⟨i, hik, hz, hI⟩
    have hlt : i < (items.toList.zip items2.toList).length := by
      rcases Nat.lt_or_ge i (items.toList.zip items2.toList).length with h' | h'
      · exact h'
      · rw [List.drop_of_length_le h'] at hz; cases hz
    have hm : i < min items.size items2.size := hZ ▸ hlt
    have h1 : i < items.size := Nat.lt_of_lt_of_le hm (Nat.min_le_left _ _)
    have h2 : i < items2.size := Nat.lt_of_lt_of_le hm (Nat.min_le_right _ _)
    rw [List.drop_eq_getElem_cons hlt] at hz
    injection hz with hyx hrest
    have hy : y = items[i] := by have := congrArg Prod.fst hyx; simpa using this
    have hx : x = items2[i] := by have := congrArg Prod.snd hyx; simpa using this
    subst hy hx
    refine wpAny_mono (hl i s' hI hik h1 h2) (fun r s'' q => ?_) fun _ _ z => z
    obtain ⟨rfl, hI2⟩ := q
    by_cases c : i < k
    · exact .inl ⟨decide_eq_true c, i + 1, by omega, hrest, hI2⟩
    · refine .inr ⟨decide_eq_false c, ?_⟩
      have := fin _ _ hI2
      rw [decide_eq_false (show ¬ k = min items.size items2.size by omega), Bool.false_and] at this
      exact this
  have last : ∀ s', (∃ i, i ≤ k ∧ ([] : List (Value × Value)) = (items.toList.zip items2.toList).drop i ∧ I i s') → R (.ok (.ret (.bool (neg != decide (items.size = items2.size))))) s' := by
    rintro s' ⟨i, hik, hz, hI⟩
    have hge : min items.size items2.size ≤ i := by
      rcases Nat.lt_or_ge i (items.toList.zip items2.toList).length with h' | h'
      · rw [List.drop_eq_getElem_cons h'] at hz; cases hz
      · exact hZ ▸ h'
    have := fin _ _ hI
    rw [decide_eq_true (show k = min items.size items2.size by omega), Bool.true_and] at this
    exact this
  obtain ⟨hp, g, d, tk, os⟩ := s
  cases neg with
  | true =>
    rw [if_pos rfl]
    wp_walk using wpAny_loadPart' hl1, wpAny_loadPart' hb1, wpAny_forIn_list _ (fun rest b s' => b.1 = none ∧ ∃ i, i ≤ k ∧ rest = (items.toList.zip items2.toList).drop i ∧ I i s') _
    case turn =>
      rintro ⟨y, x⟩ rest b s' ⟨hb', hz⟩
      refine wpAny_bind (wpAny_mono (turn y x rest s' hz) (fun r s'' q => ?_) fun _ _ z => z)
      rcases q with ⟨rfl, q⟩ | ⟨rfl, q⟩
      · obtain ⟨hp2, g2, d2, tk2, os2⟩ := s''
        wp_walk
        exact ⟨rfl, q⟩
      · obtain ⟨hp2, g2, d2, tk2, os2⟩ := s''
        wp_walk
        exact q
    case fin =>
      rintro ⟨b1, b2⟩ s' ⟨hb', hz⟩
      simp only at hb'
      subst hb'
      have q := last s' hz
      obtain ⟨hp2, g2, d2, tk2, os2⟩ := s'
      wp_walk
      refine cast (congrArg (fun z => R (.ok (.ret z)) _) ?_) q
      show _ = Value.bool _
      congr 1
      by_cases c : items.size = items2.size <;> simp [c]
    case h =>
      exact ⟨rfl, 0, Nat.zero_le _, rfl, h⟩
  | false =>
    rw [if_neg (by decide)]
    wp_walk using wpAny_loadPart' hl1, wpAny_loadPart' hb1, wpAny_forIn_list _ (fun rest b s' => b.1 = none ∧ ∃ i, i ≤ k ∧ rest = (items.toList.zip items2.toList).drop i ∧ I i s') _
    case turn =>
      rintro ⟨y, x⟩ rest b s' ⟨hb', hz⟩
      refine wpAny_bind (wpAny_mono (turn y x rest s' hz) (fun r s'' q => ?_) fun _ _ z => z)
      rcases q with ⟨rfl, q⟩ | ⟨rfl, q⟩
      · obtain ⟨hp2, g2, d2, tk2, os2⟩ := s''
        wp_walk
        exact ⟨rfl, q⟩
      · obtain ⟨hp2, g2, d2, tk2, os2⟩ := s''
        wp_walk
        exact q
    case fin =>
      rintro ⟨b1, b2⟩ s' ⟨hb', hz⟩
      simp only at hb'
      subst hb'
      have q := last s' hz
      obtain ⟨hp2, g2, d2, tk2, os2⟩ := s'
      wp_walk
      refine cast (congrArg (fun z => R (.ok (.ret z)) _) ?_) q
      show _ = Value.bool _
      congr 1
      by_cases c : items.size = items2.size <;> simp [c]
    case h =>
      exact ⟨rfl, 0, Nat.zero_le _, rfl, h⟩
end
section
variable {prog : Program} {w : World} {A : Around} {E : Value → Shared → Prop} {s : Shared}
theorem rc_tupB (neg : Bool) {l b : Addr} {items items2 : Array Value} {n n2 : Nat} {dd dd2 : Option Addr} {sl sl2 : Array (Option Value)} {Q : Value → Shared → Prop} (k : Nat) (hk : k ≤ min items.size items2.size) (hu : A.units < cLine) (I : Nat → Shared → Prop)
    (hl : ∀ i s', I i s' → i ≤ k → ∀ (h1 : i < items.size) (h2 : i < items2.size), wpAny (model prog w) A.in1 (eqBool items[i] items2[i]) (fun r s'' => r = decide (i < k) ∧ I (i + 1) s'') E s')
    (fin : ∀ i s', I i s' → Q (.bool (neg != (decide (k = min items.size items2.size) && decide (items.size = items2.size)))) s')
    (hl1 : s.heap.get? l = some { cls := .type "tuple", dict := dd, data := .seq items n, slots := sl }) (hb1 : s.heap.get? b = some { cls := .type "tuple", dict := dd2, data := .seq items2 n2, slots := sl2 }) (h : I 0 s) : wpAny (model prog w) A (richCompare (opB neg) (.ref l) (.ref b)) Q E s := by
  have z := tup_eqB (prog := prog) (w := w) (A := A) (R := wants (fun v s' => v ≠ .notImplemented ∧ Q v s') E) neg l b k hk I hl (fun i s' q => ⟨(fun x => nomatch x), fin i s' q⟩) hl1 hb1 h
  cases neg with
  | true => exact wpAny_richCompare_same_room (op := .NotEq) ⟨_, hl1, rfl⟩ ⟨_, hb1, rfl⟩ F.slot_tuple_ne (call_here F.slot_tuple_ne ⟨_, hl1, rfl⟩ F.entry_tuple_ne (F.args_tuple_ne_2 _ _) z) hu
  | false => exact wpAny_richCompare_same_room (op := .Eq) ⟨_, hl1, rfl⟩ ⟨_, hb1, rfl⟩ F.slot_tuple_eq (call_here F.slot_tuple_eq ⟨_, hl1, rfl⟩ F.entry_tuple_eq (F.args_tuple_eq_2 _ _) z) hu
end
end
section
open GQ
variable {X : Cx} {n m : Nat} {D D' : EqvB}
/-- tuples: alike up to k, and unlike there, or one of them ends there -/
def PrsT (D : EqvB) (xs ys : List V) (b : Bool) (H : Hp) : Prop :=
  ∃ k, k ≤ min xs.length ys.length ∧ b = (decide (k = min xs.length ys.length) && decide (xs.length = ys.length)) ∧ (∀ (i : Nat) x y, xs[i]? = some x → ys[i]? = some y → i ≤ k → D x y (decide (i < k)) H)
theorem PrsT.mon (hD : MonB D) {xs ys : List V} {b : Bool} {H H' : Hp} (e : Ext H H') (p : PrsT D xs ys b H) : PrsT D xs ys b H' := by
  obtain ⟨k, hk, hb, q⟩ := p
  exact ⟨k, hk, hb, fun i x y h1 h2 h3 => hD _ _ _ _ _ e (q i x y h1 h2 h3)⟩
def DTupB (D : EqvB) : EqvB := fun x y b H => ∃ a c xs ys, x = .ref a ∧ y = .ref c ∧ H a = some (.tup xs) ∧ H c = some (.tup ys) ∧ PrsT D xs ys b H
theorem monB_tup (hD : MonB D) : MonB (DTupB D) := fun x y b H H' e d => by
  obtain ⟨a, c, xs, ys, hx, hy, h1, h2, p⟩ := d
  exact ⟨a, c, xs, ys, hx, hy, e _ _ h1, e _ _ h2, p.mon hD e⟩
theorem selfB_tup (hs : SelfB D) : SelfB (DTupB D) := fun x b H d => by
  obtain ⟨a, c, xs, ys, rfl, hy, h1, h2, k, hk, hb, q⟩ := d
  cases hy
  rw [h1] at h2
  cases h2
  rw [hb, Nat.min_self] at *
  by_cases c : k = xs.length
  · rw [decide_eq_true c, decide_eq_true rfl]; rfl
  · have hlt : k < xs.length := by omega
    have := hs _ _ _ (q k _ _ (List.getElem?_eq_getElem hlt) (List.getElem?_eq_getElem hlt) (Nat.le_refl _))
    rw [decide_eq_false (Nat.lt_irrefl k)] at this
    cases this
theorem dcB_tup (neg : Bool) (hD : MonB D) (h : DqB X n D) : DcB X (n + 1) (opB neg) (fun b => neg != b) (DTupB D) := by
  intro A pins s σ H x y u v b sb I rx ry d
  obtain ⟨a, c, xs, ys, rfl, rfl, ha, hb, k, hk, rfl, q⟩ := d
  cases rx
  cases ry
  obtain ⟨_, its, r, o, h1, h2, n1, h3⟩ := I.hok a _ ha
  obtain ⟨_, its2, r2, o2, g1, g2, n2, g3⟩ := I.hok c _ hb
  obtain ⟨oc, od, odt, osl⟩ := o
  obtain ⟨oc2, od2, odt2, osl2⟩ := o2
  simp only at h2 h3 g2 g3
  subst h2 h3 g2 g3
  have z1 := r.length
  have z2 := r2.length
  refine rc_tupB neg (items := its.toArray) (items2 := its2.toArray) k (by rw [List.size_toArray, List.size_toArray, ← z1, ← z2]; exact hk) sb.room.units0 (fun _ s' => LoopI X pins σ H s') (fun i s' z hik h1' h2' => ?_) (fun i s' z => ⟨?_, z⟩) h1 g1 ⟨H, I, Ext.rfl'⟩
  · obtain ⟨H1, I1, e1⟩ := id z
    have k1 : its[i]? = some its.toArray[i] := by
      have h1'' : i < its.length := by simpa using h1'
      rw [List.getElem?_eq_getElem h1''] <;> simp
    have k2 : its2[i]? = some its2.toArray[i] := by
      have h2'' : i < its2.length := by simpa using h2'
      rw [List.getElem?_eq_getElem h2''] <;> simp
    have l1 : i < xs.length := by rw [z1]; simpa using h1'
    have l2 : i < ys.length := by rw [z2]; simpa using h2'
    obtain ⟨u, hu, ru⟩ := r.get (List.getElem?_eq_getElem l1)
    obtain ⟨v, hv, rv⟩ := r2.get (List.getElem?_eq_getElem l2)
    rw [k1] at hu
    rw [k2] at hv
    rw [Option.some.inj hu, Option.some.inj hv]
    refine wpAny_mono (h A.in1 pins s' σ H1 _ _ u v _ sb.in1 I1 ru rv (hD _ _ _ _ _ e1 (q i _ _ (List.getElem?_eq_getElem l1) (List.getElem?_eq_getElem l2) hik))) (fun r s2 q => ?_) fun _ _ x => x
    obtain ⟨hr, H2, I2, e2⟩ := q
    exact ⟨hr, H2, I2, e1.trans e2⟩
  · rw [List.size_toArray, List.size_toArray, ← z1, ← z2]
theorem dqB_tup (hD : MonB D) (hs : SelfB D) (h : DqB X n D) : DqB X (n + 1) (DTupB D) := by
  have z := dcB_tup false hD h
  refine DcB.dqB (D := DTupB D) ?_ (fun _ _ _ _ d => let ⟨a, b, _, _, hx, hy, _⟩ := d; ⟨a, b, hx, hy⟩) (selfB_tup hs)
  intro A pins s σ H x y u v b sb I rx ry d
  refine wpAny_mono (z A pins s σ H x y u v b sb I rx ry d) (fun r s' q => ?_) fun _ _ x => x
  obtain ⟨e, q⟩ := q
  refine ⟨e.trans ?_, q⟩
  cases b <;> rfl
/-- texts -/
def DStrB : EqvB := fun x y b _ => ∃ i j : Str, x = .str i ∧ y = .str j ∧ b = decide (i = j)
theorem monB_str : MonB DStrB := fun _ _ _ _ _ _ d => d
theorem selfB_str : SelfB DStrB := fun x b H ⟨i, j, h1, h2, h3⟩ => by
  rw [h1] at h2
  cases h2
  rw [h3, decide_eq_true rfl]
theorem dqB_str : DqB X n DStrB := fun A pins s σ H x y u v b sb I rx ry ⟨i, j, h1, h2, h3⟩ => by
  subst h1 h2
  obtain ⟨t, rfl⟩ := (show ∃ t, u = Value.str i t from rx)
  obtain ⟨t2, rfl⟩ := (show ∃ t, v = Value.str j t from ry)
  exact wpAny_eqBool_str ⟨h3.symm, H, I, Ext.rfl'⟩
/-- x == y, x != y of tuples -/
theorem op_dqT (neg : Bool) (hD : MonB D) (h : DqB X n D) (hr : Room (n + 1) X.A) : OpR X (compareOp (opB neg)) (rDqB (DTupB D) (fun b => neg != b)) := by
  intro pins s σ H x y v u Q I rx ry hq
  obtain ⟨b, d, q⟩ := hq
  have z := dcB_tup neg hD h X.A pins s σ H x y v u b ⟨hr, rfl⟩ I rx ry d
  cases neg with
  | true =>
    show wpAny (model X.prog X.w) X.A (richCompare .NotEq v u) (EP X pins σ Q) X.xe s
    refine wpAny_mono z (fun r s' z => ?_) fun _ _ x => x
    obtain ⟨hr', H', I', e⟩ := z
    subst hr'
    exact ⟨.bl _, H', I', rfl, q H' e⟩
  | false =>
    show wpAny (model X.prog X.w) X.A (richCompare .Eq v u) (EP X pins σ Q) X.xe s
    refine wpAny_mono z (fun r s' z => ?_) fun _ _ x => x
    obtain ⟨hr', H', I', e⟩ := z
    subst hr'
    exact ⟨.bl _, H', I', rfl, q H' e⟩
end
/-! ### set(list of texts), and how many it has -/
section
abbrev nSetT (w : World) : Obj := { cls := .type "set", dict := none, data := .set #[] 0 (.fresh 0 0 (!w.params.followText "set-order")) }
variable {P : Program} {w : World} {A : Around} {E : Value → Shared → Prop} {s : Shared}
theorem setT_new_at {P : Program} {w : World} {h : Heap} {a : Addr} {ns : List Str} (ho : h.get? a = some (nSetT w)) : h.SetOf (strKind P w) a (fun j => decide (j ∈ ns.take 0)) 0 :=
  ⟨_, #[], 0, _, ho, ⟨rfl, rfl, rfl⟩, rfl, (fun e he => by simp at he), (fun k => by simp), (by decide), (by rfl), rfl⟩
theorem strs_at : ∀ {vs : List Value} {ws : List Str}, StrsAre vs ws → ∀ (i : Nat) (v : Value), vs[i]? = some v → ∃ k t, ws[i]? = some k ∧ v = .str k t := by
  intro vs ws h
  induction h with
  | nil => intro i v h; cases h
  | cons y t r ih =>
    intro i v h
    cases i with
    | zero => cases h; exact ⟨y, t, rfl, rfl⟩
    | succ i => exact ih i v h
theorem setOfT_at {P : Program} {w : World} {h h' : Heap} {a : Addr} {S : Str → Bool} {n : Nat} (R : h.SetOf (strKind P w) a S n) (k : ∀ o, h.get? a = some o → h'.get? a = some o) : h'.SetOf (strKind P w) a S n := by
  obtain ⟨o, es, ep, t, ho, r⟩ := R
  exact ⟨o, es, ep, t, k o ho, r⟩
theorem nodup_snoc {α : Type} {l : List α} {x : α} : (l ++ [x]).Nodup ↔ l.Nodup ∧ x ∉ l := by
  rw [List.nodup_append]
  constructor
  · rintro ⟨h1, _, h3⟩
    exact ⟨h1, fun m => h3 x m x (List.mem_singleton.mpr rfl) rfl⟩
  · rintro ⟨h1, h2⟩
    refine ⟨h1, by simp, fun a ha b hb e => h2 ?_⟩
    rw [List.mem_singleton] at hb
    rw [← hb, ← e]; exact ha
theorem set_update_txs {I : Addr} {fp wr : List Addr} {G : Array GenState → Array GenState → Prop} {n : Nat} {Pv : Nat → Value → Prop} {St : Nat → Shared → Prop} {R : Result → Shared → Prop}
    (W : WalksS P w A.in1 I fp wr G n Pv St) (S : Addr) (hSf : S ∉ fp) (ns : List Str) (hn : n = ns.length) (hb : ns.length + 1 < scanBound) (hval : ∀ i v, Pv i v → ∃ k t, ns[i]? = some k ∧ v = .str k t) :
    ∀ (k i : Nat) (s : Shared), n - i = k → i ≤ n → St i s → (∃ c, (c ≤ i ∧ (c = i ↔ (ns.take i).Nodup)) ∧ s.heap.SetOf (strKind P w) S (fun j => decide (j ∈ ns.take i)) c) →
      (∀ s' c, Moved (S :: wr) G s s' → (c ≤ n ∧ (c = n ↔ ns.Nodup)) → s'.heap.SetOf (strKind P w) S (fun j => decide (j ∈ ns)) c → R (.ok (.ret .none)) s') →
      codeAny (model P w) A (.builtin "set.update.loop" ⟨[.ref S, .ref I], []⟩) R s := by
  have hSw : S ∉ wr := fun h => hSf (W.sub _ h)
  have hsub : ∀ b ∈ wr, b ∈ S :: wr := fun b hb => List.mem_cons_of_mem _ hb
  intro k
  induction k with
  | zero =>
    intro i s hk' hi hst ⟨c, hc, hS⟩ hR
    have hin : i = n := by omega
    subst hin
    refine codeAny_builtin PyProof.Rows.F.entry_set_update_loop ?_
    rw [Around.under_plainId PyProof.Rows.F.plain_set_update_loop _]
    show wpAny _ A.in1 (pyNext (.ref I) >>= _) _ _ s
    refine wpAny_bind (W.done s _ _ hst fun s' hm => ?_)
    show wpAny _ A.in1 (ret Value.none) _ _ s'
    have e : ns.take i = ns := List.take_of_length_le (by omega)
    rw [e] at hS hc
    exact wpAny_pure (hR s' c (hm.mono hsub) hc (setOfT_at hS fun o e => hm.heap S o hSw e))
  | succ k ih =>
    intro i s hk' hi hst ⟨c, ⟨hc, hcn⟩, hS⟩ hR
    have hlt : i < n := by omega
    refine codeAny_builtin PyProof.Rows.F.entry_set_update_loop ?_
    rw [Around.under_plainId PyProof.Rows.F.plain_set_update_loop _]
    show wpAny _ A.in1 (pyNext (.ref I) >>= _) _ _ s
    refine wpAny_bind (W.item i s _ _ hlt hst fun v s' hP hst' hm => ?_)
    obtain ⟨z, t, hz, rfl⟩ := hval i v hP
    have hS' : s'.heap.SetOf (strKind P w) S (fun j => decide (j ∈ ns.take i)) c := setOfT_at hS fun o e => hm.heap S o hSw e
    show wpAny _ A.in1 (holding [Value.str z t] (setAdd S (.str z t)) >>= _) _ _ s'
    refine wpAny_bind (wpAny_holding ?_)
    unfold setAdd
    refine wpAny_holding ?_
    refine wpAny_bind ((strKind P w).pyHash (k := z) (strKind_is _ _ _ _) ?_)
    refine wpAny_setAddHashed_of (knd := strKind P w) (s := { s' with toks := s'.toks + 1 }) (strKind_is _ _ _ _) rfl hS' (by omega) fun h' hsb hS2 => ?_
    have hS3 : h'.SetOf (strKind P w) S (fun j => decide (j ∈ ns.take (i + 1))) (if decide (z ∈ ns.take i) = true then c else c + 1) := SetOf_congr hS2 (fun j => by
      rw [List.take_add_one, hz]
      simp [List.mem_append]) rfl
    have hc3 : (if decide (z ∈ ns.take i) = true then c else c + 1) ≤ i + 1 ∧ ((if decide (z ∈ ns.take i) = true then c else c + 1) = i + 1 ↔ (ns.take (i + 1)).Nodup) := by
      rw [List.take_add_one, hz, Option.toList_some, nodup_snoc]
      by_cases m : z ∈ ns.take i
      · rw [decide_eq_true m, if_pos rfl]
        exact ⟨by omega, fun e => by omega, fun e => absurd m e.2⟩
      · rw [decide_eq_false m, if_neg (by decide)]
        exact ⟨by omega, fun e => ⟨hcn.mp (by omega), m⟩, fun e => by rw [hcn.mpr e.1]⟩
    refine wpAny_pure ⟨plainId_quiet PyProof.Rows.F.plain_set_update_loop _, ih (i + 1) _ (by omega) hlt (W.frame _ s' _ _ hst' (Nat.le_succ _) fun b hb o e => ?_) ⟨_, hc3, hS3⟩ fun s'' c2 hm'' hc'' hS'' => ?_⟩
    · rw [hsb.2 b (fun h : b = S => hSf (by rw [← h]; exact hb))]; exact e
    · refine hR s'' c2 (Moved.trans W.gtrans ((hm.mono hsub).then_heap (Nat.le_succ _) fun b o hb e => ?_) hm'') hc'' hS''
      rw [hsb.2 b (fun h : b = S => hb (by rw [h]; exact List.mem_cons_self))]; exact e
set_option maxHeartbeats 4000000 in
theorem made_setT {l : Addr} {its : Array Value} (ns : List Str) {Q : Value → Shared → Prop} (hh : A.handled = none) (hl : s.heap.IsList l its) (hit : StrsAre its.toList ns) (hb : ns.length + 1 < scanBound)
    (h : ∀ (h' : Heap) (tk c : Nat), h'.SetOf (strKind P w) s.heap.objs.size (fun j => decide (j ∈ ns)) c → (c ≤ ns.length ∧ (c = ns.length ↔ ns.Nodup)) → (∀ b o, s.heap.get? b = some o → h'.get? b = some o) → Q (.ref s.heap.objs.size) { s with heap := h', toks := tk }) :
    wpAny (model P w) A (call (.type "set") [.ref l]) Q E s := by
  have hsz : its.size = ns.length := by
    have q := StrsAre.len_eq hit
    rwa [Array.length_toList] at q
  obtain ⟨c, tl, hmro⟩ := PySem.F.called_set.mro
  have hmade := PySem.F.called_set.made
  have hsub := PySem.F.called_set.sub
  have h1 := PySem.F.called_set.notType
  have h2 := PySem.F.called_set.canCreate
  have hct := PySem.F.typeCall_set_1 (.ref l)
  refine wpAny_call (codeAny_of_tree ?_)
  show wpAny _ _ (callAny (.type "set") _) _ _ _
  refine wpAny_pure ⟨Code.quiet_builtin _ (by decide +kernel), codeAny_builtin PySem.F.entry_type_call ?_⟩
  rw [Around.under_plain (weight_type_call_type "set" [.ref l] []) rfl]
  repeat (any_goals (first | assumption | wp_step))
  refine codeAny_mono (code_set_led1 (.ref l) (E := E) (Q₁ := fun obj s₁ => obj = .ref s.heap.objs.size ∧ s₁ = { s with heap := s.heap.push (nSetT w) }) ⟨rfl, rfl⟩) ?_
  intro r s₁ hr
  match r, hr with
  | .error e, hr => exact hr
  | .ok (.ret obj), ⟨e1, e2⟩ =>
    subst e1 e2
    have hS : (s.heap.push (nSetT w)).get? s.heap.objs.size = some (nSetT w) := Heap.get?_push_size _ rfl
    have hT : Shared.TypeIs { s with heap := s.heap.push (nSetT w) } (.ref s.heap.objs.size) "set" := ⟨_, hS, rfl⟩
    have hli := PySem.F.called_set.init.lookup
    have hbi := PySem.F.called_set.init.bind (.ref s.heap.objs.size)
    repeat (any_goals (first | assumption | wp_step))
    refine codeAny_mono (codeAny_call_builtin (R := wants (fun r s₂ => r = .none ∧ ∃ h' tk c, s₂ = { s with heap := h', toks := tk } ∧ h'.SetOf (strKind P w) s.heap.objs.size (fun j => decide (j ∈ ns)) c ∧ (c ≤ ns.length ∧ (c = ns.length ↔ ns.Nodup)) ∧ (∀ b o, s.heap.get? b = some o → h'.get? b = some o)) E)
      PySem.F.called_set.init.plain PySem.F.entry_set_init (check_set_init_1 hT ?_)) fun r₂ s₂ hr₂ => ?_
    · obtain ⟨ol, hol, hcl, nl, hdl⟩ := hl
      obtain ⟨ocls, odict, odata, oslots⟩ := ol
      simp only at hcl hdl
      subst hcl; subst hdl
      have hlS : l < s.heap.objs.size := Heap.lt_size hol
      have hol' : (s.heap.push (nSetT w)).get? l = some { cls := .type "list", dict := odict, data := .seq its nl, slots := oslots } := Heap.get?_push_of_some _ hol
      have hl1 : (s.heap.push (nSetT w)).IsList l its := ⟨_, hol', rfl, nl, rfl⟩
      have hz : (s.heap.push (nSetT w)).objs.size = s.heap.objs.size + 1 := Heap.size_push ..
      have hsls := PySem.F.sub_list_set
      have hslf := PySem.F.sub_list_frozenset
      have hne : (Value.type "list" == Value.type "dict") = false := by decide
      unfold Builtin.«set.__init__» noKeywords Builtin.Frozenset.updateFrom
      generalize hPI : pyIter = PI
      wp_walk
      subst hPI
      refine wpAny_pyIter_list hl1 (wpAny_bind (wpAny_runValue ?_))
      have hh3 : A.in1.in1.in1.handled = none := by simp [hh]
      have hI : l ≠ (s.heap.push (nSetT w)).objs.size := by rw [hz]; exact Nat.ne_of_lt (Nat.lt_succ_of_lt hlS)
      have hSf : s.heap.objs.size ∉ [(s.heap.push (nSetT w)).objs.size, l] := by
        rw [hz]
        intro m
        rcases List.mem_cons.mp m with e | m
        · exact absurd e (Nat.ne_of_lt (Nat.lt_succ_self _))
        · exact absurd (List.mem_singleton.mp m).symm (Nat.ne_of_lt hlS)
      have hval : ∀ (i : Nat) (v : Value), its[i]? = some v → ∃ k t, ns[i]? = some k ∧ v = .str k t := fun i v hv => strs_at hit i v (by rw [Array.getElem?_toList]; exact hv)
      have hget : ((s.heap.push (nSetT w)).push { cls := .type "list_iterator", data := .fields #[.ref l, .int 0 0] }).get? s.heap.objs.size = some (nSetT w) := Heap.get?_push_of_some _ hS
      refine set_update_txs ((Walks.list hh3 _ l hI its).toS) s.heap.objs.size hSf ns hsz hb hval (its.size - 0) 0 _ (by omega) (Nat.zero_le _) ⟨⟨_, Heap.get?_push_size _ rfl, rfl, rfl⟩, (hl1.push _)⟩ ⟨0, ⟨Nat.le_refl 0, by simp⟩, setT_new_at hget⟩ ?_
      intro s' c' hm hc' hS'
      obtain ⟨h', g2, d', tk', os'⟩ := s'
      have eg : g2 = s.gens := hm.gens
      have ed : d' = s.drawn := hm.drawn
      have eo : os' = s.os := hm.os
      subst eg; subst ed; subst eo
      show wpAny _ _ _ _ _ _
      refine wpAny_pure ?_
      show wpAny _ _ (ret Value.none) _ _ _
      rw [hsz] at hc'
      refine wpAny_pure ⟨rfl, h', tk', c', rfl, hS', hc', fun b o e => hm.heap b o (fun m => ?_) (Heap.get?_push_of_some _ (Heap.get?_push_of_some _ e))⟩
      have hb0 := Heap.lt_size e
      rcases List.mem_cons.mp m with z | m
      · exact absurd z (Nat.ne_of_lt hb0)
      · have z := List.mem_singleton.mp m
        rw [hz] at z
        exact absurd z (Nat.ne_of_lt (Nat.lt_succ_of_lt hb0))
    · match r₂, hr₂ with
      | .error e, hr₂ => exact hr₂
      | .ok (.ret r), ⟨e1, h', tk, c', e2, hS', hc', hk'⟩ =>
        subst e1 e2
        repeat (any_goals (first | assumption | wp_step))
        exact h _ _ _ hS' hc' hk'
      | .ok .next, hr₂ => exact hr₂.elim
      | .ok .brk, hr₂ => exact hr₂.elim
      | .ok .cont, hr₂ => exact hr₂.elim
  | .ok .next, hr => exact hr.elim
  | .ok .brk, hr => exact hr.elim
  | .ok .cont, hr => exact hr.elim
end
section
variable {X : Cx}
/-- the set of texts at a -/
def SetT (P : Program) (w : World) (a : Addr) (S : Str → Bool) (n : Nat) : HO := .ext fun h => h.SetOf (strKind P w) a S n
theorem setT_new {w : World} {P : Program} {H : Hp} {h : Heap} {a : Addr} {S : Str → Bool} {n : Nat} (R : h.SetOf (strKind P w) a S n) : ObjOk P w H h a (SetT P w a S n) := by
  have ⟨o, _, _, _, ho, _⟩ := R
  exact ⟨R, ⟨o, ho⟩, fun h1 h2 p k => setOfT_at p k⟩
/-- set(list of texts) -/
def rSetT (P : Program) (w : World) (K : PySem.W.Frag) : List V → Hp → VK → Prop := fun vs H Q => ∃ (l : Addr) (ns : List Str), vs = [V.ref l] ∧ SqL K H l (ns.map V.str) ∧ ns.length < 4000 ∧
  ∀ (p : Addr) (c : Nat), H p = none → (c ≤ ns.length ∧ (c = ns.length ↔ ns.Nodup)) → Q (.ref p) (upd H p (SetT P w p (fun j => decide (j ∈ ns)) c))
theorem cr_setT (hc : X.calm = true) : CallR X (.type "set") (rSetT X.prog X.w X.K) := by
  intro pins s σ H vs us Q I r h
  obtain ⟨a, ns, rfl, hs, hl4, q⟩ := h
  obtain ⟨its, rv, hl, _⟩ := I.list hs
  rw [Vals.ref1 r]
  refine made_setT ns (I.ok.hd hc) hl.isList rv.strs (by unfold scanBound; omega) fun h' tk c R hcn k => ?_
  exact ⟨.ref _, upd H s.heap.objs.size (SetT X.prog X.w s.heap.objs.size (fun j => decide (j ∈ ns)) c), I.laid (t' := tk) k (Nat.le_refl _) (setT_new R), rfl, q _ _ (I.hok.fresh (Nat.le_refl _)) hcn⟩
/-- len(set of texts) -/
def rLenT (P : Program) (w : World) : List V → Hp → VK → Prop := fun vs H Q => ∃ (a : Addr) (S : Str → Bool) (n : Nat), vs = [V.ref a] ∧ H a = some (SetT P w a S n) ∧ Q (.int n) H
theorem call_lenT : CallR X (.builtin "len") (rLenT X.prog X.w) := by
  intro pins s σ H vs us Q I r h
  obtain ⟨a, S, n, rfl, ha, q⟩ := h
  have R : s.heap.SetOf (strKind X.prog X.w) a S n := (I.hok a _ ha).1
  rw [Vals.ref1 r]
  obtain ⟨o, es, ep, t, ho, hex, hd, _, _, hb, hf, hn⟩ := R
  have hn96 : es.size < 4096 := hb
  refine call_len_set ho hex hd hf (by omega) ?_
  exact ⟨.int n, H, I.tok _, ⟨_, by rw [hn]⟩, q⟩
end
/-! ### walks over zip within lists; things of any kind, dicts too -/
/-- a thing without dicts -/
inductive Th (T : Addr) (H : Hp) : V → PyData → Prop
  | non : Th T H .non .none
  | bl (b : Bool) : Th T H (.bl b) (.bool b)
  | int (i : Int) : Th T H (.int i) (.int i)
  | str (x : Str) : Th T H (.str x) (.str x)
  | l0 {a : Addr} : a ≠ T → H a = some (.lst []) → Th T H (.ref a) (.list [])
  | l1 {a : Addr} {v : V} {d : PyData} : a ≠ T → H a = some (.lst [v]) → Th T H v d → Th T H (.ref a) (.list [d])
  | t0 {a : Addr} : a ≠ T → H a = some (.tup []) → Th T H (.ref a) (.tuple [])
  | t1 {a : Addr} {v : V} {d : PyData} : a ≠ T → H a = some (.tup [v]) → Th T H v d → Th T H (.ref a) (.tuple [d])
  | t2 {a : Addr} {v y : V} {d e : PyData} : a ≠ T → H a = some (.tup [v, y]) → Th T H v d → Th T H y e → Th T H (.ref a) (.tuple [d, e])
theorem Th.keep {T : Addr} {H H' : Hp} {v : V} {d : PyData} (h : Th T H v d) (k : Keep T H H') : Th T H' v d := by
  induction h with
  | non => exact .non
  | bl b => exact .bl b
  | int i => exact .int i
  | str x => exact .str x
  | l0 n e => exact .l0 n (k _ _ n e)
  | l1 n e _ ih => exact .l1 n (k _ _ n e) ih
  | t0 n e => exact .t0 n (k _ _ n e)
  | t1 n e _ ih => exact .t1 n (k _ _ n e) ih
  | t2 n e _ _ ih ih2 => exact .t2 n (k _ _ n e) ih ih2
theorem Th.dp {K : PySem.W.Frag} {T : Addr} {H : Hp} {v : V} {d : PyData} (h : Th T H v d) : Dp K H v d := by
  induction h with
  | non => exact .non
  | bl b => exact .bl b
  | int i => exact .int i
  | str x => exact .str x
  | l0 n e => exact .lst (SqL.of e) .nil
  | l1 n e _ ih => exact .lst (SqL.of e) (.cons ih .nil)
  | t0 n e => exact .tup (SqT.of e) .nil
  | t1 n e _ ih => exact .tup (SqT.of e) (.cons ih .nil)
  | t2 n e _ _ ih ih2 => exact .tup (SqT.of e) (.cons ih (.cons ih2 .nil))
/-- a flat dict, texts to ints -/
def dKv (kvs : List (Str × Int)) : List (Key × V) := kvs.map fun p => (.inr p.1, .int p.2)
def dD (kvs : List (Str × Int)) : PyData := .dict (kvs.map fun p => (.str p.1, .int p.2))
def ShowOk (d : PyData) : Prop := d.showable = true ∧ d.shown.length ≤ 1000
inductive Thing (T : Addr) (H : Hp) : V → PyData → Prop
  | th {v : V} {d : PyData} : Th T H v d → SeqAt.shaped d = true → ShowOk d → Thing T H v d
  | dc {a : Addr} {kvs : List (Str × Int)} : a ≠ T → H a = some (.dK (dKv kvs)) → ShowOk (dD kvs) → Thing T H (.ref a) (dD kvs)
theorem Thing.keep {T : Addr} {H H' : Hp} {v : V} {d : PyData} (h : Thing T H v d) (k : Keep T H H') : Thing T H' v d := by
  cases h with
  | th a b c => exact .th (a.keep k) b c
  | dc n e c => exact .dc n (k _ _ n e) c
theorem Thing.same {T : Addr} {H H' : Hp} {v : V} {d : PyData} (h : Thing T H v d) (k : Same H H') : Thing T H' v d := h.keep fun a o _ e => k a o e
theorem Thing.ok {T : Addr} {H : Hp} {v : V} {d : PyData} (h : Thing T H v d) : ShowOk d := by
  cases h with
  | th _ _ c => exact c
  | dc _ _ c => exact c
theorem pairs_read {h : Heap} : ∀ {kvs : List (Str × Int)} {vs : List (Key × Value)}, KV (dKv kvs) vs → PyProof.V.PairsRead h (fun k : Key => match k with | .inl i => PyData.int i | .inr x => PyData.str x) vs (kvs.map fun p => (.str p.1, .int p.2)) []
  | [], _, r => by
    unfold KV dKv at r
    rw [List.map_nil] at r
    cases r
    exact .nil
  | p :: kvs, _, r => by
    unfold KV dKv at r
    rw [List.map_cons] at r
    cases r with
    | @cons a b as bs h1 t =>
      obtain ⟨k, v⟩ := b
      obtain ⟨e1, e2⟩ := h1
      cases (show Sum.inr p.1 = k from e1)
      obtain ⟨tk, rfl⟩ := (show ∃ t, v = Value.int p.2 t from e2)
      exact .cons (as := []) (.int _ _) (pairs_read (kvs := kvs) t)
theorem dict_reads {P : Program} {w : World} {H : Hp} {h : Heap} {a : Addr} {kvs : List (Str × Int)} (ok : HOk P w H h) (e : H a = some (.dK (dKv kvs))) : Reads h (.ref a) (dD kvs) [a] ∧ a ≠ sysModules := by
  obtain ⟨_, hd, vs, rk, dd⟩ := dk_of ok e
  refine ⟨PyProof.V.reads_dictOf (knd := mixKind P w) (enc := fun k : Key => match k with | .inl i => PyData.int i | .inr x => PyData.str x) (fun k key hk => ?_) dd (pairs_read rk), fun z => ?_⟩
  · rcases keyIs_shape hk with ⟨i, t, rfl, rfl⟩ | ⟨x, t, rfl, rfl⟩
    · exact .int _ _
    · exact .str _ _
  · rw [z] at hd
    exact absurd hd (by simp)
/-- repr(x) of a thing -/
def rReprO : List V → Hp → VK → Prop := fun xs H Q => ∃ x T d, xs = [x] ∧ Thing T H x d ∧ Q (.str d.shown) H
section
variable {X : Cx}
theorem call_reprO {k : Nat} (gd : X.A.guards = some []) (hr : Room k X.A) : CallR X (.builtin "repr") rReprO := by
  intro pins s σ H xs us Q I r h
  obtain ⟨x, T, d, rfl, ht, q⟩ := h
  cases ht with
  | th th sh so => exact call_reprD gd hr pins s σ H [x] us Q I r ⟨x, d, rfl, th.dp, sh, so.1, Nat.le_trans so.2 (by decide), q⟩
  | @dc a kvs n e so =>
    obtain ⟨u, rfl, ru⟩ := Vals.one r
    cases (show u = Value.ref a from ru)
    obtain ⟨rd, ns⟩ := dict_reads I.hok e
    have un := hr.un
    have hdep : (dD kvs).depth ≤ 1 := by
      unfold dD
      rw [PyData.depth]
      have : ∀ l : List (Str × Int), PyData.depthKv (l.map fun p => (PyData.str p.1, PyData.int p.2)) = 0 := by
        intro l
        induction l with
        | nil => simp [PyData.depthKv]
        | cons p l ih => simp [PyData.depthKv, PyData.depth, ih]
      rw [this]
      decide
    exact repr_of_reads' rd so.1 (fun _ => by simpa using Ne.symm ns) gd (by omega) (fun _ _ z => z) (fun h' t' tk hk => ⟨V.str (PyData.shown _), H, I.kept hk, ⟨_, rfl⟩, q⟩) (Nat.le_trans so.2 (by decide))
end
theorem thS {T : Addr} {H : Hp} {v : V} {d : PyData} (h : Th T H v d) (a : SeqAt.shaped d = true) (b : ShowOk d) : ∃ d, Thing T H v d := ⟨d, .th h a b⟩
def spOdd : Sp := fun vs H Q _ => ∃ (T c : Addr) (n : Nat), vs = [.ref T] ∧ n < 900000 ∧ Tape H T c n ∧ ∀ v d H', Thing T H' v d → Tape H' T c (n + 10) → Keep T H H' → Q v H'
section
variable {P : Program} {w : World} {K : PySem.W.Frag} {mg : Str → Option Value} {base : Heap}
theorem ok_odd {f fD fP : Addr} {fd fdD fdP : FuncData} {k : Nat} (F : Fun K "_law_odd" "_law_odd" sOdd f fd) (T0 : Txt0 mg)
    (F_law_draw : Fun K "_law_draw" "_law_draw" sDraw fD fdD) (g_law_draw : mg "_law_draw" = some (.ref fD)) (b_law_draw : Binds K fdD ["_law_tape_here", "_law_many"] [])
    (F_law_pick : Fun K "_law_pick" "_law_pick" sPick fP fdP) (g_law_pick : mg "_law_pick" = some (.ref fP)) (b_law_pick : Binds K fdP ["_law_tape_here", "_law_some"] []) :
    FnOk P w K mg base CX0 (k + 3) f fd ["_law_tape_here"] spOdd := by
  have G_law_pick : FnOk P w K mg base CX0 (k + 2) fP fdP ["_law_tape_here", "_law_some"] spPick := ok_pick F_law_pick T0 F_law_draw g_law_draw b_law_draw
  refine F.ok scOdd (fun vs H Q E h => ?_) (fun cdv A outer s H vs Q E hr h => ?_)
  · obtain ⟨a, c, n, rfl, _⟩ := h
    rfl
  · obtain ⟨a, c, n, rfl, hn, hT, q⟩ := h
    have hr_law_pick := hr
    refine ⟨_,
      (pss_cut (ps_set (i := 1) scOdd.nd rfl (.inl rfl) (pe_lst (pa_cons pe_non (pa_cons pe_bl (pa_cons pe_bl (pa_cons pe_int (pa_cons pe_int (pa_cons (pe_un un_neg pe_int) (pa_cons pe_int (pa_cons (pe_op op_pow pe_int pe_int) (pa_cons pe_str (pa_cons pe_str (pa_cons pe_str (pa_cons pe_str (pa_cons pe_str (pa_cons (pe_tup pa_nil) (pa_cons (pe_lst pa_nil) (pa_cons pe_dnewK (pa_cons (pe_tup (pa_cons pe_int (pa_cons pe_int pa_nil))) (pa_cons (pe_lst (pa_cons pe_int pa_nil)) (pa_cons (pe_lst (pa_cons pe_str pa_nil)) pa_nil)))))))))))))))))))))
      (pss_cut (ps_set (i := 1) scOdd.nd rfl (.inl rfl) (pe_op op_cat (pv 1) (pe_lst (pa_cons (pe_disp (pps_cons pe_str pe_int pps_nil) rfl rfl (by simp) (by decide)) (pa_cons (pe_tup (pa_cons (pe_tup pa_nil) pa_nil)) (pa_cons (pe_lst (pa_cons (pe_lst pa_nil) pa_nil)) (pa_cons (pe_tup (pa_cons pe_int pa_nil)) (pa_cons (pe_tup (pa_cons pe_str (pa_cons pe_int pa_nil))) (pa_cons (pe_lst (pa_cons pe_non pa_nil)) (pa_cons pe_str (pa_cons (pe_tup (pa_cons (pe_tup (pa_cons (pe_tup (pa_cons pe_int pa_nil)) pa_nil)) pa_nil)) (pa_cons (pe_un un_neg (pe_op op_pow pe_int pe_int)) pa_nil))))))))))))
      (pss_one (ps_ret (pe_call G_law_pick hr_law_pick (by rfl) g_law_pick F_law_pick.kp b_law_pick .nil pass0 (pa_cons (pv 0) (pa_cons (pv 1) pa_nil)))))))
      , ?_⟩
    refine ⟨fun σ H1 => ∃ (l : Addr) (xs : List V), σ = [some (.ref a), some (.ref l)] ∧ H1 l = some (.lst xs) ∧ l ≠ a ∧ xs.length = 19 ∧ (∀ x ∈ xs, ∃ d, Thing a H1 x d) ∧ Tape H1 a c n ∧ Keep a H H1, ?_, ?_⟩
    · refine ⟨_, rfl, _, _, rfl, rfl, ⟨by decide, by decide, by decide⟩, (by show 0 ≤ sizeLine; decide), fun t0 ht0 => ⟨by show 0 ≤ sizeLine; decide, fun l0 hl0 => fun dk hdk => ⟨by show 2 ≤ sizeLine; decide, fun t1 ht1 => ⟨by show 1 ≤ sizeLine; decide, fun l1 hl1 => ⟨by show 1 ≤ sizeLine; decide, fun l2 hl2 => ⟨by show 19 ≤ sizeLine; decide, fun ls hls => ?_⟩⟩⟩⟩⟩⟩
      have T1 := hT.new (o := .tup []) ht0
      have T2 := T1.new (o := .lst []) hl0
      have T3 := T2.new (o := .dK []) hdk
      have T4 := T3.new (o := .tup [.int 0, .int 1]) ht1
      have T5 := T4.new (o := .lst [.int 0]) hl1
      have T6 := T5.new (o := .lst [.str "a"]) hl2
      refine ⟨ls, _, rfl, upd_same, T6.ne hls, rfl, ?_, T6.new hls, (((((((Keep.refl.new ht0).new hl0).new hdk).new ht1).new hl1).new hl2).new hls)⟩
      intro x hx
      simp only [List.mem_cons, List.not_mem_nil, or_false] at hx
      have e0 := upd_at (o := .lst [.non, .bl true, .bl false, .int 0, .int 1, .int (-1), .int 7, .int (10 ^ (30 : Int).toNat), .str "", .str "a", .str "A", .str "00:00", .str "1", .ref t0, .ref l0, .ref dk, .ref t1, .ref l1, .ref l2]) hls (upd_at hl2 (upd_at hl1 (upd_at ht1 (upd_at hdk (upd_at hl0 (upd_same (H := H) (a := t0) (o := .tup [])))))))
      rcases hx with rfl | rfl | rfl | rfl | rfl | rfl | rfl | rfl | rfl | rfl | rfl | rfl | rfl | rfl | rfl | rfl | rfl | rfl | rfl
      · exact thS (.non) (by decide +kernel) (by unfold ShowOk; decide +kernel)
      · exact thS (.bl _) (by decide +kernel) (by unfold ShowOk; decide +kernel)
      · exact thS (.bl _) (by decide +kernel) (by unfold ShowOk; decide +kernel)
      · exact thS (.int _) (by decide +kernel) (by unfold ShowOk; decide +kernel)
      · exact thS (.int _) (by decide +kernel) (by unfold ShowOk; decide +kernel)
      · exact thS (.int _) (by decide +kernel) (by unfold ShowOk; decide +kernel)
      · exact thS (.int _) (by decide +kernel) (by unfold ShowOk; decide +kernel)
      · exact thS (.int _) (by decide +kernel) (by unfold ShowOk; decide +kernel)
      · exact thS (.str _) (by decide +kernel) (by unfold ShowOk; decide +kernel)
      · exact thS (.str _) (by decide +kernel) (by unfold ShowOk; decide +kernel)
      · exact thS (.str _) (by decide +kernel) (by unfold ShowOk; decide +kernel)
      · exact thS (.str _) (by decide +kernel) (by unfold ShowOk; decide +kernel)
      · exact thS (.str _) (by decide +kernel) (by unfold ShowOk; decide +kernel)
      · exact thS (.t0 (hT.ne ht0) e0) (by decide +kernel) (by unfold ShowOk; decide +kernel)
      · exact thS (.l0 (T1.ne hl0) (upd_at hls (upd_at hl2 (upd_at hl1 (upd_at ht1 (upd_at hdk upd_same)))))) (by decide +kernel) (by unfold ShowOk; decide +kernel)
      · exact ⟨_, .dc (kvs := []) (T2.ne hdk) (upd_at hls (upd_at hl2 (upd_at hl1 (upd_at ht1 upd_same)))) (by unfold ShowOk; decide +kernel)⟩
      · exact thS (.t2 (T3.ne ht1) (upd_at hls (upd_at hl2 (upd_at hl1 upd_same))) (.int _) (.int _)) (by decide +kernel) (by unfold ShowOk; decide +kernel)
      · exact thS (.l1 (T4.ne hl1) (upd_at hls (upd_at hl2 upd_same)) (.int _)) (by decide +kernel) (by unfold ShowOk; decide +kernel)
      · exact thS (.l1 (T5.ne hl2) (upd_at hls upd_same) (.str _)) (by decide +kernel) (by unfold ShowOk; decide +kernel)
    rintro σ H1 ⟨ls, xs, rfl, els, nls, lxs, hxs, T0', k0⟩
    refine ⟨fun σ H2 => ∃ (l : Addr) (xs : List V), σ = [some (.ref a), some (.ref l)] ∧ H2 l = some (.lst xs) ∧ l ≠ a ∧ xs.length = 28 ∧ (∀ x ∈ xs, ∃ d, Thing a H2 x d) ∧ Tape H2 a c n ∧ Keep a H H2, ?_, ?_⟩
    · refine ⟨_, rfl, fun d1 hd1 => ⟨upd_same, [(.inr "a", .int 1)], rfl, by decide, ?_⟩⟩
      have nd := T0'.ne hd1
      have T1 := (T0'.new (o := .dK []) hd1).upd (o := .dK (mergeK [] [(Sum.inr (Str.ofString "a"), V.int 1)])) nd (T0'.nec hd1)
      have k1 : Keep a H1 (upd (upd H1 d1 (.dK [])) d1 (.dK (mergeK [] [(Sum.inr (Str.ofString "a"), V.int 1)]))) := fun x o nx e => by
        rw [upd_ne (ne_of_none e hd1), upd_ne (ne_of_none e hd1)]; exact e
      have ed : (upd (upd H1 d1 (.dK [])) d1 (.dK (mergeK [] [(Sum.inr (Str.ofString "a"), V.int 1)]))) d1 = some (.dK (dKv [("a", 1)])) := upd_same
      generalize upd (upd H1 d1 (.dK [])) d1 (.dK (mergeK [] [(Sum.inr (Str.ofString "a"), V.int 1)])) = H2 at T1 k1 ed ⊢
      refine ⟨by show 0 ≤ sizeLine; decide, fun u0 hu0 => ⟨by show 1 ≤ sizeLine; decide, fun u1 hu1 => ⟨by show 0 ≤ sizeLine; decide, fun m0 hm0 => ⟨by show 1 ≤ sizeLine; decide, fun m1 hm1 => ⟨by show 1 ≤ sizeLine; decide, fun u2 hu2 => ⟨by show 2 ≤ sizeLine; decide, fun u3 hu3 => ⟨by show 1 ≤ sizeLine; decide, fun m2 hm2 => ⟨by show 1 ≤ sizeLine; decide, fun u4 hu4 => ⟨by show 1 ≤ sizeLine; decide, fun u5 hu5 => ⟨by show 1 ≤ sizeLine; decide, fun u6 hu6 => ?_⟩⟩⟩⟩⟩⟩⟩⟩⟩⟩
      have A1 := T1.new (o := .tup []) hu0
      have A2 := A1.new (o := .tup [.ref u0]) hu1
      have A3 := A2.new (o := .lst []) hm0
      have A4 := A3.new (o := .lst [.ref m0]) hm1
      have A5 := A4.new (o := .tup [.int 1]) hu2
      have A6 := A5.new (o := .tup [.str "a", .int 1]) hu3
      have A7 := A6.new (o := .lst [.non]) hm2
      have A8 := A7.new (o := .tup [.int 1]) hu4
      have A9 := A8.new (o := .tup [.ref u4]) hu5
      have A10 := A9.new (o := .tup [.ref u5]) hu6
      have B1 := k1.new (o := .tup []) hu0
      have B2 := B1.new (o := .tup [.ref u0]) hu1
      have B3 := B2.new (o := .lst []) hm0
      have B4 := B3.new (o := .lst [.ref m0]) hm1
      have B5 := B4.new (o := .tup [.int 1]) hu2
      have B6 := B5.new (o := .tup [.str "a", .int 1]) hu3
      have B7 := B6.new (o := .lst [.non]) hm2
      have B8 := B7.new (o := .tup [.int 1]) hu4
      have B9 := B8.new (o := .tup [.ref u4]) hu5
      have B10 := B9.new (o := .tup [.ref u5]) hu6
      have C10 := upd_same (H := upd (upd (upd (upd (upd (upd (upd (upd (upd H2 u0 (.tup [])) u1 (.tup [.ref u0])) m0 (.lst [])) m1 (.lst [.ref m0])) u2 (.tup [.int 1])) u3 (.tup [.str "a", .int 1])) m2 (.lst [.non])) u4 (.tup [.int 1])) u5 (.tup [.ref u4])) (a := u6) (o := .tup [.ref u5])
      have C9 := upd_at (o := .tup [.ref u5]) hu6 (upd_same (H := upd (upd (upd (upd (upd (upd (upd (upd H2 u0 (.tup [])) u1 (.tup [.ref u0])) m0 (.lst [])) m1 (.lst [.ref m0])) u2 (.tup [.int 1])) u3 (.tup [.str "a", .int 1])) m2 (.lst [.non])) u4 (.tup [.int 1])) (a := u5) (o := .tup [.ref u4]))
      have C8 := upd_at (o := .tup [.ref u5]) hu6 (upd_at (o := .tup [.ref u4]) hu5 (upd_same (H := upd (upd (upd (upd (upd (upd (upd H2 u0 (.tup [])) u1 (.tup [.ref u0])) m0 (.lst [])) m1 (.lst [.ref m0])) u2 (.tup [.int 1])) u3 (.tup [.str "a", .int 1])) m2 (.lst [.non])) (a := u4) (o := .tup [.int 1])))
      have D7 : Keep a (upd (upd (upd (upd (upd (upd (upd H2 u0 (.tup [])) u1 (.tup [.ref u0])) m0 (.lst [])) m1 (.lst [.ref m0])) u2 (.tup [.int 1])) u3 (.tup [.str "a", .int 1])) m2 (.lst [.non])) (upd (upd (upd (upd (upd (upd (upd (upd (upd (upd H2 u0 (.tup [])) u1 (.tup [.ref u0])) m0 (.lst [])) m1 (.lst [.ref m0])) u2 (.tup [.int 1])) u3 (.tup [.str "a", .int 1])) m2 (.lst [.non])) u4 (.tup [.int 1])) u5 (.tup [.ref u4])) u6 (.tup [.ref u5])) := ((Keep.refl.new hu4).new hu5).new hu6
      have C7 := D7 _ _ (A6.ne hm2) upd_same
      have C6 := D7 _ _ (A5.ne hu3) (upd_at hm2 upd_same)
      have C5 := D7 _ _ (A4.ne hu2) (upd_at hm2 (upd_at hu3 upd_same))
      have C4 := D7 _ _ (A3.ne hm1) (upd_at hm2 (upd_at hu3 (upd_at hu2 upd_same)))
      have C3 := D7 _ _ (A2.ne hm0) (upd_at hm2 (upd_at hu3 (upd_at hu2 (upd_at hm1 upd_same))))
      have C2 := D7 _ _ (A1.ne hu1) (upd_at hm2 (upd_at hu3 (upd_at hu2 (upd_at hm1 (upd_at hm0 upd_same)))))
      have C1 := D7 _ _ (T1.ne hu0) (upd_at hm2 (upd_at hu3 (upd_at hu2 (upd_at hm1 (upd_at hm0 (upd_at hu1 upd_same))))))
      have C0 := D7 _ _ nd (upd_at hm2 (upd_at hu3 (upd_at hu2 (upd_at hm1 (upd_at hm0 (upd_at hu1 (upd_at hu0 ed)))))))
      have n0 := T1.ne hu0
      have n1 := A1.ne hu1
      have n2 := A2.ne hm0
      have n3 := A3.ne hm1
      have n4 := A4.ne hu2
      have n5 := A5.ne hu3
      have n6 := A6.ne hm2
      have n7 := A7.ne hu4
      have n8 := A8.ne hu5
      have n9 := A9.ne hu6
      generalize upd (upd (upd (upd (upd (upd (upd (upd (upd (upd H2 u0 (.tup [])) u1 (.tup [.ref u0])) m0 (.lst [])) m1 (.lst [.ref m0])) u2 (.tup [.int 1])) u3 (.tup [.str "a", .int 1])) m2 (.lst [.non])) u4 (.tup [.int 1])) u5 (.tup [.ref u4])) u6 (.tup [.ref u5]) = H3 at A10 B10 C10 C9 C8 C7 C6 C5 C4 C3 C2 C1 C0 ⊢
      refine ⟨_, _, rfl, rfl, ⟨by decide, by decide, by decide⟩, _, rfl, by show 9 ≤ sizeLine; decide, fun m3 hm3 => ?_⟩
      refine ⟨_, _, _, _, rfl, rfl, upd_at hm3 (B10 _ _ nls els), upd_same, small_line (by rw [lxs]; show 19 + 9 ≤ 100; decide), fun p hp => ?_⟩
      have kf : Keep a H3 (upd (upd H3 m3 (.lst [.ref d1, .ref u1, .ref m1, .ref u2, .ref u3, .ref m2, .str "abcdefghi", .ref u6, .int (-10 ^ (9 : Int).toNat)])) p (.lst (xs ++ [.ref d1, .ref u1, .ref m1, .ref u2, .ref u3, .ref m2, .str "abcdefghi", .ref u6, .int (-10 ^ (9 : Int).toNat)]))) := (Keep.refl.new hm3).new hp
      refine ⟨p, _, rfl, upd_same, (A10.new hm3).ne hp, by rw [List.length_append, lxs]; rfl, ?_, (A10.new hm3).new hp, (k0.trans B10).trans kf⟩
      intro x hx
      rcases List.mem_append.mp hx with hx | hx
      · obtain ⟨d, hd⟩ := hxs x hx
        exact ⟨d, (hd.keep B10).keep kf⟩
      have back : (∃ d, Thing a H3 x d) → ∃ d, Thing a (upd (upd H3 m3 (.lst [.ref d1, .ref u1, .ref m1, .ref u2, .ref u3, .ref m2, .str "abcdefghi", .ref u6, .int (-10 ^ (9 : Int).toNat)])) p (.lst (xs ++ [.ref d1, .ref u1, .ref m1, .ref u2, .ref u3, .ref m2, .str "abcdefghi", .ref u6, .int (-10 ^ (9 : Int).toNat)]))) x d := fun ⟨d, z⟩ => ⟨d, z.keep kf⟩
      refine back ?_
      simp only [List.mem_cons, List.not_mem_nil, or_false] at hx
      rcases hx with rfl | rfl | rfl | rfl | rfl | rfl | rfl | rfl | rfl
      · exact ⟨_, .dc nd C0 (by unfold ShowOk; decide +kernel)⟩
      · exact thS (.t1 n1 C2 (.t0 n0 C1)) (by decide +kernel) (by unfold ShowOk; decide +kernel)
      · exact thS (.l1 n3 C4 (.l0 n2 C3)) (by decide +kernel) (by unfold ShowOk; decide +kernel)
      · exact thS (.t1 n4 C5 (.int _)) (by decide +kernel) (by unfold ShowOk; decide +kernel)
      · exact thS (.t2 n5 C6 (.str _) (.int _)) (by decide +kernel) (by unfold ShowOk; decide +kernel)
      · exact thS (.l1 n6 C7 .non) (by decide +kernel) (by unfold ShowOk; decide +kernel)
      · exact thS (.str _) (by decide +kernel) (by unfold ShowOk; decide +kernel)
      · exact thS (.t1 n9 C10 (.t1 n8 C9 (.t1 n7 C8 (.int _)))) (by decide +kernel) (by unfold ShowOk; decide +kernel)
      · exact thS (.int _) (by decide +kernel) (by unfold ShowOk; decide +kernel)
    rintro σ H2 ⟨ls2, xs2, rfl, el2, nl2, lx2, hx2, T2, k2⟩
    refine ⟨_, rfl, _, rfl, a, c, ls2, xs2, n, rfl, el2, nl2, by omega, by omega, by omega, T2, fun j x H3 hx T3 k3 => ?_⟩
    obtain ⟨d, hd⟩ := hx2 x (List.mem_of_getElem? hx)
    exact q x d H3 (hd.keep k3) (T3.mono (by omega)) (k2.trans k3)
end
def spLBoat (C : Addr) : Sp := fun vs H Q _ => ∃ (p : Addr) (n : Str) (b : Int), vs = [.ref p, .str n, .int b] ∧ BoatAt C H p n b ∧ Q (.bl true) H
def spLBridge (C CB : Addr) : Sp := fun vs H Q _ => ∃ (p bl sl q r s : Addr) (rows : List (Str × Int)) (spans : List Int), vs = [.ref p, .ref q] ∧ BrAt C CB H p bl sl rows spans ∧ PartsAt H q r s rows spans ∧ Good rows spans ∧ ∀ H', Same H H' → Q (.bl true) H'
section
variable {P : Program} {w : World} {K : PySem.W.Frag} {mg : Str → Option Value} {base : Heap} {C CB : Addr}
theorem ok_lboat {f : Addr} {fd : FuncData} {k : Nat} (F : Fun K "_law_is_boat" "_law_is_boat" sLBoat f fd) (TB : BCl K mg C) (T : TxtP mg) : FnOk P w K mg base CX0 (k + 1) f fd ["_law_one", "_law_who", "_law_bears"] (spLBoat C) := by
  refine F.ok scLBoat (fun vs H Q E h => ?_) (fun cdv A outer s H vs Q E hr h => ?_)
  · obtain ⟨p, n, b, rfl, _⟩ := h
    rfl
  · obtain ⟨p, n, b, rfl, hp, q⟩ := h
    have gC := TB.gC
    refine ⟨_,
      (pss_cons (ps_if (PW.pt (pw_or (pt_not (pt_val (pe_callB call_isi (by rfl) T.misinstance (by decide +kernel) (pa_cons (pv 0) (pa_cons (pe_glob (v := .ref C) (by rfl) gC rfl) pa_nil))))) (pw_or (pt_not (pt_val (pe_callB call_isi (by rfl) T.misinstance (by decide +kernel) (pa_cons (pe_fld (pv 0) rfl) (pa_cons (pe_bltn (v := .ty "str") (u := .type "str") (by rfl) T.mstr (by decide +kernel) rfl) pa_nil))))) (pw_or1 (pt_val (pe_callB call_isi (by rfl) T.misinstance (by decide +kernel) (pa_cons (pe_fld (pv 0) rfl) (pa_cons (pe_bltn (v := .ty "bool") (u := .type "bool") (by rfl) T.mbool (by decide +kernel) rfl) pa_nil))))))))
      (pss_one (ps_ret pe_bl))
      pss_nil)
      (pss_one (ps_ret (pe_and (pe_cmpR op_eq (pe_fld (pv 0) rfl) (pv 1) (nomark _)) (pe_and (pe_callB call_isi (by rfl) T.misinstance (by decide +kernel) (pa_cons (pe_fld (pv 0) rfl) (pa_cons (pe_bltn (v := .ty "int") (u := .type "int") (by rfl) T.mint (by decide +kernel) rfl) pa_nil))) (pe_one (pe_cmpR op_eq (pe_fld (pv 0) rfl) (pv 2) (nomark _))))))))
      , ?_⟩
    obtain ⟨dx, ep⟩ := id hp
    refine ⟨_, rfl, _, _, _, _, true, rfl, .own C, isBoat TB hp, kitC, _, rfl, iteF ?_⟩
    refine ⟨_, rfl, p, C, dx, _, _, rfl, ep, TB.cl, TB.nN, boatF_name n b, _, _, _, _, true, rfl, .ty "str", .base (.str _), kit_ty (by decide +kernel), _, rfl, iteF ?_⟩
    refine ⟨_, rfl, p, C, dx, _, _, rfl, ep, TB.cl, TB.nB, boatF_bears n b, _, _, _, _, false, rfl, .ty "bool", .base (.int _), kit_ty (by decide +kernel), _, rfl, iteF ?_⟩
    refine ⟨_, rfl, p, C, dx, _, _, rfl, ep, TB.cl, TB.nN, boatF_name n b, _, rfl, rfl, _, rfl, ?_⟩
    rw [decide_eq_true rfl]
    refine iteT ⟨_, rfl, p, C, dx, _, _, rfl, ep, TB.cl, TB.nB, boatF_bears n b, _, _, _, _, true, rfl, .ty "int", .base (.int _), kit_ty (by decide +kernel), _, rfl, iteT ?_⟩
    refine ⟨_, rfl, p, C, dx, _, _, rfl, ep, TB.cl, TB.nB, boatF_bears n b, _, rfl, rfl, ?_⟩
    rw [decide_eq_true rfl]
    exact q
end
section
variable {P : Program} {w : World} {K : PySem.W.Frag} {mg : Str → Option Value} {base : Heap} {C CB : Addr}
theorem ok_lbridge {f fLB fBo fSp fL : Addr} {fd fdLB fdBo fdSp fdL : FuncData} {k : Nat} (F : Fun K "_law_is_bridge" "_law_is_bridge" sLBridge f fd) (TB0 : TxtB mg) (TB : BCl K mg C) (TC : BrCl K mg CB) (TBL : PySem.W.findIn K (.ref CB) "__bool__" = some none) (T : TxtP mg)
    (mboats : Meth K CB "boats" fBo) (FBo : Fun K "boats" "Bridge.boats" sBrBoats fBo fdBo) (bboats : Binds K fdBo ["self"] [])
    (mspans : Meth K CB "spans" fSp) (FSp : Fun K "spans" "Bridge.spans" sBrSpans fSp fdSp) (bspans : Binds K fdSp ["self"] [])
    (mL : Meth K CB "__len__" fL) (FL : Fun K "__len__" "Bridge.__len__" sBrLen fL fdL) (bL : Binds K fdL ["self"] [])
    (F_law_is_boat : Fun K "_law_is_boat" "_law_is_boat" sLBoat fLB fdLB) (g_law_is_boat : mg "_law_is_boat" = some (.ref fLB)) (b_law_is_boat : Binds K fdLB ["_law_one", "_law_who", "_law_bears"] []) :
    FnOk P w K mg base CX0 (k + 5) f fd ["_law_bridge", "_law_parts"] (spLBridge C CB) := by
  have Gboats : FnOk P w K mg base CX0 (k + 1) fBo fdBo ["self"] (spBrBoats C CB) := ok_brboats FBo TB0 TC
  have Gspans : FnOk P w K mg base CX0 (k + 1) fSp fdSp ["self"] (spBrSpans C CB) := ok_brspans FSp TB0 TC
  have GL : FnOk P w K mg base CX0 (k + 1) fL fdL ["self"] (spBrLen C CB) := ok_brlen FL TB0 TC
  have G_law_is_boat : FnOk P w K mg base CX0 (k + 1) fLB fdLB ["_law_one", "_law_who", "_law_bears"] (spLBoat C) := ok_lboat F_law_is_boat TB T
  refine F.ok scLBridge (fun vs H Q E h => ?_) (fun cdv A outer s H vs Q E hr h => ?_)
  · obtain ⟨p, bl, sl, r, r2, s, rows, spans, rfl, _⟩ := h
    rfl
  · obtain ⟨p, bl, sl, r, r2, sp, rows, spans, rfl, hp, hq, hg, q⟩ := h
    have hrboats : Room (k + 1) _ := hr.mono (by omega)
    have hrspans : Room (k + 1) _ := hr.mono (by omega)
    have hrL : Room (k + 2) _ := hr.mono (by omega)
    have hrL3 : Room (k + 4) _ := hr
    have hr_law_is_boat : Room (k + 1) _ := hr.mono (by omega)
    have cboats := TC.cl
    have cspans := TC.cl
    have TBbl := TBL
    refine ⟨_,
      (pss_cut (ps_asg (pe_tup (pa_cons (pe_meth0 (pv 0) cboats mboats Gboats hrboats bboats .nil pass0) (pa_cons (pe_meth0 (pv 0) cspans mspans Gspans hrspans bspans .nil pass0) pa_nil))) (pg_tup rfl (pgs_cons (pg_name (i := 2) scLBridge.nd rfl (.inr rfl)) (pgs_cons (pg_name (i := 3) scLBridge.nd rfl (.inl rfl)) pgs_nil))))
      (pss_cons (ps_if (PW.pt (pw_or (pt_not (pt_val (pe_callB call_isi (by rfl) T.misinstance (by decide +kernel) (pa_cons (pv 2) (pa_cons (pe_bltn (v := .ty "list") (u := .type "list") (by rfl) T.mlist (by decide +kernel) rfl) pa_nil))))) (pw_or (pt_not (pt_val (pe_callB call_isi (by rfl) T.misinstance (by decide +kernel) (pa_cons (pv 3) (pa_cons (pe_bltn (v := .ty "list") (u := .type "list") (by rfl) T.mlist (by decide +kernel) rfl) pa_nil))))) (pw_or1 (pt_cmpR op_ne (pe_callB call_len_seq (by rfl) T.mlen PySem.boot_len (pa_cons (pv 2) pa_nil)) (pe_callB call_len_seq (by rfl) T.mlen PySem.boot_len (pa_cons (pe_ix ix_tup (pv 1) pe_int (fun _ _ => rfl)) pa_nil)) (nomark _))))))
      (pss_one (ps_ret pe_bl))
      pss_nil)
      (pss_cut (ps_if (pt_cmpR (op_neD hr.units) (pe_lc (own := [("_law_k", 4)]) (g := gName 4)  rfl scLBridge.nd (pi_range1 (by rfl) T.mrange (pa_cons (pe_callB call_len_seq (by rfl) T.mlen PySem.boot_len (pa_cons (pv 2) pa_nil)) pa_nil)) (blkOk_by (N := NLBridge) (own := [("_law_k", 4)]) (sc := defScope sLBridge) (by decide +kernel)) (fun _ _ _ _ _ => pg_name (i := 4) scLBridge.nd rfl (Or.inl rfl)) (fun _ _ _ _ _ => pts_one (pt_not (pt_val (pe_call G_law_is_boat hr_law_is_boat (by rfl) g_law_is_boat F_law_is_boat.kp b_law_is_boat .nil pass0 (pa_cons (pe_ix (r := rIxL K) ix_list (pv 2) (pv 4) (fun _ _ => rfl)) (pa_cons (pe_ix (r := rIxT K) ix_tup (pe_ix (r := rIxL K) ix_list (pe_ix (r := rIxT K) ix_tup (pv 1) pe_int (fun _ _ => rfl)) (pv 4) (fun _ _ => rfl)) pe_int (fun _ _ => rfl)) (pa_cons (pe_ix (r := rIxT K) ix_tup (pe_ix (r := rIxL K) ix_list (pe_ix (r := rIxT K) ix_tup (pv 1) pe_int (fun _ _ => rfl)) (pv 4) (fun _ _ => rfl)) pe_int (fun _ _ => rfl)) pa_nil))))))) (fun _ _ _ _ _ => (pv 4))) (pe_lst pa_nil) (nomark _))
      (pss_one (ps_ret pe_bl))
      pss_nil)
      (pss_cut (ps_if (PW.pt (pw_or (pt_cmpR (op_neD hr.units) (pe_lc (own := [("_law_one", 5)]) (g := gName 5)  rfl scLBridge.nd (pi_list (pv 3)) (blkOk_by (N := NLBridge) (own := [("_law_one", 5)]) (sc := defScope sLBridge) (by decide +kernel)) (fun _ _ _ _ _ => pg_name (i := 5) scLBridge.nd rfl (Or.inl rfl)) (fun _ _ _ _ _ => pts_one (pt_val (pe_callB (r := rIsi K) call_isi (by rfl) T.misinstance (by decide +kernel) (pa_cons (pv 5) (pa_cons (pe_bltn (v := .ty "bool") (u := .type "bool") (by rfl) T.mbool (by decide +kernel) rfl) pa_nil))))) (fun _ _ _ _ _ => (pv 5))) (pe_lst pa_nil) (nomark _)) (pw_or (pt_cmpR (op_neD hr.units) (pv 3) (pe_ix ix_tup (pv 1) pe_int (fun _ _ => rfl)) (nomark _)) (pw_or1 (pt_cmpR op_ne (pe_callB (call_lenOwn mL.at_ mL.fn GL bL hrL pass0) (by rfl) T.mlen PySem.boot_len (pa_cons (pv 0) pa_nil)) (pe_callB call_len_seq (by rfl) T.mlen PySem.boot_len (pa_cons (pv 2) pa_nil)) (nomark _))))))
      (pss_one (ps_ret pe_bl))
      pss_nil)
      (pss_cons (ps_expr (pe_bm PySem.F.plainAttrs_list PySem.F.slot_list_append PySem.F.type_list_append mt_append (pv 2) (pa_cons pe_non pa_nil)))
      (pss_cons (ps_expr (pe_bm0 PySem.F.plainAttrs_list PySem.F.slot_list_clear PySem.F.type_list_clear mt_clear (pv 3)))
      (pss_one (ps_ret (pe_and (pe_cmpR (op_eqD hr.units) (pe_meth0 (pv 0) cspans mspans Gspans hrspans bspans .nil pass0) (pe_ix ix_tup (pv 1) pe_int (fun _ _ => rfl)) (nomark _)) (pe_and (pe_cmpR op_eq (pe_callB call_len_seq (by rfl) T.mlen PySem.boot_len (pa_cons (pe_meth0 (pv 0) cboats mboats Gboats hrboats bboats .nil pass0) pa_nil)) (pe_callB call_len_seq (by rfl) T.mlen PySem.boot_len (pa_cons (pe_ix ix_tup (pv 1) pe_int (fun _ _ => rfl)) pa_nil)) (nomark _)) (pe_one (pe_callTy (call_boolOwn TBbl mL.at_ mL.fn GL bL hrL3 pass0) (by rfl) T.mbool (by decide +kernel) (pa_cons (pv 0) pa_nil)))))))))))))
      , ?_⟩
    obtain ⟨dx, bs0, e1, e2, e3⟩ := hp.ex
    obtain ⟨xs, er, hrw⟩ := hq.rw
    have hlx := hrw.len
    have h10 := hg.l1
    have hsl := hg.sl
    have rf : PyData.eqv (.list (spans.map PyData.int)) (.list (spans.map PyData.int)) = true := SeqAt.eqv_refl _ (SeqAt.canLay_of_shaped (ke_shaped_ints _))
    refine ⟨fun σ H1 => ∃ (l1 l2 : Addr) (bs : List V), σ = [some (.ref p), some (.ref r), some (.ref l1), some (.ref l2), none, none] ∧ H1 l1 = some (.lst bs) ∧ Boats C H1 bs rows ∧ H1 l2 = some (.lst (spans.map V.int)) ∧ H l1 = none ∧ H l2 = none ∧ l1 ≠ l2 ∧ Same H H1, ?_, ?_⟩
    · refine ⟨_, rfl, p, dx, _, rfl, e1, brF_mboats bl sl, p, bl, sl, rows, spans, rfl, hp, fun l1 bs H1 s1 h1 el1 hb => ⟨_, rfl, p, dx, _, rfl, s1 _ _ e1, brF_mspans bl sl, p, bl, sl, rows, spans, rfl, hp.same s1, fun l2 H2 s2 h2 el2 => ⟨by show 2 ≤ sizeLine; decide, fun t ht => ?_⟩⟩⟩
      have h20 : H l2 = none := by
        cases e : H l2 with
        | none => rfl
        | some o => rw [s1 _ _ e] at h2; cases h2
      exact ⟨t, _, rfl, SqT.of upd_same, rfl, _, _, rfl, _, _, rfl, rfl, l1, l2, bs, rfl, upd_at ht (s2 _ _ el1), (hb.same s2).same (same_upd ht), upd_at ht el2, h1, h20, ne_of_none el1 h2, (s1.trans s2).trans (same_upd ht)⟩
    rintro σ H1 ⟨l1, l2, bs, rfl, el1, hb, el2, h1, h2, n12, s1⟩
    have hbl := hb.len
    refine ⟨_, rfl, _, _, _, _, true, rfl, .ty "list", .base (.lst el1), kit_ty (by decide +kernel), _, rfl, iteF ?_⟩
    refine ⟨_, rfl, _, _, _, _, true, rfl, .ty "list", .base (.lst el2), kit_ty (by decide +kernel), _, rfl, iteF ?_⟩
    refine ⟨_, rfl, l1, _, rfl, .inl (SqL.of el1), _, rfl, r, _, 0, _, rfl, rfl, SqT.of (s1 _ _ hq.tp), atI_nat (j := 0) rfl, r2, _, rfl, .inl (SqL.of (s1 _ _ er)), rfl, _, rfl, ?_⟩
    have z1 : (!decide (V.int ((bs.length : Nat) : Int) = V.int ((xs.length : Nat) : Int))) = false := by rw [decide_eq_true (congrArg V.int (show ((bs.length : Nat) : Int) = ((xs.length : Nat) : Int) by omega))]; rfl
    rw [z1]
    refine iteF ?_
    -- the boats, one by one
    refine ⟨fun σ H2 => σ = [some (.ref p), some (.ref r), some (.ref l1), some (.ref l2), none, none] ∧ Same H1 H2, ?_, ?_⟩
    · refine ⟨_, rfl, l1, _, rfl, .inl (SqL.of el1), _, rfl, by omega, by omega, fun D hD => ?_⟩
      refine lc_range (lo := 0) (n := ((bs.length : Nat) : Int).toNat) (fun i H' => H' D = some (.lst []) ∧ Same H1 H') ⟨upd_same, same_upd hD⟩ ?_ ?_
      · rintro i H' hi ⟨eD, si⟩
        have hi2 : i < rows.length := by omega
        have hi3 : i < bs.length := by omega
        obtain ⟨a, x, ea, hx, ha⟩ := hb.at (List.getElem?_eq_getElem hi3)
        obtain ⟨b, gb, hb2⟩ := hrw.at2 hi2
        rw [List.getElem?_eq_getElem hi2] at hx
        cases hx
        have s1i := s1.trans si
        obtain ⟨dxa, ea2⟩ := ha
        refine ⟨rfl, _, rfl, _, rfl, l1, _, (i : Int), _, rfl, congrArg V.int (by omega), SqL.of (si _ _ el1), atI_nat (List.getElem?_eq_getElem hi3), _, rfl, r, _, 0, _, rfl, rfl, SqT.of (s1i _ _ hq.tp), atI_nat (j := 0) rfl, _, rfl, r2, _, (i : Int), _, rfl, congrArg V.int (by omega), SqL.of (s1i _ _ er), atI_nat gb, b, _, 0, _, rfl, rfl, SqT.of (s1i _ _ hb2), atI_nat (j := 0) rfl,
          _, rfl, r, _, 0, _, rfl, rfl, SqT.of (s1i _ _ hq.tp), atI_nat (j := 0) rfl, _, rfl, r2, _, (i : Int), _, rfl, congrArg V.int (by omega), SqL.of (s1i _ _ er), atI_nat gb, b, _, 1, _, rfl, rfl, SqT.of (s1i _ _ hb2), atI_nat (j := 1) rfl, ?_⟩
        rw [ea]
        exact ⟨a, rows[i].1, rows[i].2, rfl, ⟨dxa, si _ _ ea2⟩, _, rfl, iteF ⟨eD, si⟩⟩
      · rintro H' ⟨eD, si⟩
        exact ⟨Nat.zero_le _, fun l hl => ⟨.list [], .list [], .lst (SqL.of (upd_at hl eD)) .nil, .lst (SqL.of upd_same) .nil, ke_shaped_ints [], ke_shaped_ints [], _, rfl, iteF ⟨rfl, si.trans (same_upd hl)⟩⟩⟩
    rintro σ H2 ⟨rfl, s2⟩
    have s12 := s1.trans s2
    refine ⟨fun σ H3 => σ = [some (.ref p), some (.ref r), some (.ref l1), some (.ref l2), none, none] ∧ Same H2 H3, ?_, ?_⟩
    · refine ⟨_, rfl, l2, rfl, ⟨_, SqL.of (s2 _ _ el2)⟩, fun D hD => ?_⟩
      refine lc_list (K := K) (a := l2) (xs := spans.map V.int) (fun i H' => H' D = some (.lst []) ∧ Same H2 H') ⟨upd_same, same_upd hD⟩ (fun i H' _ ⟨_, z⟩ => SqL.of (z _ _ (s2 _ _ el2))) ?_ ?_
      · rintro i y H' hy ⟨eD, si⟩
        rw [List.getElem?_map] at hy
        cases hx : spans[i]? with
        | none => rw [hx] at hy; cases hy
        | some z =>
          rw [hx] at hy
          cases hy
          exact ⟨rfl, _, rfl, _, _, _, _, false, rfl, .ty "bool", .base (.int _), kit_ty (by decide +kernel), _, rfl, iteF ⟨eD, si⟩⟩
      · rintro H' ⟨eD, si⟩
        refine ⟨Nat.zero_le _, fun l hl => ⟨.list [], .list [], .lst (SqL.of (upd_at hl eD)) .nil, .lst (SqL.of upd_same) .nil, ke_shaped_ints [], ke_shaped_ints [], _, rfl, iteF ?_⟩⟩
        have sll := si.trans (same_upd (o := .lst []) hl)
        have s1l := s12.trans sll
        refine ⟨_, rfl, _, rfl, r, _, 1, _, rfl, rfl, SqT.of (s1l _ _ hq.tp), atI_nat (j := 1) rfl, .list (spans.map PyData.int), .list (spans.map PyData.int), .lst (SqL.of (sll _ _ (s2 _ _ el2))) (dp_ints _), .lst (SqL.of (s1l _ _ hq.sp)) (dp_ints _), ke_shaped_ints _, ke_shaped_ints _, _, rfl, ?_⟩
        rw [rf]
        refine iteF ⟨_, rfl, p, dx, _, rfl, s1l _ _ e1, p, bl, sl, rows, spans, rfl, hp.same s1l, _, rfl, by omega, by omega, _, rfl, l1, _, rfl, .inl (SqL.of (sll _ _ (s2 _ _ el1))), rfl, _, rfl, ?_⟩
        have z2 : (!decide (V.int ((rows.length : Nat) : Int) = V.int ((bs.length : Nat) : Int))) = false := by rw [decide_eq_true (congrArg V.int (show ((rows.length : Nat) : Int) = ((bs.length : Nat) : Int) by omega))]; rfl
        rw [z2]
        exact iteF ⟨rfl, sll⟩
    rintro σ H3 ⟨rfl, s3⟩
    have s13 := s12.trans s3
    have el13 := s3 _ _ (s2 _ _ el1)
    have el23 := s3 _ _ (s2 _ _ el2)
    refine ⟨_, rfl, .inl ⟨rfl, _, SqL.of el13⟩, l1, _, _, rfl, rfl, el13, small100 (by omega), ?_⟩
    have el24 : (upd H3 l1 (.lst (bs ++ [.non]))) l2 = some (.lst (spans.map V.int)) := by rw [upd_ne n12.symm]; exact el23
    refine ⟨_, rfl, .inl ⟨rfl, _, SqL.of el24⟩, l2, _, rfl, rfl, el24, ?_⟩
    have s4 : Same H (upd (upd H3 l1 (.lst (bs ++ [.non]))) l2 (.lst [])) := fun y o e => by
      rw [upd_ne (ne_of_none e h2), upd_ne (ne_of_none e h1)]; exact s13 _ _ e
    generalize upd (upd H3 l1 (.lst (bs ++ [.non]))) l2 (.lst []) = H4 at s4 ⊢
    refine ⟨_, rfl, p, dx, _, rfl, s4 _ _ e1, brF_mspans bl sl, p, bl, sl, rows, spans, rfl, hp.same s4, fun l3 H5 s5 h3 el3 => ?_⟩
    have s45 := s4.trans s5
    refine ⟨_, rfl, r, _, 1, _, rfl, rfl, SqT.of (s45 _ _ hq.tp), atI_nat (j := 1) rfl, .list (spans.map PyData.int), .list (spans.map PyData.int), .lst (SqL.of el3) (dp_ints _), .lst (SqL.of (s45 _ _ hq.sp)) (dp_ints _), ke_shaped_ints _, ke_shaped_ints _, _, rfl, ?_⟩
    rw [rf]
    refine iteT ⟨_, rfl, p, dx, _, rfl, s45 _ _ e1, brF_mboats bl sl, p, bl, sl, rows, spans, rfl, hp.same s45, fun l4 bs4 H6 s6 h4 el4 hb4 => ?_⟩
    have s46 := s45.trans s6
    have hb4l := hb4.len
    refine ⟨l4, _, rfl, .inl (SqL.of el4), _, rfl, r, _, 0, _, rfl, rfl, SqT.of (s46 _ _ hq.tp), atI_nat (j := 0) rfl, r2, _, rfl, .inl (SqL.of (s46 _ _ er)), rfl, _, rfl, ?_⟩
    rw [decide_eq_true (congrArg V.int (show ((bs4.length : Nat) : Int) = ((xs.length : Nat) : Int) by omega))]
    refine iteT ⟨_, rfl, p, dx, _, rfl, s46 _ _ e1, p, bl, sl, rows, spans, rfl, hp.same s46, _, rfl, by omega, by omega, ?_⟩
    have z3 : (((rows.length : Nat) : Int) != 0) = true := bne_iff_ne.mpr (by have := hg.l0; omega)
    rw [z3]
    exact q _ s46
end
/-! ### readings, a step at a time -/
section
variable {σ : L2.St} {H : Hp} {Q : VK} {D : Ends} {ta tb te : TE} {tr t : TA} {E : XK} {sp : Sp} {dvs : List V}
theorem i_var {i : Nat} {v : V} (e : σ[i]? = some (some v)) (h : Q v H) : tVar i σ H Q := ⟨v, e, h⟩
theorem i_c {v : V} (h : Q v H) : tC v σ H Q := h
theorem i_nil {Q : List V → Hp → Prop} (h : Q [] H) : tNil σ H Q := h
theorem i_cons {Q : List V → Hp → Prop} (h : ta σ H fun x H1 => tr σ H1 fun xs H2 => Q (x :: xs) H2) : tCons ta tr σ H Q := h
theorem i_op {r : R2} (h : ta σ H fun x H1 => tb σ H1 fun y H2 => r x y H2 Q) : tOp r ta tb σ H Q := h
theorem i_un {r : V → Hp → VK → Prop} (h : ta σ H fun x H1 => r x H1 Q) : tUn r ta σ H Q := h
theorem i_call (h : t σ H fun vs H1 => sp (vs ++ dvs) H1 Q E) : tCall sp dvs E t σ H Q := h
theorem i_cb {r : List V → Hp → VK → Prop} (h : t σ H fun vs H1 => r vs H1 Q) : tCB r t σ H Q := h
theorem i_asg {g : TG} (h : te σ H fun x H1 => g x σ H1 D.nx) : tAsg te g D σ H := h
theorem i_name {i : Nat} {v : V} {Q : L2.St → Hp → Prop} (h : Q (σ.set i (some v)) H) : gName i v σ H Q := h
theorem i_seq {u v : TS} (h : u { D with nx := v D } σ H) : tSeq u v D σ H := h
theorem i_next (h : D.nx σ H) : tNext D σ H := h
theorem i_ret (h : te σ H D.rt) : tRet te D σ H := h
theorem i_drop (h : te σ H fun _ H1 => D.nx σ H1) : tDrop te D σ H := h
theorem i_if {c : TT} {u v : TS} (h : c σ H fun b H1 => if b = true then u D σ H1 else v D σ H1) : tIfS c u v D σ H := h
theorem i_and {u v : TT} {Q : Bool → Hp → Prop} (h : u σ H fun c H1 => if c = true then v σ H1 Q else Q false H1) : tAnd u v σ H Q := h
theorem i_or {u v : TT} {Q : Bool → Hp → Prop} (h : u σ H fun c H1 => if c = true then Q true H1 else v σ H1 Q) : tOr u v σ H Q := h
theorem i_not {u : TT} {Q : Bool → Hp → Prop} (h : u σ H fun c H1 => Q (!c) H1) : tNot u σ H Q := h
theorem i_test {Q : Bool → Hp → Prop} (h : te σ H fun x H1 => ∃ k, x = .bl k ∧ Q k H1) : tTest te σ H Q := h
theorem i_ite {c : TT} (h : c σ H fun b H1 => if b = true then ta σ H1 Q else tb σ H1 Q) : tIf c ta tb σ H Q := h
theorem i_lst (h : t σ H fun xs H1 => xs.length ≤ sizeLine ∧ ∀ p, H1 p = none → Q (.ref p) (upd H1 p (.lst xs))) : tLst t σ H Q := h
theorem i_tup (h : t σ H fun xs H1 => xs.length ≤ sizeLine ∧ ∀ p, H1 p = none → Q (.ref p) (upd H1 p (.tup xs))) : tTup t σ H Q := h
theorem i_bm {K : PySem.W.Frag} {S : String} {r : V → List V → Hp → VK → Prop} (h : ta σ H fun x H1 => tyV K S x H1 ∧ t σ H1 fun xs H2 => r x xs H2 Q) : tBM K S r ta t σ H Q := h
theorem i_aug {i : Nat} {ti : TIp} {x : V} (e : σ[i]? = some (some x)) (h : te σ H fun y H1 => ti x y H1 fun z H2 => D.nx (σ.set i (some z)) H2) : tAug i te ti D σ H := ⟨x, e, h⟩
theorem i_par {i j : Nat} {v w : V} (h : t σ H fun vs H1 => ∃ v w, vs = [v, w] ∧ D.nx ((σ.set i (some v)).set j (some w)) H1) : tPar i j t D σ H := h
theorem i_gsub {to ti : TE} {ts : TSet} {v : V} {Q : L2.St → Hp → Prop} (h : to σ H fun o H1 => ti σ H1 fun i H2 => ts o i v H2 fun H3 => Q σ H3) : gSub to ti ts v σ H Q := h
theorem i_chain {r r' : R2} {tc : TE} (h : ta σ H fun x H1 => tb σ H1 fun y H2 => r x y H2 fun z H3 => ∃ k, z = .bl k ∧ if k = true then tc σ H3 fun v H4 => r' y v H4 Q else Q (.bl false) H3) : tChain r r' ta tb tc σ H Q := h
theorem i_sl {r : V → Option Int → Option Int → Hp → VK → Prop} {tl th : TO} (h : te σ H fun x H1 => tl σ H1 fun l H2 => th σ H2 fun u H3 => r x l u H3 Q) : tSl r te tl th σ H Q := h
theorem i_nopart {Q : Option Int → Hp → Prop} (h : Q none H) : tNoPart σ H Q := h
theorem i_part {Q : Option Int → Hp → Prop} (h : te σ H fun x H1 => ∃ i, x = .int i ∧ Q (some i) H1) : tPart te σ H Q := h
end
section
variable {σ : L2.St} {H : Hp} {Q : VK} {ta te : TE} {t : TA}
theorem i_m1 {r : V → List V → Hp → VK → Prop} (h : ta σ H fun x H1 => (∃ a, x = .str a) ∧ te σ H1 fun y H2 => r x [y] H2 Q) : tM1 r ta te σ H Q := h
theorem i_m0 {r : V → List V → Hp → VK → Prop} (h : ta σ H fun x H1 => (∃ a, x = .str a) ∧ r x [] H1 Q) : tM0 r ta σ H Q := h
theorem i_iList {K : PySem.W.Frag} {R : It → Hp → Prop} (h : ta σ H fun x H1 => ∃ a, x = .ref a ∧ (∃ xs, SqL K H1 a xs) ∧ R (Itl K a) H1) : iList K ta σ H R := h
theorem i_iTup {K : PySem.W.Frag} {R : It → Hp → Prop} (h : ta σ H fun x H1 => ∃ a, x = .ref a ∧ (∃ xs, SqT K H1 a xs) ∧ R (Itt K a) H1) : iTup K ta σ H R := h
theorem i_iStr {R : It → Hp → Prop} (h : ta σ H fun v H1 => ∃ x, v = .str x ∧ R (Its x) H1) : iStr ta σ H R := h
theorem i_r1 {R : It → Hp → Prop} (h : t σ H fun vs H1 => ∃ j : Int, vs = [.int j] ∧ -(2 ^ 62) ≤ j ∧ j < 2 ^ 62 ∧ R (Itr 0 j.toNat) H1) : iRng1 t σ H R := h
theorem i_lc {wi : TI} {g : TG} {tt : TT} {vs : List Nat} (h : wi σ H fun J H1 => ∀ D, H1 D = none → ∃ W : Nat → Nat → Hp → Prop, (∃ m, W 0 m (upd H1 D (.lst []))) ∧ ∀ i m H, W i m H →
  (J.stop i H ∧ Q (.ref D) H) ∨ (J.go i H ∧ ∃ Nx : Hp → Prop, (∀ H', Nx H' → ∃ m', m' < m ∧ W (i + 1) m' H') ∧ ∀ x H', J.yld i H x H' → g x (wipe σ vs) H' fun σ2 H2 => wipe σ2 vs = wipe σ vs ∧ tt σ2 H2 fun b H3 =>
    if b = true then te σ2 H3 fun y H4 => ∃ acc, H4 D = some (.lst acc) ∧ acc.length < sizeLine ∧ Nx (upd H4 D (.lst (acc ++ [y]))) else Nx H3)) : tLc wi g tt te vs σ H Q := h
end
theorem app_same {H1 H4 : Hp} {D : Addr} {o : HO} (hD : H1 D = none) (s : Same H1 H4) : Same H1 (upd H4 D o) := fun y u e => by rw [upd_ne (ne_of_none e hD)]; exact s _ _ e
theorem app_keep {F : Addr} {H1 H4 : Hp} {D : Addr} {o : HO} (hD : H1 D = none) (s : Keep F H1 H4) : Keep F H1 (upd H4 D o) := fun y u n e => by rw [upd_ne (ne_of_none e hD)]; exact s _ _ n e
theorem lt_line {n : Nat} (h : n < 100000) : n < sizeLine := Nat.lt_of_lt_of_le h (by decide)
theorem le_line {n : Nat} (h : n ≤ 100000) : n ≤ sizeLine := Nat.le_trans h (by decide)
theorem i_callk {σ : L2.St} {H : Hp} {Q : VK} {sp : Sp} {gV : List V → List V → List V} {E : XK} {t tk : TA} (h : t σ H fun vs H1 => tk σ H1 fun zs H2 => sp (gV vs zs) H2 Q E) : tCallK sp gV E t tk σ H Q := h
theorem i_callN {σ : L2.St} {H : Hp} {Q : VK} {n m : Nat} {sp : Sp} {gV : List V → List V → List V} {E : XK} {t tk : TA} (h : t σ H fun vs H1 => tk σ H1 fun zs H2 => vs.length = n ∧ zs.length = m ∧ sp (gV vs zs) H2 Q E) : tCallN n m sp gV E t tk σ H Q := h
theorem i_ckw {σ : L2.St} {H : Hp} {Q : VK} {r : List V → List V → Hp → VK → Prop} {t tk : TA} (h : t σ H fun vs H1 => tk σ H1 fun zs H2 => r vs zs H2 Q) : tCKw r t tk σ H Q := h
theorem i_revL {K : PySem.W.Frag} {σ : L2.St} {H : Hp} {Q : VK} {te : TE} (h : te σ H fun x H1 => ∃ a xs, x = .ref a ∧ SqL K H1 a xs ∧ ∀ p, H1 p = none → Q (.ref p) (upd H1 p (.lst xs.reverse))) : tRevL K te σ H Q := h
theorem ite_str {a b : Str} {A B : Prop} (h1 : a = b → A) (h2 : ¬ a = b → B) : if decide (V.str a = V.str b) = true then A else B := by
  by_cases c : a = b
  · rw [if_pos (decide_eq_true (congrArg V.str c))]; exact h1 c
  · rw [if_neg (fun z => c (V.str.inj (of_decide_eq_true z)))]; exact h2 c
theorem ite_nstr {a b : Str} {A B : Prop} (h1 : ¬ a = b → A) (h2 : a = b → B) : if (!decide (V.str a = V.str b)) = true then A else B := by
  by_cases c : a = b
  · rw [decide_eq_true (congrArg V.str c)]; exact iteF (h2 c)
  · rw [decide_eq_false (fun z => c (V.str.inj z))]; exact iteT (h1 c)
theorem i_tB {te : TE} {σ : L2.St} {H : Hp} {Q : Bool → Hp → Prop} (h : te σ H fun x H1 => ∃ c, x = .bl c ∧ Q c H1) : tB te σ H Q := h
theorem i_kw {K : PySem.W.Frag} {n : Nat} {gs : TGs} {a : Addr} {xs : List V} {σ : L2.St} {H : Hp} {Q : L2.St → Hp → Prop} (h : SqT K H a xs) (e : xs.length = n) (q : gs xs σ H Q) : gTup K n gs (.ref a) σ H Q := ⟨a, xs, rfl, h, e, q⟩
theorem i_andV {ta tb : TE} {σ : L2.St} {H : Hp} {Q : VK} (h : ta σ H fun x H1 => ∃ c, x = .bl c ∧ if c = true then tb σ H1 Q else Q (.bl false) H1) : tAndV ta tb σ H Q := h
theorem i_orV {ta tb : TE} {σ : L2.St} {H : Hp} {Q : VK} (h : ta σ H fun x H1 => ∃ c, x = .bl c ∧ if c = true then Q (.bl true) H1 else tb σ H1 Q) : tOrV ta tb σ H Q := h
theorem i_notV {ta : TE} {σ : L2.St} {H : Hp} {Q : VK} (h : ta σ H fun x H1 => ∃ c, x = .bl c ∧ Q (.bl (!c)) H1) : tNotV ta σ H Q := h
theorem i_ixT {K : PySem.W.Frag} {H : Hp} {p : Addr} {xs : List V} {j : Nat} {v : V} {Q : VK} (h : SqT K H p xs) (e : xs[j]? = some v) (q : Q v H) : rIxT K (.ref p) (.int (j : Int)) H Q := ⟨p, xs, _, v, rfl, rfl, h, atI_nat e, q⟩
theorem i_ixL {K : PySem.W.Frag} {H : Hp} {p : Addr} {xs : List V} {j : Nat} {v : V} {Q : VK} (h : SqL K H p xs) (e : xs[j]? = some v) (q : Q v H) : rIxL K (.ref p) (.int (j : Int)) H Q := ⟨p, xs, _, v, rfl, rfl, h, atI_nat e, q⟩
theorem i_ixT0 {K : PySem.W.Frag} {H : Hp} {p : Addr} {x : V} {xs : List V} {Q : VK} (h : SqT K H p (x :: xs)) (q : Q x H) : rIxT K (.ref p) (.int 0) H Q := ⟨p, _, 0, x, rfl, rfl, h, atI_nat (j := 0) rfl, q⟩
theorem i_ixT1 {K : PySem.W.Frag} {H : Hp} {p : Addr} {x y : V} {xs : List V} {Q : VK} (h : SqT K H p (x :: y :: xs)) (q : Q y H) : rIxT K (.ref p) (.int 1) H Q := ⟨p, _, 1, y, rfl, rfl, h, atI_nat (j := 1) rfl, q⟩
theorem i_ixT2 {K : PySem.W.Frag} {H : Hp} {p : Addr} {x y z : V} {xs : List V} {Q : VK} (h : SqT K H p (x :: y :: z :: xs)) (q : Q z H) : rIxT K (.ref p) (.int 2) H Q := ⟨p, _, 2, z, rfl, rfl, h, atI_nat (j := 2) rfl, q⟩
theorem i_ixT3 {K : PySem.W.Frag} {H : Hp} {p : Addr} {x y z w : V} {xs : List V} {Q : VK} (h : SqT K H p (x :: y :: z :: w :: xs)) (q : Q w H) : rIxT K (.ref p) (.int 3) H Q := ⟨p, _, 3, w, rfl, rfl, h, atI_nat (j := 3) rfl, q⟩
theorem i_ixLe {K : PySem.W.Frag} {H : Hp} {p : Addr} {xs : List V} {i : Int} (j : Nat) {v : V} {Q : VK} (h : SqL K H p xs) (ei : i = (j : Int)) (e : xs[j]? = some v) (q : Q v H) : rIxL K (.ref p) (.int i) H Q := by subst ei; exact i_ixL h e q
theorem i_ixTe {K : PySem.W.Frag} {H : Hp} {p : Addr} {xs : List V} {i : Int} (j : Nat) {v : V} {Q : VK} (h : SqT K H p xs) (ei : i = (j : Int)) (e : xs[j]? = some v) (q : Q v H) : rIxT K (.ref p) (.int i) H Q := by subst ei; exact i_ixT h e q
def rFld (K : PySem.W.Frag) (f : Str) : V → Hp → VK → Prop := fun x H Q => ∃ a C dx fs v, x = .ref a ∧ H a = some (.ins C dx fs) ∧ Cls K C ∧ NoAttr K C f ∧ fs.lookup f = some v ∧ Q v H
theorem i_fld {K : PySem.W.Frag} {ta : TE} {f : Str} {σ : L2.St} {H : Hp} {Q : VK} (h : ta σ H fun x H1 => rFld K f x H1 Q) : tFld K ta f σ H Q := h
theorem i_sfld {K : PySem.W.Frag} {ta tv : TE} {f : Str} {D : Ends} {σ : L2.St} {H : Hp} (h : tv σ H fun y H1 => ta σ H1 fun x H2 => ∃ a C dx fs, x = .ref a ∧ H2 a = some (.ins C dx fs) ∧ Cls K C ∧ NoAttr K C f ∧ fs.length < 1000 ∧ D.nx σ (upd H2 a (.ins C dx (putF f y fs)))) : sFld K ta tv f D σ H := h
/-- a new object, to be made by its __init__ -/
def rMkN (C : Addr) (sp : Sp) (gV : List V → List V → List V) (E : XK) (vs zs : List V) (H : Hp) (Q : VK) : Prop := ∀ x dx, H x = none → H dx = none → dx ≠ x → sp (gV (.ref x :: vs) zs) (upd (upd H dx (.own x)) x (.ins C dx [])) (fun v H3 => v = .non ∧ Q (.ref x) H3) E
def rMk (C : Addr) (sp : Sp) (dvs : List V) (E : XK) (vs : List V) (H : Hp) (Q : VK) : Prop := ∀ x dx, H x = none → H dx = none → dx ≠ x → sp (.ref x :: (vs ++ dvs)) (upd (upd H dx (.own x)) x (.ins C dx [])) (fun v H3 => v = .non ∧ Q (.ref x) H3) E
theorem i_make {C : Addr} {sp : Sp} {dvs : List V} {E : XK} {t : TA} {σ : L2.St} {H : Hp} {Q : VK} (h : t σ H fun vs H1 => rMk C sp dvs E vs H1 Q) : tMake C sp dvs E t σ H Q := h
theorem i_makeN {C : Addr} {n m : Nat} {sp : Sp} {gV : List V → List V → List V} {E : XK} {t tk : TA} {σ : L2.St} {H : Hp} {Q : VK} (h : t σ H fun vs H1 => tk σ H1 fun zs H2 => vs.length = n ∧ zs.length = m ∧ rMkN C sp gV E vs zs H2 Q) : tMakeN C n m sp gV E t tk σ H Q := h
theorem i_meth {C : Addr} {m : Str} {sp : Sp} {dvs : List V} {E : XK} {ta : TE} {t : TA} {σ : L2.St} {H : Hp} {Q : VK} (h : ta σ H fun x H1 => ∃ a dx fs, x = .ref a ∧ H1 a = some (.ins C dx fs) ∧ fs.lookup m = none ∧ t σ H1 fun vs H2 => sp (x :: (vs ++ dvs)) H2 Q E) : tMeth C m sp dvs E ta t σ H Q := h
theorem ixN_last {n : Nat} : ixN (n + 1) (-1) = some n := by
  unfold ixN
  rw [if_neg (by decide), if_pos (by omega)]
  congr 1
  omega
theorem i_ixLast {K : PySem.W.Frag} {H : Hp} {p : Addr} {xs : List V} {v : V} {Q : VK} (h : SqL K H p (xs ++ [v])) (q : Q v H) : rIxL K (.ref p) (.int (-1)) H Q := by
  refine ⟨p, xs ++ [v], -1, v, rfl, rfl, h, ?_, q⟩
  unfold atI
  rw [List.length_append, List.length_singleton, ixN_last]
  simp
theorem i_setLast {H : Hp} {p : Addr} {xs : List V} {v w : V} {Q : Hp → Prop} (h : H p = some (.lst (xs ++ [v]))) (q : Q (upd H p (.lst (xs ++ [w])))) : rSetL (.ref p) (.int (-1)) w H Q := by
  refine ⟨p, xs ++ [v], -1, xs.length, rfl, rfl, h, by rw [List.length_append, List.length_singleton, ixN_last], ?_⟩
  rw [show (xs ++ [v]).set xs.length w = xs ++ [w] by simp]
  exact q
theorem isi_list {K : PySem.W.Frag} {H : Hp} {p : Addr} {xs : List V} {Q : VK} (e : H p = some (.lst xs)) (q : Q (.bl true) H) : rIsi K [.ref p, .ty "list"] H Q := ⟨_, _, _, _, true, rfl, .ty _, .base (.lst e), rfl, q⟩
theorem isi_own {K : PySem.W.Frag} {H : Hp} {x : V} {C : Addr} {Q : VK} (e : TyX K H x (.ref C)) (q : Q (.bl true) H) : rIsi K [x, .ref C] H Q := ⟨_, _, _, _, true, rfl, .own C, e, if_pos (beq_self_eq_true _), q⟩
theorem i_yes {σ : L2.St} {H : Hp} {Q : Bool → Hp → Prop} (h : Q true H) : tYes σ H Q := h
set_option maxHeartbeats 8000000
local macro_rules | `(tactic| walk_at "c") => `(tactic| first | omega | decide | exact ⟨by omega, by omega⟩ | exact ⟨by decide, by decide⟩ | exact .inl ⟨by omega, by omega⟩ | exact .inr ⟨by omega, by omega⟩ | exact ⟨by omega, by omega, by omega⟩ | exact ⟨by decide, by decide, by decide⟩ | exact le_line (Nat.le_of_ble_eq_true rfl))
local macro_rules | `(tactic| walk_at "a") => `(tactic| with_reducible (first | refine i_seq ?_ | refine i_asg ?_ | refine i_cons ?_ | refine i_c ?_ | refine i_nil ?_ | refine i_op ?_ | refine i_call ?_ | refine i_cb ?_ | refine i_name ?_ | refine i_next ?_ | refine i_ret ?_ | refine i_drop ?_ | refine i_if ?_ | refine i_test ?_ | refine i_and ?_ | refine i_or ?_ | refine i_not ?_ | refine i_ite ?_ | refine i_lst ?_ | refine i_tup ?_ | refine i_bm ?_ | refine i_un ?_ | refine i_par ?_ | refine i_gsub ?_ | refine i_chain ?_ | refine i_sl ?_ | refine i_nopart ?_ | refine i_part ?_ | refine i_m1 ?_ | refine i_m0 ?_ | refine i_lc ?_ | refine i_iList ?_ | refine i_iTup ?_ | refine i_iStr ?_ | refine i_r1 ?_ | refine i_set ?_ | refine i_callk ?_ | refine i_callN ?_ | refine i_ckw ?_ | refine i_revL ?_ | refine i_tB ?_ | refine i_fld ?_ | refine i_sfld ?_ | refine i_make ?_ | refine i_makeN ?_ | refine i_meth ?_ | refine i_andV ?_ | refine i_orV ?_ | refine i_notV ?_ | refine iteT ?_ | refine iteF ?_ | refine i_yes ?_))
local macro_rules | `(tactic| walk_at "s") => `(tactic| repeat (first | walk_at "a" | refine i_var rfl ?_ | refine i_aug rfl ?_ | refine And.intro ⟨_, rfl⟩ ?_ | refine ⟨_, rfl, ?_⟩ | refine ⟨_, _, rfl, rfl, ?_⟩ | refine ⟨_, _, rfl, ?_⟩ | refine ⟨rfl, ?_⟩ | refine And.intro (by walk_at "c") ?_))
structure Ev (K : PySem.W.Frag) (mg : Str → Option Value) where
  f_wall : Addr
  fd_wall : FuncData
  F_wall : Fun K "_wall" "_wall" sWall f_wall fd_wall
  b_wall : Binds K fd_wall ["k"] []
  g_wall : mg "_wall" = some (.ref f_wall)
  fis_whole : Addr
  fdis_whole : FuncData
  Fis_whole : Fun K "is_whole" "is_whole" sIsW fis_whole fdis_whole
  bis_whole : Binds K fdis_whole ["thing", "least", "most"] []
  gis_whole : mg "is_whole" = some (.ref fis_whole)
  f_are_boats : Addr
  fd_are_boats : FuncData
  F_are_boats : Fun K "_are_boats" "_are_boats" sAreB f_are_boats fd_are_boats
  b_are_boats : Binds K fd_are_boats ["thing"] []
  g_are_boats : mg "_are_boats" = some (.ref f_are_boats)
  f_are_spans : Addr
  fd_are_spans : FuncData
  F_are_spans : Fun K "_are_spans" "_are_spans" sAreS f_are_spans fd_are_spans
  b_are_spans : Binds K fd_are_spans ["thing"] []
  g_are_spans : mg "_are_spans" = some (.ref f_are_spans)
  f_law_tape : Addr
  fd_law_tape : FuncData
  F_law_tape : Fun K "_law_tape" "_law_tape" sTape f_law_tape fd_law_tape
  b_law_tape : Binds K fd_law_tape ["_law_script"] []
  g_law_tape : mg "_law_tape" = some (.ref f_law_tape)
  f_law_draw : Addr
  fd_law_draw : FuncData
  F_law_draw : Fun K "_law_draw" "_law_draw" sDraw f_law_draw fd_law_draw
  b_law_draw : Binds K fd_law_draw ["_law_tape_here", "_law_many"] []
  g_law_draw : mg "_law_draw" = some (.ref f_law_draw)
  f_law_pick : Addr
  fd_law_pick : FuncData
  F_law_pick : Fun K "_law_pick" "_law_pick" sPick f_law_pick fd_law_pick
  b_law_pick : Binds K fd_law_pick ["_law_tape_here", "_law_some"] []
  g_law_pick : mg "_law_pick" = some (.ref f_law_pick)
  f_law_names : Addr
  fd_law_names : FuncData
  F_law_names : Fun K "_law_names" "_law_names" sNames f_law_names fd_law_names
  b_law_names : Binds K fd_law_names ["_law_tape_here", "_law_many"] []
  g_law_names : mg "_law_names" = some (.ref f_law_names)
  f_law_odd : Addr
  fd_law_odd : FuncData
  F_law_odd : Fun K "_law_odd" "_law_odd" sOdd f_law_odd fd_law_odd
  b_law_odd : Binds K fd_law_odd ["_law_tape_here"] []
  g_law_odd : mg "_law_odd" = some (.ref f_law_odd)
  f_law_boat_rows : Addr
  fd_law_boat_rows : FuncData
  F_law_boat_rows : Fun K "_law_boat_rows" "_law_boat_rows" sBRows f_law_boat_rows fd_law_boat_rows
  b_law_boat_rows : Binds K fd_law_boat_rows ["_law_tape_here", "_law_names_here"] []
  g_law_boat_rows : mg "_law_boat_rows" = some (.ref f_law_boat_rows)
  f_law_span_row : Addr
  fd_law_span_row : FuncData
  F_law_span_row : Fun K "_law_span_row" "_law_span_row" sSRow f_law_span_row fd_law_span_row
  b_law_span_row : Binds K fd_law_span_row ["_law_tape_here", "_law_many"] []
  g_law_span_row : mg "_law_span_row" = some (.ref f_law_span_row)
  f_law_drawn_parts : Addr
  fd_law_drawn_parts : FuncData
  F_law_drawn_parts : Fun K "_law_drawn_parts" "_law_drawn_parts" sDParts f_law_drawn_parts fd_law_drawn_parts
  b_law_drawn_parts : Binds K fd_law_drawn_parts ["_law_tape_here"] []
  g_law_drawn_parts : mg "_law_drawn_parts" = some (.ref f_law_drawn_parts)
  f_law_made : Addr
  fd_law_made : FuncData
  F_law_made : Fun K "_law_made" "_law_made" sMade f_law_made fd_law_made
  b_law_made : Binds K fd_law_made ["_law_parts"] []
  g_law_made : mg "_law_made" = some (.ref f_law_made)
  f_law_is_boat : Addr
  fd_law_is_boat : FuncData
  F_law_is_boat : Fun K "_law_is_boat" "_law_is_boat" sLBoat f_law_is_boat fd_law_is_boat
  b_law_is_boat : Binds K fd_law_is_boat ["_law_one", "_law_who", "_law_bears"] []
  g_law_is_boat : mg "_law_is_boat" = some (.ref f_law_is_boat)
  f_law_is_bridge : Addr
  fd_law_is_bridge : FuncData
  F_law_is_bridge : Fun K "_law_is_bridge" "_law_is_bridge" sLBridge f_law_is_bridge fd_law_is_bridge
  b_law_is_bridge : Binds K fd_law_is_bridge ["_law_bridge", "_law_parts"] []
  g_law_is_bridge : mg "_law_is_bridge" = some (.ref f_law_is_bridge)
  f_law_near : Addr
  fd_law_near : FuncData
  F_law_near : Fun K "_law_near" "_law_near" sLNear f_law_near fd_law_near
  b_law_near : Binds K fd_law_near ["_law_tape_here", "_law_parts"] []
  g_law_near : mg "_law_near" = some (.ref f_law_near)
  f_law_named : Addr
  fd_law_named : FuncData
  F_law_named : Fun K "_law_named" "_law_named" sNamed f_law_named fd_law_named
  b_law_named : Binds K fd_law_named ["_law_bridge", "_law_thing"] []
  g_law_named : mg "_law_named" = some (.ref f_law_named)
  f_law_names_right : Addr
  fd_law_names_right : FuncData
  F_law_names_right : Fun K "_law_names_right" "_law_names_right" sNamesRight f_law_names_right fd_law_names_right
  b_law_names_right : Binds K fd_law_names_right ["_law_tape_here", "_law_bridge", "_law_parts"] []
  g_law_names_right : mg "_law_names_right" = some (.ref f_law_names_right)
  flaw : Addr
  fdlaw : FuncData
  Flaw : Fun K "law" "law" sLaw flaw fdlaw
  blaw : Binds K fdlaw ["_law_script"] []
  glaw : mg "law" = some (.ref flaw)
  fBoat___init__ : Addr
  fdBoat___init__ : FuncData
  FBoat___init__ : Fun K "__init__" "Boat.__init__" sBInit fBoat___init__ fdBoat___init__
  bBoat___init__ : Binds K fdBoat___init__ ["self", "name", "bears"] []
  fBoat___eq__ : Addr
  fdBoat___eq__ : FuncData
  FBoat___eq__ : Fun K "__eq__" "Boat.__eq__" sBEq fBoat___eq__ fdBoat___eq__
  bBoat___eq__ : Binds K fdBoat___eq__ ["self", "other"] []
  fBoat___str__ : Addr
  fdBoat___str__ : FuncData
  FBoat___str__ : Fun K "__str__" "Boat.__str__" sBStr fBoat___str__ fdBoat___str__
  bBoat___str__ : Binds K fdBoat___str__ ["self"] []
  fBoat___repr__ : Addr
  fdBoat___repr__ : FuncData
  FBoat___repr__ : Fun K "__repr__" "Boat.__repr__" sBRepr fBoat___repr__ fdBoat___repr__
  bBoat___repr__ : Binds K fdBoat___repr__ ["self"] []
  fBridge___init__ : Addr
  fdBridge___init__ : FuncData
  FBridge___init__ : Fun K "__init__" "Bridge.__init__" sBrInit fBridge___init__ fdBridge___init__
  bBridge___init__ : Binds K fdBridge___init__ ["self", "boats", "spans"] []
  fBridge___eq__ : Addr
  fdBridge___eq__ : FuncData
  FBridge___eq__ : Fun K "__eq__" "Bridge.__eq__" sBridgeEq fBridge___eq__ fdBridge___eq__
  bBridge___eq__ : Binds K fdBridge___eq__ ["self", "other"] []
  fBridge___len__ : Addr
  fdBridge___len__ : FuncData
  FBridge___len__ : Fun K "__len__" "Bridge.__len__" sBrLen fBridge___len__ fdBridge___len__
  bBridge___len__ : Binds K fdBridge___len__ ["self"] []
  fBridge___str__ : Addr
  fdBridge___str__ : FuncData
  FBridge___str__ : Fun K "__str__" "Bridge.__str__" sBridgeStr fBridge___str__ fdBridge___str__
  bBridge___str__ : Binds K fdBridge___str__ ["self"] []
  fBridge_boats : Addr
  fdBridge_boats : FuncData
  FBridge_boats : Fun K "boats" "Bridge.boats" sBrBoats fBridge_boats fdBridge_boats
  bBridge_boats : Binds K fdBridge_boats ["self"] []
  fBridge_spans : Addr
  fdBridge_spans : FuncData
  FBridge_spans : Fun K "spans" "Bridge.spans" sBrSpans fBridge_spans fdBridge_spans
  bBridge_spans : Binds K fdBridge_spans ["self"] []
  fBridge_boat : Addr
  fdBridge_boat : FuncData
  FBridge_boat : Fun K "boat" "Bridge.boat" sBridgeBoat fBridge_boat fdBridge_boat
  bBridge_boat : Binds K fdBridge_boat ["self", "name"] []
  fBridge_with_boat : Addr
  fdBridge_with_boat : FuncData
  FBridge_with_boat : Fun K "with_boat" "Bridge.with_boat" sBridgeWithBoat fBridge_with_boat fdBridge_with_boat
  bBridge_with_boat : Binds K fdBridge_with_boat ["self", "at", "boat"] []
  fNoBoat___init__ : Addr
  fdNoBoat___init__ : FuncData
  FNoBoat___init__ : Fun K "__init__" "NoBoat.__init__" sNoBoatInit fNoBoat___init__ fdNoBoat___init__
  bNoBoat___init__ : Binds K fdNoBoat___init__ ["self", "name"] []
  tMOST_BOATS : Tok
  mMOST_BOATS : mg "MOST_BOATS" = some (.int 10 tMOST_BOATS)
  tMOST_BORNE : Tok
  mMOST_BORNE : mg "MOST_BORNE" = some (.int 1000000 tMOST_BORNE)
  mIndexError : mg "IndexError" = none
  mKeyError : mg "KeyError" = none
  mOverflowError : mg "OverflowError" = none
  mValueError : mg "ValueError" = none
  mall : mg "all" = none
  mbool : mg "bool" = none
  mint : mg "int" = none
  misinstance : mg "isinstance" = none
  mlen : mg "len" = none
  mlist : mg "list" = none
  mmax : mg "max" = none
  mmin : mg "min" = none
  mrange : mg "range" = none
  mrepr : mg "repr" = none
  mset : mg "set" = none
  mstr : mg "str" = none
  mzip : mg "zip" = none
  CNoBridge : Addr
  gCNoBridge : mg "NoBridge" = some (.ref CNoBridge)
  tyNoBridge : PySem.W.typeIn K (.ref CNoBridge) = some (.type "type")
  icNoBridge : PySem.W.isClsIn K CNoBridge = true
  CNoSpan : Addr
  gCNoSpan : mg "NoSpan" = some (.ref CNoSpan)
  tyNoSpan : PySem.W.typeIn K (.ref CNoSpan) = some (.type "type")
  icNoSpan : PySem.W.isClsIn K CNoSpan = true
  COverload : Addr
  gCOverload : mg "Overload" = some (.ref COverload)
  tyOverload : PySem.W.typeIn K (.ref COverload) = some (.type "type")
  icOverload : PySem.W.isClsIn K COverload = true
  CTaken : Addr
  gCTaken : mg "Taken" = some (.ref CTaken)
  tyTaken : PySem.W.typeIn K (.ref CTaken) = some (.type "type")
  icTaken : PySem.W.isClsIn K CTaken = true
  CBoat : Addr
  CBridge : Addr
  CNoBoat : Addr
  gCNoBoat : mg "NoBoat" = some (.ref CNoBoat)
  oxNoBoat : OexB K CNoBoat
  exNoBoat : PySem.W.subIn K (.ref CNoBoat) (.type "BaseException") = some true
  hdNoBoat : PySem.W.hasDictIn K CNoBoat = true
  tyNoBoat : PySem.W.typeIn K (.ref CNoBoat) = some (.type "type")
  icNoBoat : PySem.W.isClsIn K CNoBoat = true
  seNoBoat : PySem.W.subIn K (.ref CNoBoat) (.ref CNoBoat) = some true
  upNoBoat : PySem.W.subIn K (.ref CNoBoat) (.type "KeyError") = some true
  gaNoBoat : PySem.W.findIn K (.ref CNoBoat) "__getattribute__" = some (some (.builtin "BaseException.__getattribute__"))
  ggNoBoat : PySem.W.findIn K (.ref CNoBoat) "__getattr__" = some none
  haNoBoat : PySem.W.findIn K (.ref CNoBoat) "__class__" = some (some (.builtin "object.__class__"))
  hnNoBoat : PySem.W.specialIn K (.builtin "object.__class__") "__get__" = some (some (.builtin "getset_descriptor.__get__"))
  htNoBoat : PySem.W.takesIn K (.builtin "object.__class__") = some true
  hmNoBoat : PySem.W.mroIn K CNoBoat (.type "object") = some true
  nNoBoat_name : PySem.W.findIn K (.ref CNoBoat) "name" = some none
  noNoBoat_NoBridge : PySem.W.subIn K (.ref CNoBoat) (.ref CNoBridge) = some false
  noNoBoat_NoSpan : PySem.W.subIn K (.ref CNoBoat) (.ref CNoSpan) = some false
  noNoBoat_Overload : PySem.W.subIn K (.ref CNoBoat) (.ref COverload) = some false
  noNoBoat_Taken : PySem.W.subIn K (.ref CNoBoat) (.ref CTaken) = some false
  aNoBoat___init__ : PySem.W.findIn K (.ref CNoBoat) "__init__" = some (some (.ref fNoBoat___init__))
  iNoBoat___init__ : PySem.W.isFn K (.ref fNoBoat___init__) = true
  kNoBoat___init__ : PySem.W.keepIn K (.ref fNoBoat___init__) = true
  gCBoat : mg "Boat" = some (.ref CBoat)
  pgBoat : PySem.W.plainGet K CBoat Str.empty = true
  hdBoat : PySem.W.hasDictIn K CBoat = true
  poBoat : PySem.W.plainOver K CBoat = true
  saBoat : PySem.W.findIn K (.ref CBoat) "__setattr__" = some (some (.builtin "object.__setattr__"))
  mkBoat : PySem.W.makesIn K CBoat = true
  kcBoat : PySem.W.keepIn K (.ref CBoat) = true
  haBoat : PySem.W.findIn K (.ref CBoat) "__class__" = some (some (.builtin "object.__class__"))
  hnBoat : PySem.W.specialIn K (.builtin "object.__class__") "__get__" = some (some (.builtin "getset_descriptor.__get__"))
  htBoat : PySem.W.takesIn K (.builtin "object.__class__") = some true
  hmBoat : PySem.W.mroIn K CBoat (.type "object") = some true
  nfBoat : PySem.W.notFirst K CBoat (.ref CBoat) = true
  nBoat_name : PySem.W.findIn K (.ref CBoat) "name" = some none
  nBoat_bears : PySem.W.findIn K (.ref CBoat) "bears" = some none
  neBoat : PySem.W.findIn K (.ref CBoat) "__ne__" = some (some (.builtin "object.__ne__"))
  icBoat : PySem.W.isClsIn K CBoat = true
  tyBoat : PySem.W.typeIn K (.ref CBoat) = some (.type "type")
  subBoat_NoneType : PySem.W.subIn K (.ref CBoat) (.type "NoneType") = some false
  kitBoat_NoneType : PySem.W.subIn K (.type "NoneType") (.ref CBoat) = some false
  ntBoat_NoneType : PySem.W.notFirst K CBoat (.type "NoneType") = true
  subBoat_int : PySem.W.subIn K (.ref CBoat) (.type "int") = some false
  kitBoat_int : PySem.W.subIn K (.type "int") (.ref CBoat) = some false
  ntBoat_int : PySem.W.notFirst K CBoat (.type "int") = true
  subBoat_str : PySem.W.subIn K (.ref CBoat) (.type "str") = some false
  kitBoat_str : PySem.W.subIn K (.type "str") (.ref CBoat) = some false
  ntBoat_str : PySem.W.notFirst K CBoat (.type "str") = true
  subBoat_list : PySem.W.subIn K (.ref CBoat) (.type "list") = some false
  kitBoat_list : PySem.W.subIn K (.type "list") (.ref CBoat) = some false
  ntBoat_list : PySem.W.notFirst K CBoat (.type "list") = true
  subBoat_tuple : PySem.W.subIn K (.ref CBoat) (.type "tuple") = some false
  kitBoat_tuple : PySem.W.subIn K (.type "tuple") (.ref CBoat) = some false
  ntBoat_tuple : PySem.W.notFirst K CBoat (.type "tuple") = true
  subBoat_dict : PySem.W.subIn K (.ref CBoat) (.type "dict") = some false
  kitBoat_dict : PySem.W.subIn K (.type "dict") (.ref CBoat) = some false
  ntBoat_dict : PySem.W.notFirst K CBoat (.type "dict") = true
  fmBoat : PySem.W.findIn K (.ref CBoat) "__format__" = some (some (.builtin "object.__format__"))
  aBoat___init__ : PySem.W.findIn K (.ref CBoat) "__init__" = some (some (.ref fBoat___init__))
  iBoat___init__ : PySem.W.isFn K (.ref fBoat___init__) = true
  kBoat___init__ : PySem.W.keepIn K (.ref fBoat___init__) = true
  aBoat___eq__ : PySem.W.findIn K (.ref CBoat) "__eq__" = some (some (.ref fBoat___eq__))
  iBoat___eq__ : PySem.W.isFn K (.ref fBoat___eq__) = true
  kBoat___eq__ : PySem.W.keepIn K (.ref fBoat___eq__) = true
  aBoat___str__ : PySem.W.findIn K (.ref CBoat) "__str__" = some (some (.ref fBoat___str__))
  iBoat___str__ : PySem.W.isFn K (.ref fBoat___str__) = true
  kBoat___str__ : PySem.W.keepIn K (.ref fBoat___str__) = true
  aBoat___repr__ : PySem.W.findIn K (.ref CBoat) "__repr__" = some (some (.ref fBoat___repr__))
  iBoat___repr__ : PySem.W.isFn K (.ref fBoat___repr__) = true
  kBoat___repr__ : PySem.W.keepIn K (.ref fBoat___repr__) = true
  gCBridge : mg "Bridge" = some (.ref CBridge)
  pgBridge : PySem.W.plainGet K CBridge Str.empty = true
  hdBridge : PySem.W.hasDictIn K CBridge = true
  poBridge : PySem.W.plainOver K CBridge = true
  saBridge : PySem.W.findIn K (.ref CBridge) "__setattr__" = some (some (.builtin "object.__setattr__"))
  mkBridge : PySem.W.makesIn K CBridge = true
  kcBridge : PySem.W.keepIn K (.ref CBridge) = true
  haBridge : PySem.W.findIn K (.ref CBridge) "__class__" = some (some (.builtin "object.__class__"))
  hnBridge : PySem.W.specialIn K (.builtin "object.__class__") "__get__" = some (some (.builtin "getset_descriptor.__get__"))
  htBridge : PySem.W.takesIn K (.builtin "object.__class__") = some true
  hmBridge : PySem.W.mroIn K CBridge (.type "object") = some true
  nfBridge : PySem.W.notFirst K CBridge (.ref CBridge) = true
  nBridge__boats : PySem.W.findIn K (.ref CBridge) "_boats" = some none
  nBridge__spans : PySem.W.findIn K (.ref CBridge) "_spans" = some none
  neBridge : PySem.W.findIn K (.ref CBridge) "__ne__" = some (some (.builtin "object.__ne__"))
  icBridge : PySem.W.isClsIn K CBridge = true
  tyBridge : PySem.W.typeIn K (.ref CBridge) = some (.type "type")
  subBridge_NoneType : PySem.W.subIn K (.ref CBridge) (.type "NoneType") = some false
  kitBridge_NoneType : PySem.W.subIn K (.type "NoneType") (.ref CBridge) = some false
  ntBridge_NoneType : PySem.W.notFirst K CBridge (.type "NoneType") = true
  subBridge_int : PySem.W.subIn K (.ref CBridge) (.type "int") = some false
  kitBridge_int : PySem.W.subIn K (.type "int") (.ref CBridge) = some false
  ntBridge_int : PySem.W.notFirst K CBridge (.type "int") = true
  subBridge_str : PySem.W.subIn K (.ref CBridge) (.type "str") = some false
  kitBridge_str : PySem.W.subIn K (.type "str") (.ref CBridge) = some false
  ntBridge_str : PySem.W.notFirst K CBridge (.type "str") = true
  subBridge_list : PySem.W.subIn K (.ref CBridge) (.type "list") = some false
  kitBridge_list : PySem.W.subIn K (.type "list") (.ref CBridge) = some false
  ntBridge_list : PySem.W.notFirst K CBridge (.type "list") = true
  subBridge_tuple : PySem.W.subIn K (.ref CBridge) (.type "tuple") = some false
  kitBridge_tuple : PySem.W.subIn K (.type "tuple") (.ref CBridge) = some false
  ntBridge_tuple : PySem.W.notFirst K CBridge (.type "tuple") = true
  subBridge_dict : PySem.W.subIn K (.ref CBridge) (.type "dict") = some false
  kitBridge_dict : PySem.W.subIn K (.type "dict") (.ref CBridge) = some false
  ntBridge_dict : PySem.W.notFirst K CBridge (.type "dict") = true
  blBridge : PySem.W.findIn K (.ref CBridge) "__bool__" = some none
  aBridge___init__ : PySem.W.findIn K (.ref CBridge) "__init__" = some (some (.ref fBridge___init__))
  iBridge___init__ : PySem.W.isFn K (.ref fBridge___init__) = true
  kBridge___init__ : PySem.W.keepIn K (.ref fBridge___init__) = true
  aBridge___eq__ : PySem.W.findIn K (.ref CBridge) "__eq__" = some (some (.ref fBridge___eq__))
  iBridge___eq__ : PySem.W.isFn K (.ref fBridge___eq__) = true
  kBridge___eq__ : PySem.W.keepIn K (.ref fBridge___eq__) = true
  aBridge___len__ : PySem.W.findIn K (.ref CBridge) "__len__" = some (some (.ref fBridge___len__))
  iBridge___len__ : PySem.W.isFn K (.ref fBridge___len__) = true
  kBridge___len__ : PySem.W.keepIn K (.ref fBridge___len__) = true
  aBridge___str__ : PySem.W.findIn K (.ref CBridge) "__str__" = some (some (.ref fBridge___str__))
  iBridge___str__ : PySem.W.isFn K (.ref fBridge___str__) = true
  kBridge___str__ : PySem.W.keepIn K (.ref fBridge___str__) = true
  aBridge_boats : PySem.W.findIn K (.ref CBridge) "boats" = some (some (.ref fBridge_boats))
  iBridge_boats : PySem.W.isFn K (.ref fBridge_boats) = true
  kBridge_boats : PySem.W.keepIn K (.ref fBridge_boats) = true
  aBridge_spans : PySem.W.findIn K (.ref CBridge) "spans" = some (some (.ref fBridge_spans))
  iBridge_spans : PySem.W.isFn K (.ref fBridge_spans) = true
  kBridge_spans : PySem.W.keepIn K (.ref fBridge_spans) = true
  aBridge_boat : PySem.W.findIn K (.ref CBridge) "boat" = some (some (.ref fBridge_boat))
  iBridge_boat : PySem.W.isFn K (.ref fBridge_boat) = true
  kBridge_boat : PySem.W.keepIn K (.ref fBridge_boat) = true
  aBridge_with_boat : PySem.W.findIn K (.ref CBridge) "with_boat" = some (some (.ref fBridge_with_boat))
  iBridge_with_boat : PySem.W.isFn K (.ref fBridge_with_boat) = true
  kBridge_with_boat : PySem.W.keepIn K (.ref fBridge_with_boat) = true
theorem kb_Bridge___init___1_spans_boats {K : PySem.W.Frag} {mg : Str → Option Value} (T : Ev K mg) : KBn K T.fdBridge___init__ ["self", "boats", "spans"] 1 ["spans", "boats"] (fun us ws => pickL (us ++ ws) [0, 2, 1]) (fun vs zs => pickL (vs ++ zs) [0, 2, 1]) :=
  kbF T.FBridge___init__ 1 ["spans", "boats"] [0, 2, 1] fun _ _ _ _ _ _ us ws h1 h2 => match us, ws, h1, h2 with | [_], [_, _], _, _ => rfl
theorem kb_Bridge_boat_1_name {K : PySem.W.Frag} {mg : Str → Option Value} (T : Ev K mg) : KBn K T.fdBridge_boat ["self", "name"] 1 ["name"] (fun us ws => pickL (us ++ ws) [0, 1]) (fun vs zs => pickL (vs ++ zs) [0, 1]) :=
  kbF T.FBridge_boat 1 ["name"] [0, 1] fun _ _ _ _ _ _ us ws h1 h2 => match us, ws, h1, h2 with | [_], [_], _, _ => rfl
theorem cl_Boat {K : PySem.W.Frag} {mg : Str → Option Value} (T : Ev K mg) : Cls K T.CBoat := ⟨T.pgBoat, T.hdBoat, T.poBoat, T.saBoat⟩
theorem mt_Boat___init__ {K : PySem.W.Frag} {mg : Str → Option Value} (T : Ev K mg) : Meth K T.CBoat "__init__" T.fBoat___init__ := ⟨T.aBoat___init__, T.iBoat___init__, T.kBoat___init__⟩
theorem mk_Boat {K : PySem.W.Frag} {mg : Str → Option Value} (T : Ev K mg) : Mk K T.CBoat T.fBoat___init__ := ⟨T.mkBoat, T.aBoat___init__, T.iBoat___init__, T.kcBoat⟩
theorem mt_Boat___eq__ {K : PySem.W.Frag} {mg : Str → Option Value} (T : Ev K mg) : Meth K T.CBoat "__eq__" T.fBoat___eq__ := ⟨T.aBoat___eq__, T.iBoat___eq__, T.kBoat___eq__⟩
theorem mt_Boat___str__ {K : PySem.W.Frag} {mg : Str → Option Value} (T : Ev K mg) : Meth K T.CBoat "__str__" T.fBoat___str__ := ⟨T.aBoat___str__, T.iBoat___str__, T.kBoat___str__⟩
theorem mt_Boat___repr__ {K : PySem.W.Frag} {mg : Str → Option Value} (T : Ev K mg) : Meth K T.CBoat "__repr__" T.fBoat___repr__ := ⟨T.aBoat___repr__, T.iBoat___repr__, T.kBoat___repr__⟩
theorem cl_Bridge {K : PySem.W.Frag} {mg : Str → Option Value} (T : Ev K mg) : Cls K T.CBridge := ⟨T.pgBridge, T.hdBridge, T.poBridge, T.saBridge⟩
theorem mt_Bridge___init__ {K : PySem.W.Frag} {mg : Str → Option Value} (T : Ev K mg) : Meth K T.CBridge "__init__" T.fBridge___init__ := ⟨T.aBridge___init__, T.iBridge___init__, T.kBridge___init__⟩
theorem mk_Bridge {K : PySem.W.Frag} {mg : Str → Option Value} (T : Ev K mg) : Mk K T.CBridge T.fBridge___init__ := ⟨T.mkBridge, T.aBridge___init__, T.iBridge___init__, T.kcBridge⟩
theorem mt_Bridge___eq__ {K : PySem.W.Frag} {mg : Str → Option Value} (T : Ev K mg) : Meth K T.CBridge "__eq__" T.fBridge___eq__ := ⟨T.aBridge___eq__, T.iBridge___eq__, T.kBridge___eq__⟩
theorem mt_Bridge___len__ {K : PySem.W.Frag} {mg : Str → Option Value} (T : Ev K mg) : Meth K T.CBridge "__len__" T.fBridge___len__ := ⟨T.aBridge___len__, T.iBridge___len__, T.kBridge___len__⟩
theorem mt_Bridge___str__ {K : PySem.W.Frag} {mg : Str → Option Value} (T : Ev K mg) : Meth K T.CBridge "__str__" T.fBridge___str__ := ⟨T.aBridge___str__, T.iBridge___str__, T.kBridge___str__⟩
theorem mt_Bridge_boats {K : PySem.W.Frag} {mg : Str → Option Value} (T : Ev K mg) : Meth K T.CBridge "boats" T.fBridge_boats := ⟨T.aBridge_boats, T.iBridge_boats, T.kBridge_boats⟩
theorem mt_Bridge_spans {K : PySem.W.Frag} {mg : Str → Option Value} (T : Ev K mg) : Meth K T.CBridge "spans" T.fBridge_spans := ⟨T.aBridge_spans, T.iBridge_spans, T.kBridge_spans⟩
theorem mt_Bridge_boat {K : PySem.W.Frag} {mg : Str → Option Value} (T : Ev K mg) : Meth K T.CBridge "boat" T.fBridge_boat := ⟨T.aBridge_boat, T.iBridge_boat, T.kBridge_boat⟩
theorem mt_Bridge_with_boat {K : PySem.W.Frag} {mg : Str → Option Value} (T : Ev K mg) : Meth K T.CBridge "with_boat" T.fBridge_with_boat := ⟨T.aBridge_with_boat, T.iBridge_with_boat, T.kBridge_with_boat⟩
/-! ### the tape, by what is known of the names -/
section
variable {P : Program} {w : World} {K : PySem.W.Frag} {mg : Str → Option Value} {base : Heap} (T : Ev K mg)
theorem ok_law_draw : FnOk P w K mg base CX0 1 T.f_law_draw T.fd_law_draw ["_law_tape_here", "_law_many"] spDraw := ok_draw T.F_law_draw ⟨T.mlen⟩
theorem ok_law_pick : FnOk P w K mg base CX0 2 T.f_law_pick T.fd_law_pick ["_law_tape_here", "_law_some"] spPick := ok_pick T.F_law_pick ⟨T.mlen⟩ T.F_law_draw T.g_law_draw T.b_law_draw
theorem ok_law_tape : FnOk P w K mg base CX0 1 T.f_law_tape T.fd_law_tape ["_law_script"] (spTape K) := ok_tape T.F_law_tape ⟨T.mlen⟩
end
theorem dr {H : Hp} {F c : Addr} (b : Int) {n : Nat} {Q : VK} {E : XK} (hT : Tape H F c n) (b0 : 0 < b) (b1 : b < 1073741824) (hn : n < 1000000)
    (q : ∀ d H', 0 ≤ d → d < b → Tape H' F c (n + 1) → Keep F H H' → Q (.int d) H') : spDraw [.ref F, .int b] H Q E := ⟨F, c, b, n, rfl, b0, b1, hn, hT, q⟩
theorem pk {H : Hp} {F c p : Addr} {xs : List V} {n : Nat} {Q : VK} {E : XK} (hT : Tape H F c n) (hp : H p = some (.lst xs)) (ne : p ≠ F) (l0 : 0 < xs.length) (l1 : xs.length < 1000000) (hn : n < 1000000)
    (q : ∀ x H', x ∈ xs → Tape H' F c (n + 1) → Keep F H H' → Q x H') : spPick [.ref F, .ref p] H Q E := ⟨F, c, p, xs, n, rfl, hp, ne, l0, l1, hn, hT, fun _ x H' e => q x H' (List.mem_of_getElem? e)⟩
/-- of a list that is written there -/
theorem pkn {H : Hp} {F c : Addr} {xs : List V} {n : Nat} {Q : VK} {E : XK} (hT : Tape H F c n) (l0 : 0 < xs.length) (l1 : xs.length < 1000000) (hn : n < 1000000)
    (q : ∀ x H', x ∈ xs → Tape H' F c (n + 1) → Keep F H H' → Q x H') : ∀ p, H p = none → spPick [.ref F, .ref p] (upd H p (.lst xs)) Q E := fun p hp =>
  pk (hT.new hp) upd_same (hT.ne hp) l0 l1 hn fun x H' m t k => q x H' m t ((Keep.refl.new hp).trans k)
theorem Tape.tape {H : Hp} {F c : Addr} {n : Nat} (h : Tape H F c n) : ∃ ys, H F = some (.lst ys) := by
  obtain ⟨t, r, ns, h1, _⟩ := h.ex
  exact ⟨_, h1⟩
/-- a place that was free ahead of all that is kept -/
theorem Keep.free {F : Addr} {H H' : Hp} {p : Addr} (k : Keep F H H') (hp : H' p = none) (ne : p ≠ F) : H p = none := by
  cases e : H p with
  | none => rfl
  | some o => have := k p o ne e; rw [hp] at this; cases this
set_option maxHeartbeats 8000000
local macro_rules | `(tactic| walk_at "c") => `(tactic| first | omega | decide | exact ⟨by omega, by omega⟩ | exact ⟨by decide, by decide⟩ | exact .inl ⟨by omega, by omega⟩ | exact .inr ⟨by omega, by omega⟩ | exact ⟨by omega, by omega, by omega⟩ | exact ⟨by decide, by decide, by decide⟩ | exact le_line (Nat.le_of_ble_eq_true rfl))
local macro_rules | `(tactic| walk_at "a") => `(tactic| with_reducible (first | refine i_seq ?_ | refine i_asg ?_ | refine i_cons ?_ | refine i_c ?_ | refine i_nil ?_ | refine i_op ?_ | refine i_call ?_ | refine i_cb ?_ | refine i_name ?_ | refine i_next ?_ | refine i_ret ?_ | refine i_drop ?_ | refine i_if ?_ | refine i_test ?_ | refine i_and ?_ | refine i_or ?_ | refine i_not ?_ | refine i_ite ?_ | refine i_lst ?_ | refine i_tup ?_ | refine i_bm ?_ | refine i_un ?_ | refine i_par ?_ | refine i_gsub ?_ | refine i_chain ?_ | refine i_sl ?_ | refine i_nopart ?_ | refine i_part ?_ | refine i_m1 ?_ | refine i_m0 ?_ | refine i_lc ?_ | refine i_iList ?_ | refine i_iTup ?_ | refine i_iStr ?_ | refine i_r1 ?_ | refine i_set ?_ | refine i_callk ?_ | refine i_callN ?_ | refine i_ckw ?_ | refine i_revL ?_ | refine i_tB ?_ | refine i_fld ?_ | refine i_sfld ?_ | refine i_make ?_ | refine i_makeN ?_ | refine i_meth ?_ | refine i_andV ?_ | refine i_orV ?_ | refine i_notV ?_ | refine iteT ?_ | refine iteF ?_ | refine i_yes ?_))
local macro_rules | `(tactic| walk_at "s") => `(tactic| repeat (first | walk_at "a" | refine i_var rfl ?_ | refine i_aug rfl ?_ | refine And.intro ⟨_, rfl⟩ ?_ | refine ⟨_, rfl, ?_⟩ | refine ⟨_, _, rfl, rfl, ?_⟩ | refine ⟨_, _, rfl, ?_⟩ | refine ⟨rfl, ?_⟩ | refine And.intro (by walk_at "c") ?_))
section
variable {P : Program} {w : World} {K : PySem.W.Frag} {mg : Str → Option Value} {base : Heap} (T : Ev K mg)
theorem bcl : BCl K mg T.CBoat := ⟨cl_Boat T, T.nBoat_name, T.nBoat_bears, T.gCBoat, T.haBoat, T.hnBoat, T.htBoat, T.hmBoat⟩
theorem brcl : BrCl K mg T.CBridge := ⟨cl_Bridge T, T.nBridge__boats, T.nBridge__spans, T.gCBridge⟩
theorem txb {K : PySem.W.Frag} {mg : Str → Option Value} (T : Ev K mg) : TxtB mg := ⟨T.misinstance, T.mlen, T.mall, T.mlist, T.mint, T.mbool, ⟨_, T.mMOST_BOATS⟩, ⟨_, T.mMOST_BORNE⟩⟩
theorem okBoat___init__ : FnOk P w K mg base CX0 1 T.fBoat___init__ T.fdBoat___init__ ["self", "name", "bears"] (spBInit T.CBoat) := ok_binit T.FBoat___init__ (bcl T)
theorem okis_whole : FnOk P w K mg base CX0 1 T.fis_whole T.fdis_whole ["thing", "least", "most"] (spIsW K) := ok_isw T.Fis_whole (txb T)
theorem okBridge_boats : FnOk P w K mg base CX0 1 T.fBridge_boats T.fdBridge_boats ["self"] (spBrBoats T.CBoat T.CBridge) := ok_brboats T.FBridge_boats (txb T) (brcl T)
theorem okBridge_spans : FnOk P w K mg base CX0 1 T.fBridge_spans T.fdBridge_spans ["self"] (spBrSpans T.CBoat T.CBridge) := ok_brspans T.FBridge_spans (txb T) (brcl T)
theorem okBridge___len__ : FnOk P w K mg base CX0 1 T.fBridge___len__ T.fdBridge___len__ ["self"] (spBrLen T.CBoat T.CBridge) := ok_brlen T.FBridge___len__ (txb T) (brcl T)
theorem okBridge___init__ : FnOk P w K mg base CX0 3 T.fBridge___init__ T.fdBridge___init__ ["self", "boats", "spans"] (spBrInit T.CBoat T.CBridge) := ok_brinit (k := 0) T.FBridge___init__ (txb T) (bcl T) (brcl T) T.F_are_boats T.g_are_boats T.b_are_boats T.F_are_spans T.g_are_spans T.b_are_spans T.Fis_whole T.gis_whole T.bis_whole
/-! ### == of Boats, and of lists of them -/
def spBEq (K : PySem.W.Frag) (C : Addr) : Sp := fun vs H Q _ => ∃ (p : Addr) (y : V) (n : Str) (b : Int), vs = [.ref p, y] ∧ BoatAt C H p n b ∧
  ((∃ q m c, y = .ref q ∧ BoatAt C H q m c ∧ Q (.bl (decide (n = m) && decide (b = c))) H) ∨ (∃ t, TyX K H y t ∧ PySem.W.kitOne K t (.ref C) = some false ∧ Q (.bl false) H))
theorem okBoat___eq__ : FnOk P w K mg base CX0 1 T.fBoat___eq__ T.fdBoat___eq__ ["self", "other"] (spBEq K T.CBoat) := by
  refine T.FBoat___eq__.ok scBEq (fun vs H Q E h => ?_) (fun cdv A outer s H vs Q E hr h => ?_)
  · obtain ⟨p, y, a, b, rfl, _⟩ := h
    rfl
  · obtain ⟨p, y, a, b, rfl, hp, hy⟩ := h
    refine ⟨_,
      (pss_one (ps_ret (pe_and (pe_callB call_isi (by rfl) T.misinstance (by decide +kernel) (pa_cons (pv 1) (pa_cons (pe_glob (v := .ref T.CBoat) (by rfl) T.gCBoat rfl) pa_nil))) (pe_and (pe_cmpR op_eq (pe_fld (pv 0) rfl) (pe_fld (pv 1) rfl) (nomark _)) (pe_one (pe_cmpR op_eq (pe_fld (pv 0) rfl) (pe_fld (pv 1) rfl) (nomark _)))))))
      , ?_⟩
    obtain ⟨dx, ep⟩ := id hp
    rcases hy with ⟨r, c, d, rfl, hr', q⟩ | ⟨t, ty, hk, q⟩
    · obtain ⟨dy, er⟩ := id hr'
      refine ⟨_, rfl, _, _, _, _, true, rfl, .own T.CBoat, isBoat (bcl T) hr', kitC, true, rfl, ?_⟩
      refine ⟨_, rfl, p, T.CBoat, dx, _, _, rfl, ep, cl_Boat T, T.nBoat_name, boatF_name a b, _, rfl, r, T.CBoat, dy, _, _, rfl, er, cl_Boat T, T.nBoat_name, boatF_name c d, rfl, _, rfl, ?_⟩
      refine ite2 (fun c1 => ?_) (fun c1 => ?_)
      · have e1 : a = c := V.str.inj (of_decide_eq_true c1)
        refine ⟨_, rfl, p, T.CBoat, dx, _, _, rfl, ep, cl_Boat T, T.nBoat_bears, boatF_bears a b, _, rfl, r, T.CBoat, dy, _, _, rfl, er, cl_Boat T, T.nBoat_bears, boatF_bears c d, rfl, ?_⟩
        have z : (decide (a = c) && decide (b = d)) = decide (V.int b = V.int d) := by
          rw [decide_eq_true e1, Bool.true_and]
          exact decide_eq_decide.mpr ⟨fun e => congrArg V.int e, fun e => V.int.inj e⟩
        rw [z] at q
        exact q
      · have e1 : ¬ a = c := fun e => c1 (decide_eq_true (congrArg V.str e))
        rw [decide_eq_false e1, Bool.false_and] at q
        exact q
    · exact ⟨_, rfl, _, _, _, _, false, rfl, .own T.CBoat, ty, hk, false, rfl, q⟩
end
section
variable {C : Addr} {K : PySem.W.Frag}
theorem BoatAt.same' {H H' : Hp} {p : Addr} {n : Str} {b : Int} (h : BoatAt C H p n b) (s : Same H H') : BoatAt C H' p n b := by
  obtain ⟨dx, e⟩ := h; exact ⟨dx, s _ _ e⟩
def RBoat (C : Addr) : Addr → Addr → Bool → Hp → Prop := fun p q r H => ∃ a b c d, BoatAt C H p a b ∧ BoatAt C H q c d ∧ r = (decide (a = c) && decide (b = d))
theorem monBoat : MonB (DInsB C (RBoat C)) := monB_ins fun p q r H H' e ⟨a, b, c, d, h1, h2, h3⟩ => ⟨a, b, c, d, h1.same' e, h2.same' e, h3⟩
theorem boatF_inj {a c : Str} {b d : Int} (e : boatF a b = boatF c d) : a = c ∧ b = d := by
  have e1 := boatF_name a b
  have e2 := boatF_bears a b
  rw [e, boatF_name] at e1
  rw [e, boatF_bears] at e2
  cases e1
  cases e2
  exact ⟨rfl, rfl⟩
theorem selfBoat (p : Addr) (r : Bool) (H : Hp) (h : RBoat C p p r H) : r = true := by
  obtain ⟨a, b, c, d, ⟨dx, h1⟩, ⟨dy, h2⟩, h3⟩ := h
  rw [h1] at h2
  have e : boatF a b = boatF c d := by injection h2 with h2; injection h2
  obtain ⟨rfl, rfl⟩ := boatF_inj e
  rw [h3, decide_eq_true rfl, decide_eq_true rfl]; rfl
theorem hspBoat (p q : Addr) (r : Bool) (H : Hp) (Q : VK) (h : RBoat C p q r H) (hq : ∀ H', Ext H H' → Q (.bl r) H') : spBEq K C [.ref p, .ref q] H Q E0 := by
  obtain ⟨a, b, c, d, h1, h2, h3⟩ := h
  exact ⟨p, _, a, b, rfl, h1, .inl ⟨q, c, d, rfl, h2, by rw [← h3]; exact hq H Ext.rfl'⟩⟩
/-- where two lists part -/
theorem parts_at {α : Type} [DecidableEq α] : ∀ (l m : List α), l.length = m.length → ∃ k, k ≤ l.length ∧ decide (l = m) = decide (k = l.length) ∧ ∀ (i : Nat) x y, l[i]? = some x → m[i]? = some y → i ≤ k → (decide (x = y)) = decide (i < k)
  | [], [], _ => ⟨0, Nat.le_refl _, by simp, fun i x y h => by cases h⟩
  | a :: l, b :: m, h => by
    by_cases e : a = b
    · subst e
      obtain ⟨k, k1, k2, k3⟩ := parts_at l m (Nat.succ.inj h)
      refine ⟨k + 1, Nat.succ_le_succ k1, ?_, fun i x y hx hy hi => ?_⟩
      · have : decide (a :: l = a :: m) = decide (l = m) := decide_eq_decide.mpr ⟨fun z => (List.cons.inj z).2, fun z => by rw [z]⟩
        rw [this, k2]
        exact decide_eq_decide.mpr ⟨fun z => congrArg Nat.succ z, fun z => Nat.succ.inj z⟩
      · cases i with
        | zero => cases hx; cases hy; rw [decide_eq_true rfl, decide_eq_true (by omega)]
        | succ i =>
          rw [k3 i x y hx hy (by omega)]
          exact decide_eq_decide.mpr ⟨fun z => by omega, fun z => by omega⟩
    · refine ⟨0, Nat.zero_le _, ?_, fun i x y hx hy hi => ?_⟩
      · rw [decide_eq_false (fun z => e (List.cons.inj z).1), decide_eq_false (by simp)]
      · have : i = 0 := by omega
        subst this
        cases hx; cases hy
        rw [decide_eq_false e]; rfl
/-- lists of Boats: alike just where names and bearings are -/
theorem boats_eqB {H : Hp} {p q : Addr} {xs ys : List V} {rs ss : List (Str × Int)} (hp : H p = some (.lst xs)) (hq : H q = some (.lst ys)) (h1 : Boats C H xs rs) (h2 : Boats C H ys ss) : DListB (DInsB C (RBoat C)) (.ref p) (.ref q) (decide (rs = ss)) H := by
  have l1 := h1.len
  have l2 := h2.len
  refine ⟨p, q, xs, ys, rfl, rfl, hp, hq, ?_⟩
  by_cases hl : xs.length = ys.length
  · obtain ⟨k, k1, k2, k3⟩ := parts_at rs ss (by omega)
    refine .inr ⟨hl, k, by omega, by rw [k2, l1], fun i x y hx hy hi => ?_⟩
    obtain ⟨o, r, rfl, e1, dx, o1⟩ := h1.at hx
    obtain ⟨o', r', rfl, e2, dy, o2⟩ := h2.at hy
    rw [← k3 i r r' e1 e2 hi]
    refine ⟨o, o', dx, dy, _, _, rfl, rfl, o1, o2, r.1, r.2, r'.1, r'.2, ⟨dx, o1⟩, ⟨dy, o2⟩, ?_⟩
    rw [← Bool.decide_and]
    exact decide_eq_decide.mpr ⟨fun z => by rw [z]; exact ⟨rfl, rfl⟩, fun z => Prod.ext z.1 z.2⟩
  · refine .inl ⟨hl, decide_eq_false fun e => hl ?_⟩
    rw [l1, l2, e]
end
/-! ### the law's parts, bridges and looks, by what is known of the names -/
section
variable {P : Program} {w : World} {K : PySem.W.Frag} {mg : Str → Option Value} {base : Heap} (T : Ev K mg)
theorem txp {K : PySem.W.Frag} {mg : Str → Option Value} (T : Ev K mg) : TxtP mg := ⟨T.mlen, T.mrange, T.mlist, T.misinstance, T.mint, T.mbool, T.mstr⟩
theorem ok_law_names : FnOk P w K mg base CX0 2 T.f_law_names T.fd_law_names ["_law_tape_here", "_law_many"] spNames := ok_names T.F_law_names ⟨T.mlen⟩ ⟨T.mlen, T.mrange⟩ T.F_law_draw T.g_law_draw T.b_law_draw
theorem ok_law_drawn_parts : FnOk P w K mg base CX0 5 T.f_law_drawn_parts T.fd_law_drawn_parts ["_law_tape_here"] spDParts :=
  (ok_dparts (k := 1) T.F_law_drawn_parts ⟨T.mlen⟩ ⟨T.mlen, T.mrange⟩ (txp T) T.F_law_draw T.g_law_draw T.b_law_draw T.F_law_pick T.g_law_pick T.b_law_pick T.F_law_names T.g_law_names T.b_law_names T.F_law_boat_rows T.g_law_boat_rows T.b_law_boat_rows T.F_law_span_row T.g_law_span_row T.b_law_span_row)
theorem ok_law_made : FnOk P w K mg base CX0 5 T.f_law_made T.fd_law_made ["_law_parts"] (spMade T.CBoat T.CBridge) :=
  ok_made (k := 0) T.F_law_made (txb T) (bcl T) (brcl T) (txp T) (mk_Boat T) T.FBoat___init__ T.bBoat___init__ (mk_Bridge T) T.FBridge___init__ T.bBridge___init__ T.F_are_boats T.g_are_boats T.b_are_boats T.F_are_spans T.g_are_spans T.b_are_spans T.Fis_whole T.gis_whole T.bis_whole
theorem ok_law_is_boat : FnOk P w K mg base CX0 1 T.f_law_is_boat T.fd_law_is_boat ["_law_one", "_law_who", "_law_bears"] (spLBoat T.CBoat) := ok_lboat T.F_law_is_boat (bcl T) (txp T)
theorem ok_law_is_bridge : FnOk P w K mg base CX0 5 T.f_law_is_bridge T.fd_law_is_bridge ["_law_bridge", "_law_parts"] (spLBridge T.CBoat T.CBridge) :=
  ok_lbridge T.F_law_is_bridge (txb T) (bcl T) (brcl T) T.blBridge (txp T) (mt_Bridge_boats T) T.FBridge_boats T.bBridge_boats (mt_Bridge_spans T) T.FBridge_spans T.bBridge_spans (mt_Bridge___len__ T) T.FBridge___len__ T.bBridge___len__ T.F_law_is_boat T.g_law_is_boat T.b_law_is_boat
end
section
variable {P : Program} {w : World} {K : PySem.W.Frag} {mg : Str → Option Value} {base : Heap} (T : Ev K mg)
theorem ok_law_odd : FnOk P w K mg base CX0 3 T.f_law_odd T.fd_law_odd ["_law_tape_here"] spOdd := ok_odd T.F_law_odd ⟨T.mlen⟩ T.F_law_draw T.g_law_draw T.b_law_draw T.F_law_pick T.g_law_pick T.b_law_pick
end
set_option maxHeartbeats 8000000
local macro_rules | `(tactic| walk_at "c") => `(tactic| first | omega | decide | exact ⟨by omega, by omega⟩ | exact ⟨by decide, by decide⟩ | exact .inl ⟨by omega, by omega⟩ | exact .inr ⟨by omega, by omega⟩ | exact ⟨by omega, by omega, by omega⟩ | exact ⟨by decide, by decide, by decide⟩ | exact le_line (Nat.le_of_ble_eq_true rfl))
local macro_rules | `(tactic| walk_at "a") => `(tactic| with_reducible (first | refine i_seq ?_ | refine i_asg ?_ | refine i_cons ?_ | refine i_c ?_ | refine i_nil ?_ | refine i_op ?_ | refine i_call ?_ | refine i_cb ?_ | refine i_name ?_ | refine i_next ?_ | refine i_ret ?_ | refine i_drop ?_ | refine i_if ?_ | refine i_test ?_ | refine i_and ?_ | refine i_or ?_ | refine i_not ?_ | refine i_ite ?_ | refine i_lst ?_ | refine i_tup ?_ | refine i_bm ?_ | refine i_un ?_ | refine i_par ?_ | refine i_gsub ?_ | refine i_chain ?_ | refine i_sl ?_ | refine i_nopart ?_ | refine i_part ?_ | refine i_m1 ?_ | refine i_m0 ?_ | refine i_lc ?_ | refine i_iList ?_ | refine i_iTup ?_ | refine i_iStr ?_ | refine i_r1 ?_ | refine i_set ?_ | refine i_callk ?_ | refine i_callN ?_ | refine i_ckw ?_ | refine i_revL ?_ | refine i_tB ?_ | refine i_fld ?_ | refine i_sfld ?_ | refine i_make ?_ | refine i_makeN ?_ | refine i_meth ?_ | refine i_andV ?_ | refine i_orV ?_ | refine i_notV ?_ | refine iteT ?_ | refine iteF ?_ | refine i_yes ?_))
local macro_rules | `(tactic| walk_at "s") => `(tactic| repeat (first | walk_at "a" | refine i_var rfl ?_ | refine i_aug rfl ?_ | refine And.intro ⟨_, rfl⟩ ?_ | refine ⟨_, rfl, ?_⟩ | refine ⟨_, _, rfl, rfl, ?_⟩ | refine ⟨_, _, rfl, ?_⟩ | refine ⟨rfl, ?_⟩ | refine And.intro (by walk_at "c") ?_))
/-! ### texts of numbers and names, read -/
def numS (i : Int) : Str := Str.ofString (toString i)
theorem num_facts {i : Int} (h0 : 0 ≤ i) (h1 : i ≤ 1000000) : (∀ c ∈ tl (numS i), 48 ≤ c ∧ c ≤ 57) ∧ tl (numS i) ≠ [] ∧ PySem.intText? (numS i) = some i ∧ (numS i).length ≤ 7 := by
  obtain ⟨n, rfl⟩ := Int.eq_ofNat_of_zero_le h0
  have e : tl (numS n) = TL.numL n := TL.tl_num n
  have l : (TL.numL n).length ≤ 7 := TL.numL_len (by decide) (by omega)
  refine ⟨?_, ?_, TL.int_num (by omega), ?_⟩
  · rw [e]; exact TL.numL_digits n
  · rw [e]; exact TL.numL_ne n
  · rw [TL.len_tl, e]; exact l
theorem num_no (s : Nat) (hs : s < 48 ∨ 57 < s) {i : Int} (h0 : 0 ≤ i) (h1 : i ≤ 1000000) : s ∉ tl (numS i) := fun h => by
  have := (num_facts h0 h1).1 s h
  omega
theorem ifF {c : Bool} {a b : Prop} (h : c = false) (q : b) : if c = true then a else b := by subst h; exact q
theorem ifT {c : Bool} {a b : Prop} (h : c = true) (q : a) : if c = true then a else b := by subst h; exact q
theorem isi_str {K : PySem.W.Frag} {H : Hp} {z : Str} {Q : VK} (q : Q (.bl true) H) : rIsi K [.str z, .ty "str"] H Q := ⟨_, _, _, _, true, rfl, .ty _, .base (.str z), rfl, q⟩
theorem log_small {i : Int} (h : i.natAbs < 2 ^ 64) : i.natAbs.log2 < 1920 := by
  by_cases z : i.natAbs = 0
  · rw [z]; decide
  · have := (Nat.log2_lt z).mpr (Nat.lt_of_lt_of_le h (Nat.pow_le_pow_right (by decide) (by decide : 64 ≤ 1920)))
    exact this
theorem eqvA_ints : ∀ l m : List Int, PyData.eqvAll (l.map PyData.int) (m.map PyData.int) = decide (l = m)
  | [], [] => rfl
  | [], _ :: _ => rfl
  | _ :: _, [] => rfl
  | a :: l, b :: m => by
    rw [List.map_cons, List.map_cons, PyData.eqvAll, eqvA_ints l m]
    by_cases e : a = b
    · subst e
      simp [PyData.eqv]
    · simp [PyData.eqv, e]
theorem eqv_ints (l m : List Int) : PyData.eqv (.list (l.map PyData.int)) (.list (m.map PyData.int)) = decide (l = m) := by
  rw [PyData.eqv, eqvA_ints]
def rowD (r : Str × Int) : PyData := .tuple [.str r.1, .int r.2]
theorem eqvA_rows : ∀ l m : List (Str × Int), PyData.eqvAll (l.map rowD) (m.map rowD) = decide (l = m)
  | [], [] => rfl
  | [], _ :: _ => rfl
  | _ :: _, [] => rfl
  | a :: l, b :: m => by
    rw [List.map_cons, List.map_cons, PyData.eqvAll, eqvA_rows l m]
    obtain ⟨a1, a2⟩ := a
    obtain ⟨b1, b2⟩ := b
    by_cases e : a1 = b1
    · subst e
      by_cases e2 : a2 = b2
      · subst e2
        simp [rowD, PyData.eqv, PyData.eqvAll]
      · simp [rowD, PyData.eqv, PyData.eqvAll, e2]
    · simp [rowD, PyData.eqv, PyData.eqvAll, e]
def spHasO : Sp := fun vs H Q _ => ∃ (x sg : Str), vs = [.str x, .str sg] ∧ x.length ≤ 100 ∧ sg.length ≤ 100 ∧ (∀ c ∈ tl x, c ∈ tl sg) ∧ ∀ H', Same H H' → Q (.bl true) H'
def spIsName : Sp := fun vs H Q _ => ∃ (z : Str), vs = [.str z] ∧ LowN 8 z ∧ 1 ≤ z.length ∧ ∀ H', Same H H' → Q (.bl true) H'
def spNumOf : Sp := fun vs H Q _ => ∃ (i : Int), vs = [.str (numS i), .int 1000000] ∧ 0 ≤ i ∧ i ≤ 1000000 ∧ ∀ H', Same H H' → Q (.int i) H'
def boatS (n : Str) (b : Int) : Str := ((Str.empty ++ n) ++ ":") ++ numS b
def spBoatOf (C : Addr) : Sp := fun vs H Q _ => ∃ (z : Str) (i : Int), vs = [.str (boatS z i)] ∧ LowN 8 z ∧ 1 ≤ z.length ∧ 1 ≤ i ∧ i ≤ 1000000 ∧ ∀ p H', Same H H' → H p = none → BoatAt C H' p z i → Q (.ref p) H'
def spSpanOf : Sp := fun vs H Q _ => ∃ (i : Int), vs = [.str (numS i)] ∧ 0 ≤ i ∧ i ≤ 1000000 ∧ ∀ H', Same H H' → Q (.int i) H'
theorem figs_mem {c : Nat} (h : 48 ≤ c ∧ c ≤ 57) : c ∈ tl "0123456789" := by
  have e : tl "0123456789" = [48, 49, 50, 51, 52, 53, 54, 55, 56, 57] := by decide +kernel
  rw [e]
  simp only [List.mem_cons, List.not_mem_nil, or_false]
  omega
theorem low_mem {c : Nat} (h : 97 ≤ c ∧ c ≤ 122) : c ∈ tl "abcdefghijklmnopqrstuvwxyz" := by
  have all : ∀ j : Nat, j < 26 → 97 + j ∈ tl "abcdefghijklmnopqrstuvwxyz" := by decide +kernel
  have := all (c - 97) (by omega)
  rwa [show 97 + (c - 97) = c by omega] at this
section
variable {P : Program} {w : World} {K : PySem.W.Frag} {mg : Str → Option Value} {base : Heap} (T : Ev K mg)
end
/-! ### Bridges as texts, and == -/
section
variable {P : Program} {w : World} {K : PySem.W.Frag} {mg : Str → Option Value} {base : Heap} (T : Ev K mg)
def spBStr (C : Addr) : Sp := fun vs H Q _ => ∃ (p : Addr) (n : Str) (b : Int), vs = [.ref p] ∧ BoatAt C H p n b ∧ n.length ≤ 20 ∧ 0 ≤ b ∧ b ≤ 1000000 ∧ Q (.str (boatS n b)) H
theorem okBoat___str__ : FnOk P w K mg base CX0 1 T.fBoat___str__ T.fdBoat___str__ ["self"] (spBStr T.CBoat) := by
  refine T.FBoat___str__.ok scBStr (fun vs H Q E h => ?_) (fun cdv A outer s H vs Q E hr h => ?_)
  · obtain ⟨p, n, b, rfl, _⟩ := h
    rfl
  · obtain ⟨p, n, b, rfl, hp, hn, h0, h1, q⟩ := h
    refine ⟨_,
      (pss_one (ps_ret (pe_joined (.cons (pe_fmt (pe_fld (pv 0) rfl)) (.cons pe_str (.cons (pe_fmt (pe_fld (pv 0) rfl)) .nil))))))
      , ?_⟩
    obtain ⟨dx, ep⟩ := id hp
    obtain ⟨d1, d2, d3, d4⟩ := num_facts h0 h1
    refine ⟨_, rfl, p, T.CBoat, dx, _, _, rfl, ep, cl_Boat T, T.nBoat_name, boatF_name n b, .inl ⟨n, rfl, small_line (by omega), _, rfl, small_line (by rw [Str.length_append]; show 0 + n.length ≤ 100; omega), _, rfl, small_line (by rw [Str.length_append, Str.length_append]; show 0 + n.length + 1 ≤ 100; omega), ?_⟩⟩
    exact ⟨_, rfl, p, T.CBoat, dx, _, _, rfl, ep, cl_Boat T, T.nBoat_bears, boatF_bears n b, .inr ⟨b, rfl, log_small (by omega), _, rfl, small_line (by rw [Str.length_append, Str.length_append, Str.length_append]; show 0 + n.length + 1 + (numS b).length ≤ 100; omega), q⟩⟩
def spBrEq (K : PySem.W.Frag) (C CB : Addr) : Sp := fun vs H Q _ => ∃ (p bl sl q bl2 sl2 : Addr) (rows rows2 : List (Str × Int)) (spans spans2 : List Int), vs = [.ref p, .ref q] ∧ BrAt C CB H p bl sl rows spans ∧ BrAt C CB H q bl2 sl2 rows2 spans2 ∧ spans.length ≤ 1000 ∧ spans2.length ≤ 1000 ∧ ∀ H', Same H H' → Q (.bl (decide (rows = rows2) && decide (spans = spans2))) H'
end
set_option maxHeartbeats 8000000
local macro_rules | `(tactic| walk_at "c") => `(tactic| first | omega | decide | exact ⟨by omega, by omega⟩ | exact ⟨by decide, by decide⟩ | exact .inl ⟨by omega, by omega⟩ | exact .inr ⟨by omega, by omega⟩ | exact ⟨by omega, by omega, by omega⟩ | exact ⟨by decide, by decide, by decide⟩ | exact le_line (Nat.le_of_ble_eq_true rfl))
local macro_rules | `(tactic| walk_at "a") => `(tactic| with_reducible (first | refine i_seq ?_ | refine i_asg ?_ | refine i_cons ?_ | refine i_c ?_ | refine i_nil ?_ | refine i_op ?_ | refine i_call ?_ | refine i_cb ?_ | refine i_name ?_ | refine i_next ?_ | refine i_ret ?_ | refine i_drop ?_ | refine i_if ?_ | refine i_test ?_ | refine i_and ?_ | refine i_or ?_ | refine i_not ?_ | refine i_ite ?_ | refine i_lst ?_ | refine i_tup ?_ | refine i_bm ?_ | refine i_un ?_ | refine i_par ?_ | refine i_gsub ?_ | refine i_chain ?_ | refine i_sl ?_ | refine i_nopart ?_ | refine i_part ?_ | refine i_m1 ?_ | refine i_m0 ?_ | refine i_lc ?_ | refine i_iList ?_ | refine i_iTup ?_ | refine i_iStr ?_ | refine i_r1 ?_ | refine i_set ?_ | refine i_callk ?_ | refine i_callN ?_ | refine i_ckw ?_ | refine i_revL ?_ | refine i_tB ?_ | refine i_fld ?_ | refine i_sfld ?_ | refine i_make ?_ | refine i_makeN ?_ | refine i_meth ?_ | refine i_andV ?_ | refine i_orV ?_ | refine i_notV ?_ | refine iteT ?_ | refine iteF ?_ | refine i_yes ?_))
local macro_rules | `(tactic| walk_at "s") => `(tactic| repeat (first | walk_at "a" | refine i_var rfl ?_ | refine i_aug rfl ?_ | refine And.intro ⟨_, rfl⟩ ?_ | refine ⟨_, rfl, ?_⟩ | refine ⟨_, _, rfl, rfl, ?_⟩ | refine ⟨_, _, rfl, ?_⟩ | refine ⟨rfl, ?_⟩ | refine And.intro (by walk_at "c") ?_))
/-! ### bridges as texts -/
theorem i_starW {K : PySem.W.Frag} {te : TE} {t : TA} {σ : L2.St} {H : Hp} {Q : List V → Hp → Prop} (h : te σ H fun x H1 => ∃ p xs, x = V.ref p ∧ (SqT K H1 p xs ∨ SqL K H1 p xs) ∧ t σ H1 fun ys H2 => Q (xs ++ ys) H2) : StX.tStar K te t σ H Q := h
theorem i_stepL {K : PySem.W.Frag} {te : TE} {tl : TO} {k : Int} {σ : L2.St} {H : Hp} {Q : VK} (h : te σ H fun x H1 => tl σ H1 fun lo H2 => ∃ a xs, x = .ref a ∧ SqL K H2 a xs ∧ (stepV xs lo k).length ≤ sizeLine ∧ ∀ p, H2 p = none → Q (.ref p) (upd H2 p (.lst (stepV xs lo k)))) : tStepL K te tl k σ H Q := h
theorem app_assoc (x y z : Str) : (x ++ y) ++ z = x ++ (y ++ z) := ext_tl (by rw [tl_app, tl_app, tl_app, tl_app, List.append_assoc])
theorem cut_from1 {xs : List V} (h : 1 ≤ xs.length) : cutV xs (some 1) none = xs.drop 1 := cut_from (t := 1) h
/-- boats and spans that are written -/
structure Nice (rows : List (Str × Int)) (s0 : Int) (ss : List Int) : Prop where
  good : Good rows (s0 :: ss)
  nm : ∀ r ∈ rows, LowN 8 r.1 ∧ 1 ≤ r.1.length
  br : ∀ r ∈ rows, 1 ≤ r.2 ∧ r.2 ≤ 1000000
theorem Nice.ss {rows : List (Str × Int)} {s0 : Int} {ss : List Int} (h : Nice rows s0 ss) : ss.length = rows.length := by
  have := h.good.sl
  rw [List.length_cons] at this
  omega
def boatW (r : Str × Int) : Str := boatS r.1 r.2
def rowS (r : Str × Int) (s : Int) : Str := ((Str.empty ++ boatW r) ++ " ") ++ numS s
def brWds (rows : List (Str × Int)) (s0 : Int) (ss : List Int) : List Str := numS s0 :: weave (rows.map boatW) (ss.map numS)
def brS (rows : List (Str × Int)) (s0 : Int) (ss : List Int) : Str := Txt.join (" " : Str) (brWds rows s0 ss)
theorem join2 (x y : Str) (t : List Str) : Str.join (" " : Str) (((x ++ " ") ++ y) :: t) = (x ++ " ") ++ Str.join (" " : Str) (y :: t) := by
  cases t with
  | nil => rfl
  | cons z t =>
    show (((x ++ " ") ++ y) ++ " ") ++ Str.join (" " : Str) (z :: t) = (x ++ " ") ++ ((y ++ " ") ++ Str.join (" " : Str) (z :: t))
    rw [app_assoc (x ++ " ") y, app_assoc (x ++ " ") (y ++ " ")]
theorem join_rows : ∀ (rows : List (Str × Int)) (ss : List Int) (a : Str), rows.length = ss.length → Str.join (" " : Str) (a :: (rows.zip ss).map fun p => rowS p.1 p.2) = Str.join (" " : Str) (a :: weave (rows.map boatW) (ss.map numS))
  | [], [], a, _ => rfl
  | r :: rows, s :: ss, a, h => by
    have ih := join_rows rows ss (numS s) (Nat.succ.inj h)
    show (a ++ " ") ++ Str.join (" " : Str) (rowS r s :: (rows.zip ss).map fun p => rowS p.1 p.2) = (a ++ " ") ++ ((boatW r ++ " ") ++ Str.join (" " : Str) (numS s :: weave (rows.map boatW) (ss.map numS)))
    unfold rowS
    rw [emp, join2]
    rw [← ih]
    rfl
theorem join_sum : ∀ ts : List Str, (Str.join (" " : Str) ts).length ≤ (ts.map fun t => t.length + 1).sum
  | [] => Nat.zero_le _
  | [x] => by show x.length ≤ _; simp
  | x :: y :: r => by
    have ih := join_sum (y :: r)
    show ((x ++ " ") ++ Str.join (" " : Str) (y :: r)).length ≤ _
    rw [Str.length_append, Str.length_append, List.map_cons, List.sum_cons]
    show x.length + 1 + _ ≤ _
    omega
theorem sum_bd {n : Nat} : ∀ (ts : List Str), (∀ t ∈ ts, t.length ≤ n) → (ts.map fun t => t.length + 1).sum ≤ (n + 1) * ts.length ∧ (ts.map (·.length)).sum ≤ n * ts.length
  | [], _ => ⟨Nat.le_refl _, Nat.le_refl _⟩
  | t :: r, h => by
    obtain ⟨h1, h3⟩ := sum_bd r fun x hx => h x (List.mem_cons_of_mem _ hx)
    have h2 := h t List.mem_cons_self
    rw [List.map_cons, List.map_cons, List.sum_cons, List.sum_cons, List.length_cons, Nat.mul_succ, Nat.mul_succ]
    omega
theorem weave_mem {α : Type} : ∀ {bs ss : List α} {x : α}, x ∈ weave bs ss → x ∈ bs ∨ x ∈ ss
  | [], _, _, h => by simp [weave] at h
  | _ :: _, [], _, h => by simp [weave] at h
  | b :: bs, s :: ss, x, h => by
    rcases List.mem_cons.mp h with rfl | h
    · exact .inl List.mem_cons_self
    · rcases List.mem_cons.mp h with rfl | h
      · exact .inr List.mem_cons_self
      · rcases weave_mem h with h | h
        · exact .inl (List.mem_cons_of_mem _ h)
        · exact .inr (List.mem_cons_of_mem _ h)
theorem weave_map {α β : Type} (f : α → β) : ∀ (bs ss : List α), (weave bs ss).map f = weave (bs.map f) (ss.map f)
  | [], _ => rfl
  | _ :: _, [] => rfl
  | b :: bs, s :: ss => by
    show f b :: f s :: (weave bs ss).map f = f b :: f s :: weave (bs.map f) (ss.map f)
    rw [weave_map f bs ss]
theorem weave_snoc {α : Type} : ∀ (bs ss : List α) (b s : α), bs.length = ss.length → weave (bs ++ [b]) (ss ++ [s]) = weave bs ss ++ [b, s]
  | [], [], _, _, _ => rfl
  | x :: bs, y :: ss, b, s, h => by
    show x :: y :: weave (bs ++ [b]) (ss ++ [s]) = x :: y :: (weave bs ss ++ [b, s])
    rw [weave_snoc bs ss b s (Nat.succ.inj h)]
theorem boatW_len {r : Str × Int} (h : LowN 8 r.1) (b : 1 ≤ r.2 ∧ r.2 ≤ 1000000) : (boatW r).length ≤ 16 := by
  obtain ⟨_, _, _, d4⟩ := num_facts (i := r.2) (by omega) b.2
  have := h.1
  unfold boatW boatS
  rw [Str.length_append, Str.length_append, Str.length_append]
  show 0 + _ + 1 + _ ≤ 16
  omega
theorem boatW_no {r : Str × Int} (h : LowN 8 r.1) (b : 1 ≤ r.2 ∧ r.2 ≤ 1000000) : 32 ∉ tl (boatW r) := fun hm => by
  unfold boatW boatS at hm
  rw [tl_app, tl_app, emp] at hm
  rcases List.mem_append.mp hm with hm | hm
  · rcases List.mem_append.mp hm with hm | hm
    · have := h.2 32 hm; omega
    · have e : tl (":" : Str) = [58] := by decide +kernel
      rw [e] at hm
      simp at hm
  · exact num_no 32 (by omega) (by omega) b.2 hm
theorem wds_facts {rows : List (Str × Int)} {s0 : Int} {ss : List Int} (h : Nice rows s0 ss) : ∀ t ∈ brWds rows s0 ss, t.length ≤ 16 ∧ 32 ∉ tl t := by
  have sp : ∀ z ∈ s0 :: ss, (numS z).length ≤ 16 ∧ 32 ∉ tl (numS z) := fun z hz => by
    have := h.good.sb z hz
    obtain ⟨_, _, _, d4⟩ := num_facts (i := z) (by omega) this.2
    exact ⟨by omega, num_no 32 (by omega) (by omega) this.2⟩
  intro t ht
  rcases List.mem_cons.mp ht with rfl | ht
  · exact sp s0 List.mem_cons_self
  · rcases weave_mem ht with ht | ht
    · obtain ⟨r, hr, rfl⟩ := List.mem_map.mp ht
      exact ⟨boatW_len (h.nm r hr).1 (h.br r hr), boatW_no (h.nm r hr).1 (h.br r hr)⟩
    · obtain ⟨z, hz, rfl⟩ := List.mem_map.mp ht
      exact sp z (List.mem_cons_of_mem _ hz)
theorem wds_len {rows : List (Str × Int)} {s0 : Int} {ss : List Int} (h : Nice rows s0 ss) : (brWds rows s0 ss).length = 2 * rows.length + 1 := by
  unfold brWds
  rw [List.length_cons, weave_len _ _ (by rw [List.length_map, List.length_map, h.ss]), List.length_map]
theorem brS_len {rows : List (Str × Int)} {s0 : Int} {ss : List Int} (h : Nice rows s0 ss) : (brS rows s0 ss).length ≤ 400 := by
  have h1 := join_sum (brWds rows s0 ss)
  have h2 := (sum_bd (n := 16) (brWds rows s0 ss) fun t ht => (wds_facts h t ht).1).1
  rw [wds_len h] at h2
  have := h.good.l1
  unfold brS
  rw [TL.join_eq]
  omega
theorem brS_split {rows : List (Str × Int)} {s0 : Int} {ss : List Int} (h : Nice rows s0 ss) : Txt.split (brS rows s0 ss) (" " : Str) = brWds rows s0 ss :=
  TL.split_join (s := 32) (S := []) (by decide +kernel) (by decide +kernel) (by unfold brWds; simp) fun p hp => (wds_facts h p hp).2
section
variable {P : Program} {w : World} {K : PySem.W.Frag} {mg : Str → Option Value} {base : Heap} (T : Ev K mg)
def spBrStr (C CB : Addr) : Sp := fun vs H Q _ => ∃ (p bl sl : Addr) (rows : List (Str × Int)) (s0 : Int) (ss : List Int), vs = [.ref p] ∧ BrAt C CB H p bl sl rows (s0 :: ss) ∧ Nice rows s0 ss ∧ ∀ H', Same H H' → Q (.str (brS rows s0 ss)) H'
theorem okBridge___str__ : FnOk P w K mg base CX0 3 T.fBridge___str__ T.fdBridge___str__ ["self"] (spBrStr T.CBoat T.CBridge) := by
  refine T.FBridge___str__.ok scBridgeStr (fun vs H Q E h => ?_) (fun cdv A outer s H vs Q E hr h => ?_)
  · obtain ⟨p, bl, sl, rows, s0, ss, rfl, _⟩ := h
    rfl
  · obtain ⟨p, bl, sl, rows, s0, ss, rfl, hp, hn, q⟩ := h
    refine ⟨_,
      (pss_cons (ps_setLc (i := 1) (own := [("boat", 2), ("span", 3)]) (g := gTup K 2 (gCons (gName 2) (gCons (gName 3) gNil))) (tt := tYes) rfl scBridgeStr.nd rfl rfl (sw_true rfl rfl rfl (by decide +kernel)) (RZ.pi_zipA (by rfl) T.mzip (pa_cons (pe_fld (pv 0) rfl) (pa_cons (pe_slice sl_list (pe_fld (pv 0) rfl) (po_some pe_int) po_none) pa_nil))) (blkOk_by (N := NBridgeStr) (own := [("boat", 2), ("span", 3)]) (sc := defScope sBridgeStr) (by decide +kernel)) (fun _ _ _ _ _ => pg_tup rfl (pgs_cons (pg_name (i := 2) scBridgeStr.nd rfl (Or.inl rfl)) (pgs_cons (pg_name (i := 3) scBridgeStr.nd rfl (Or.inl rfl)) pgs_nil))) (fun _ _ _ _ _ => pts_nil) (fun _ _ _ _ _ => (pe_joinedN (.cons (pe_fmtO (pv 2) T.fmBoat T.hmBoat (mt_Boat___str__ T).at_ (mt_Boat___str__ T).fn (okBoat___str__ T) T.bBoat___str__ (hr.mono (by decide)) pass0) (.cons pe_str (.cons (pe_fmt (pv 3)) .nil))))))
      (pss_one (ps_ret (pe_join pe_str (pe_lst (pa_cons (pe_callTy call_str_int (by rfl) T.mstr (by decide +kernel) (pa_cons (pe_ix ix_list (pe_fld (pv 0) rfl) pe_int (fun _ _ => rfl)) pa_nil)) (StX.pa_star (pv 1) pa_nil)))))))
      , ?_⟩
    obtain ⟨dx, bs, e1, e2, e3⟩ := hp.ex
    have hsl := hn.ss
    have hbl := e3.len
    have hl1 := hn.good.l1
    walk_at "s"
    refine ⟨p, _, dx, _, _, rfl, e1, cl_Bridge T, T.nBridge__boats, brF_boats _ _, ?_⟩
    walk_at "s"
    refine ⟨p, _, dx, _, _, rfl, e1, cl_Bridge T, T.nBridge__spans, brF_spans _ _, ?_⟩
    walk_at "s"
    refine ⟨sl, _, rfl, SqL.of hp.sp, fun l1 hl1 => ?_⟩
    rw [cut_from1 (by rw [List.length_map]; show 1 ≤ _ + 1; omega)]
    have s1 := same_upd (o := .lst (((s0 :: ss).map V.int).drop 1)) hl1
    have el1 : (upd H l1 (.lst (((s0 :: ss).map V.int).drop 1))) l1 = some (.lst (ss.map V.int)) := upd_same
    generalize upd H l1 (.lst (((s0 :: ss).map V.int).drop 1)) = H1 at s1 el1 ⊢
    walk_at "s"
    refine ⟨bl, l1, bs, ss.map V.int, rfl, .inl ⟨SqL.of (s1 _ _ e2), SqL.of el1, fun D hD => ?_⟩⟩
    refine lc_zip (K := K) (a := bl) (b := l1) (xs := bs) (ys := ss.map V.int) (by rw [List.length_map]; omega) (fun i H' => H' D = some (.lst ((((rows.zip ss).take i).map fun p => rowS p.1 p.2).map V.str)) ∧ Same H1 H') ⟨upd_same, same_upd hD⟩ (fun i H' _ ⟨_, z⟩ => ⟨SqL.of (z _ _ (s1 _ _ e2)), SqL.of (z _ _ el1)⟩) ?_ ?_
    · rintro i x y Tt H' hx hy ⟨eD, si⟩ hT
      obtain ⟨a, r, rfl, hr2, dxa, ha⟩ := e3.at hx
      have hi : i < bs.length := (List.getElem?_eq_some_iff.mp hx).1
      obtain ⟨z, hz, rfl⟩ : ∃ z, ss[i]? = some z ∧ y = .int z := by
        rw [List.getElem?_map] at hy
        cases e : ss[i]? with
        | none => rw [e] at hy; cases hy
        | some z => rw [e] at hy; cases hy; exact ⟨z, rfl, rfl⟩
      have hzip : (rows.zip ss)[i]? = some (r, z) := by
        rw [List.getElem?_zip_eq_some]
        exact ⟨hr2, hz⟩
      have st := same_upd (o := .tup [.ref a, .int z]) hT
      have eD2 := st _ _ eD
      have ha2 : BoatAt T.CBoat (upd H' Tt (.tup [.ref a, .int z])) a r.1 r.2 := ⟨dxa, st _ _ (si _ _ (s1 _ _ ha))⟩
      have ha3 := st _ _ (si _ _ (s1 _ _ ha))
      obtain ⟨n1, n2⟩ := hn.nm r (List.mem_of_getElem? hr2)
      have n3 := hn.br r (List.mem_of_getElem? hr2)
      have n4 := hn.good.sb z (List.mem_cons_of_mem _ (List.mem_of_getElem? hz))
      obtain ⟨_, _, _, z4⟩ := num_facts (i := z) (by omega) n4.2
      have bl16 := boatW_len n1 n3
      have n18 := n1.1
      refine ⟨Tt, _, rfl, SqT.of upd_same, rfl, ?_⟩
      walk_at "s"
      have l0 : (Str.empty ++ boatS r.1 r.2).length ≤ 16 := by rw [Str.length_append]; show 0 + (boatW r).length ≤ 16; omega
      have l1' : ((Str.empty ++ boatS r.1 r.2) ++ (" " : Str)).length ≤ 17 := by rw [Str.length_append]; show _ + 1 ≤ 17; omega
      refine ⟨a, dxa, _, rfl, ha3, a, r.1, r.2, rfl, ha2, by omega, by omega, n3.2, _, rfl, _, rfl, small_line (by omega), _, rfl, small_line (by omega), _, rfl, .inr ⟨z, rfl, log_small (by omega), _, rfl, small_line (by rw [Str.length_append]; show _ + (numS z).length ≤ 100; omega), ?_⟩⟩
      refine ⟨_, eD2, lt_line (by rw [List.length_map, List.length_map, List.length_take]; omega), ?_, fun y o e => by rw [upd_ne (ne_of_none e hD)]; exact st _ _ (si _ _ e)⟩
      rw [upd_same, List.take_succ, hzip, Option.toList_some, List.map_append, List.map_append]
      rfl
    · rintro H' ⟨eD, si⟩
      rw [List.take_of_length_le (by rw [List.length_zip]; omega)] at eD
      have s1i := s1.trans si
      walk_at "s"
      refine ⟨p, _, dx, _, _, rfl, s1i _ _ e1, cl_Bridge T, T.nBridge__spans, brF_spans _ _, ?_⟩
      walk_at "s"
      refine i_ixLe 0 (SqL.of (s1i _ _ hp.sp)) rfl rfl ?_
      walk_at "s"
      have b0 := hn.good.sb s0 List.mem_cons_self
      refine ⟨log_small (by omega), i_starW ?_⟩
      refine ⟨_, rfl, D, _, rfl, .inr (SqL.of eD), ?_⟩
      walk_at "s"
      have hzl : ((rows.zip ss).map fun p => rowS p.1 p.2).length = rows.length := by rw [List.length_map, List.length_zip]; omega
      refine ⟨le_line (by rw [List.length_cons, List.length_append, List.length_map, hzl]; show rows.length + 0 + 1 ≤ _; omega), fun l2 hl2 => ?_⟩
      have el2 : (upd H' l2 (.lst (V.str (Str.ofString (toString s0)) :: ((((rows.zip ss).map fun p => rowS p.1 p.2).map V.str) ++ [])))) l2 = some (.lst ((numS s0 :: (rows.zip ss).map fun p => rowS p.1 p.2).map V.str)) := by
        rw [upd_same, List.append_nil]; rfl
      have hw : ∀ t ∈ numS s0 :: (rows.zip ss).map (fun p => rowS p.1 p.2), t.length ≤ 25 := fun t ht => by
        rcases List.mem_cons.mp ht with rfl | ht
        · obtain ⟨_, _, _, z4⟩ := num_facts (i := s0) (by omega) b0.2
          omega
        · obtain ⟨⟨r, z⟩, hrz, rfl⟩ := List.mem_map.mp ht
          obtain ⟨m1, m2⟩ := List.of_mem_zip hrz
          have n4 := hn.good.sb z (List.mem_cons_of_mem _ m2)
          obtain ⟨_, _, _, z4⟩ := num_facts (i := z) (by omega) n4.2
          have := boatW_len (hn.nm r m1).1 (hn.br r m1)
          show (rowS r z).length ≤ 25
          unfold rowS
          rw [Str.length_append, Str.length_append, Str.length_append]
          show 0 + _ + 1 + _ ≤ 25
          omega
      have h3 := (sum_bd (n := 25) _ hw).2
      rw [List.length_cons, hzl] at h3
      refine ⟨_, l2, _, rfl, rfl, .inl (SqL.of el2), ?_, ?_⟩
      · rw [List.length_cons, hzl]
        show _ + (rows.length + 1) * 1 ≤ _
        omega
      · have ej : Txt.join (" " : Str) (numS s0 :: (rows.zip ss).map fun p => rowS p.1 p.2) = brS rows s0 ss := by
          unfold brS brWds
          rw [TL.join_eq, TL.join_eq, join_rows _ _ _ hsl.symm]
        rw [ej]
        exact q _ (s1i.trans (same_upd hl2))
def spReadB (C CB : Addr) : Sp := fun vs H Q _ => ∃ (rows : List (Str × Int)) (s0 : Int) (ss : List Int), vs = [.str (brS rows s0 ss)] ∧ Nice rows s0 ss ∧ ∀ p bl sl H', H p = none → H bl = none → H sl = none → Same H H' → BrAt C CB H' p bl sl rows (s0 :: ss) → Q (.ref p) H'
end
/-! ### exceptions with no fields; a clause of two classes; calls whose exceptions go out, or are caught -/
theorem flyingZ_grow {base h h' : Heap} {l : List Env} {e : Addr} {Z : Obj → Prop} (x : HandSPX.FlyingZ base l e Z h) (k : ∀ b o, h.get? b = some o → h'.get? b = some o) : HandSPX.FlyingZ base l e Z h' := by
  obtain ⟨a, b, c, oe, vs, T, oT, ts, t1, t2, t3, t4, t5, t6, t7, t8, t9⟩ := x
  exact ⟨fun p o q => k _ _ (a p o q), b, c.of_keeps fun p o q _ => ⟨o, k _ _ q, rfl⟩, oe, vs, T, oT, ts, k _ _ t1, t2, t3, t4, t5, t6, k _ _ t7, t8, t9⟩
def wKeep2 (K : PySem.W.Frag) (c c2 : Value) (i : Nat) (ts : Addr → Value → Option Addr → TS) (D : Ends) : WX := fun cls d σ H =>
  PySem.W.exmAny K cls [c, c2] = some true ∧ ∀ a, H a = none → ts a cls d (goneE i D) (σ.set i (some (.ref a))) (upd H a (keptX cls d a))
section
variable {X : Cx} {x x2 n : Str} {c c2 : Value} {i : Nat} {body suite : List Stmt} {b₀ : Stmt} {np np2 tpos pos pos' : Pos} {kk : Nat} {tb : WX → TS} {ts : Addr → Value → Option Addr → TS}
theorem ps_try_keep2 (hs : X.stack = X.env :: X.outer) (hf : X.env.frame = some X.env.locals) (hex : X.ex = []) (hN : X.N.Nodup) (hi : X.N[i]? = some n) (hln : X.env.kindOf n = some .local) (hc : Names X x c) (hc2 : Names X x2 c2)
    (hb : ∀ (W : WX) (pn : List (Addr × Obj)) (xe : Value → Shared → Prop), Takes (X.tr pn xe) W → PassesOwn (model X.prog X.w) X.A X.env xe → PSs (X.tr pn xe) body (tb W))
    (hsu : ∀ (a : Addr) (cls : Value) (d : Option Addr) (pn : List (Addr × Obj)), PSs (X.suite a pn) (b₀ :: suite) (ts a cls d)) :
    PS X (.Try body [.ExceptHandler (some (.Tuple [.Name x np, .Name x2 np2] kk tpos)) (some n) (b₀ :: suite) pos'] [] [] pos) (fun D σ H => tb (wKeep2 X.K c c2 i ts D) D σ H) := by
  constructor
  intro pins s σ H D I h
  have ok := I.ok
  have fr0 : X.A.frames = some (X.env :: X.outer) := by
    rw [ok.frames, hs]
  refine wpAny_Try_except ?_
  let xe' : Value → Shared → Prop := fun e s₁ => wpAny (model X.prog X.w) X.A (noteFrame e X.env) (fun _ s₂ => wpAny (model X.prog X.w) X.A (setFlight e none) (fun _ s₃ =>
    wpAny (model X.prog X.w) X.A (handleBy e X.env [.ExceptHandler (some (.Tuple [.Name x np, .Name x2 np2] kk tpos)) (some n) (b₀ :: suite) pos']) (SP X pins D) X.xe s₃) X.xe s₂) X.xe s₁
  have catches : Takes (X.tr (X.pn ++ pins) xe') (wKeep2 X.K c c2 i ts D) := by
    rintro u s' ⟨a, B, sI, pins', σ', H', cls, d, rfl, J', nb, up, sky, na, os, ag, hm, hyes⟩
    have J : Inv X pins σ' H' sI := J'.ofTry ok
    rw [show (X.tr (X.pn ++ pins) xe').stack = X.env :: X.outer from hs] at sky
    show wpAny (model X.prog X.w) X.A (noteFrame (.ref a) X.env) _ _ _
    refine Sky.land Zc.steady fr0 hf sky ?_
    intro h3 fl3 up3
    have J3 : Inv X pins σ' H' { s' with heap := h3 } := J.landed nb fl3.1 (up.trans up3) os ag
    refine wpAny_handleBy_cons (codeAny_handlers_test ?_) (fun q => nomatch q)
    -- the class is looked up and held against
    have look : PySem.W.Looks (model X.prog X.w) h3 (typeOf (.ref a)) cls := by
      obtain ⟨o3, v3, e3, z3, d3⟩ := fl3.there
      intro A Q E s k q
      refine wpAny_typeOf_ref (k _ _ e3) ?_
      rw [z3.1]
      exact q
    have named : ∀ {y : Str} {d : Value} {npy : Pos} {Q : Value → Shared → Prop} {E : Value → Shared → Prop}, Names X y d → Q d { s' with heap := h3 } → wpAny (model X.prog X.w) (X.A.mark (some (.ref a))) (eval (.Name y npy) X.env) Q E { s' with heap := h3 } := by
      intro y d npy Q E hy q
      have S3 := inv_into J3 a
      obtain ⟨hg, hdb, hv⟩ := hy
      rcases hv with hv | ⟨hv, hw, hn⟩
      · exact ld_glob (X := X.suite a (X.pn ++ pins)) S3 hg hv q hdb
      · exact ld_blt (X := X.suite a (X.pn ++ pins)) S3 hg hv hw q hn hdb
    refine wpAny_Tuple ?_
    refine wpAny_items_cons (named hc ?_)
    refine wpAny_items_cons (named hc2 ?_)
    refine wpAny_items_nil ⟨by size_fits, ?_⟩
    have kp : ∀ b o, h3.get? b = some o → (h3.push { cls := .type "tuple", data := .seq [c, c2].toArray }).get? b = some o := fun _ _ z => Heap.get?_push_of_some _ z
    have fl5 := flyingZ_grow fl3 kp
    have up5 : h3.UpToSlots (h3.push { cls := .type "tuple", data := .seq [c, c2].toArray }) := Heap.UpToSlots.of_keeps kp
    refine (PySem.W.exm_tup2 (M := model X.prog X.w) (J3.kIn.keeps kp) (look.keeps kp) (Heap.get?_push_size h3 rfl) hm).here (codeAny_handlers_suite_as (HandSPX.lands_againZ fl5 ?_))
    intro h4 fl4 up4
    have J4 : Inv X pins σ' H' { s' with heap := h4 } := J.landed nb fl4.1 (((up.trans up3).trans up5).trans up4) os ag
    obtain ⟨o4, v4, e4, z4, d4⟩ := fl4.there
    have ge : sI.heap.get? a = none := by
      cases q : sI.heap.get? a with
      | none => rfl
      | some o =>
        exfalso
        by_cases hm' : a ∈ frs (X.env :: X.outer)
        · obtain ⟨_, o', q', nf⟩ := fl4.2.2.1.mem hm'
          rw [e4] at q'
          cases q'
          exact nf _ d4
        · have z := nb a o q (by rw [show (X.tr (X.pn ++ pins) xe').stack = X.env :: X.outer from hs]; exact hm')
          rw [fl4.2.1] at z
          cases z
    have S4 := inv_into (inv_keep J ge J4 hex e4 z4 d4 na) a
    refine store_ok (X := X.suite a (X.pn ++ pins)) (v := .ref a) S4 hN hi (.inl hln) rfl ?_ (.inr hln)
    intro s5 S5
    refine wpAny_mono ((hsu a cls d (X.pn ++ pins)).run [] s5 _ _ (goneE i D) S5 (hyes a na)) ?_ (fun _ _ z => False.elim z)
    intro f s6 sp
    have out : ∀ {σ6 : L2.St} {H6 : Hp} {Q : Shared → Prop}, Inv (X.suite a (X.pn ++ pins)) [] σ6 H6 s6 → (∀ s7, Inv X pins (σ6.set i none) H6 s7 → Q s7) →
        wpAny (model X.prog X.w) X.A (do bindName X.env n .none; unbindBehindTheSuite X.env n pos') (fun _ s7 => Q s7) X.xe s6 := by
      intro σ6 H6 Q S6 hq
      exact gone_ok (inv_outof S6 ok) hN hi hln hq
    match f, sp with
    | .next, ⟨_, _, S6, q⟩ => exact out S6 fun s7 J7 => ⟨_, _, J7, q⟩
    | .brk, ⟨_, _, S6, q⟩ => exact out S6 fun s7 J7 => ⟨_, _, J7, q⟩
    | .cont, ⟨_, _, S6, q⟩ => exact out S6 fun s7 J7 => ⟨_, _, J7, q⟩
    | .ret u, ⟨_, _, _, S6, r, q⟩ => exact out S6 fun s7 J7 => ⟨_, _, _, J7, r, q⟩
  refine wpAny_mono ((hb (wKeep2 X.K c c2 i ts D) (X.pn ++ pins) xe' catches PassesOwn.looking).run [] s σ H D (I.toTry _) h) ?_ (fun _ _ z => z)
  intro f s1 sp
  match f, sp with
  | .next, ⟨σ', H', J, q⟩ => exact wpAny_execs_nil ⟨σ', H', J.ofTry ok, q⟩
  | .brk, ⟨σ', H', J, q⟩ => exact ⟨σ', H', J.ofTry ok, q⟩
  | .cont, ⟨σ', H', J, q⟩ => exact ⟨σ', H', J.ofTry ok, q⟩
  | .ret u, ⟨v, σ', H', J, r, q⟩ => exact ⟨v, σ', H', J.ofTry ok, r, q⟩
end
section
variable {X : Cx} {C : Addr} {B : String}
def tMk0 (C : Addr) : L2.St → Hp → XK → Prop := fun _ H Q => Q (.ref C) none H
/-- X() -/
theorem pmk_own0 {x : Str} {p pos : Pos} (hF : ∃ (bm : List Value) (ni ii : String), PySem.ExcBaseFacts B ni ii bm ∧ PySem.W.excIn X.K C bm ni = true) (ex : PySem.W.subIn X.K (.ref C) (.type "BaseException") = some true) (ty : PySem.W.typeIn X.K (.ref C) = some (.type "type"))
    (gC : X.mg x = some (.ref C)) (kC : PySem.W.keepIn X.K (.ref C) = true) (hg : Gl X x) (hdb : (x == ("__debug__" : Str)) = false := by decide) : PMk X (.Call (.Name x p) [] [] pos) (tMk0 C) := by
  intro pins s σ H Q I h
  obtain ⟨bm0, ni, ii, F, q⟩ := hF
  refine wpAny_Call_Name_kw (ld_glob I hg gC ?_ hdb)
  refine PySem.W.callWith_K0 (I.kIn) kC ?_
  show wpAny _ _ (call (.ref C) []) _ _ _
  obtain ⟨bm, N, nm, qn, bs, hdct, sn, sub, ab, col, dd, k0, k1, k2, k3, k5, mN, hC, hN, hni, T⟩ := exc_obj I.kIn q
  refine wpAny_call_exc_subT F T hC hN hni (fun h' e hm => ?_) (by show 0 ≤ sizeLine; rw [sizeLine_eq]; omega)
  exact mk_of I hm (raises_own ex ty) h (I.hok.gone hm.new)
/-- what a callee lets out goes out of the def -/
theorem passOut {E : XK} (hs : X.stack = X.env :: X.outer) (hf : X.env.frame = some X.env.locals) (hex : X.ex = []) {E₁ : Value → Shared → Prop}
    (hx : X.xe = fun e s' => wpAny (model X.prog X.w) X.A (leaving X.env e) (fun _ s'' => L2.CX X.prog X.w X.outer X.H_0 X.s_0 E e s'') E₁ s') : Passes (L2.CX X.prog X.w) X E := fun pins σ H s e s' I c =>
  takes_of (E := E) hs hf hex hx e s' (XE.of_call I (fun _ _ _ h => h) c)
end
section
variable {X : Cx} {CX : CXT} {k : Nat} {f C : Addr} {fd : FuncData} {ps : List Str} {sp : Sp} {E : L2.St → XK} {m : Str} {apos pos : Pos} {e o : Expr} {es : List Expr} {ta : TE} {t : TA}
def tMethSd (C : Addr) (m : Str) (sp : Sp) (E : L2.St → XK) (ta : TE) (t : TA) : TE := fun σ H Q => ta σ H fun x H1 => ∃ a dx fs, x = .ref a ∧ H1 a = some (.ins C dx fs) ∧ fs.lookup m = none ∧ t σ H1 fun vs H2 => sp (x :: vs) H2 Q (E σ)
/-- o.m(..) within a try -/
theorem pe_methSd {pl : Sem Bool} (he : PE X o ta) (c : Cls X.K C) (hm : Meth X.K C m f) (F : FnOk X.prog X.w X.K X.mg X.base CX k f fd ps sp) (hr : Room k X.A) (hb : Binds X.K fd ps []) (hx : ∀ σ, PassesAt CX X σ (E σ)) (ha : PA X (e :: es) t)
    (hst : starEach (e :: es) X.env = (false, eval e X.env) :: starEach es X.env := by rfl) (hpl : (backTo pos (starEach es X.env)).any (·.1) = false := by rfl)
    (ht : eval (.Call (.Attribute o m apos) (e :: es) [] pos) X.env = (do
      let ov ← eval o X.env
      standAt apos.atName
      let (f, first) ← holding [ov] (getMethod ov m pl)
      callWith pos f first (backTo pos (starEach (e :: es) X.env)) (backToKw pos (keywordEach [] X.env))) := by rfl) :
    PE X (.Call (.Attribute o m apos) (e :: es) [] pos) (tMethSd C m sp E ta t) := by
  refine ⟨fun pins s σ H Q I h => ?_⟩
  refine PySem.W.methodCall_KW (pl := pl) (thn (he.run pins s σ H _ I h) fun u s1 ⟨x, H1, I1, rx, a, dx, fs, ex, ea, l, q⟩ => ?_) ht
  subst ex
  obtain rfl : u = Value.ref a := rx
  refine getmeth_ok I1 ea c hm l ?_
  refine PySem.W.callWith_K (first := [.ref a]) (h₀ := X.base) I.ok.mod.kin hm.kp (thn (ha.run pos pins s1 σ H1 _ I1 q) fun us s2 ⟨vs, H2, I2, r, q2⟩ => ⟨I2.kIn, ?_⟩) hst hpl
  exact run_fnS (us := .ref a :: us) (vs := .ref a :: vs) F hr hb (hx σ) I2 (.cons rfl r) q2
end
theorem i_methSd {C : Addr} {m : Str} {sp : Sp} {E : L2.St → XK} {ta : TE} {t : TA} {σ : L2.St} {H : Hp} {Q : VK} (h : ta σ H fun x H1 => ∃ a dx fs, x = .ref a ∧ H1 a = some (.ins C dx fs) ∧ fs.lookup m = none ∧ t σ H1 fun vs H2 => sp (x :: vs) H2 Q (E σ)) : tMethSd C m sp E ta t σ H Q := h
/-- try: x = o.m(..) -/
def tbSetM (C : Addr) (m : Str) (sp : Sp) (ta : TE) (t : TA) (j : Nat) : WX → TS := fun W => tAsg (tMethSd C m sp (fun σ cls d H' => W cls d σ H') ta t) (gName j)
/-! ### a kept exception with no fields -/
def KeptN (H : Hp) (a C : Addr) : Prop := H a = some (keptX (.ref C) none a)
theorem keptN_inst {X : Cx} {pins : List (Addr × Obj)} {σ : L2.St} {H : Hp} {s : Shared} {a C : Addr} (I : Inv X pins σ H s) (h : KeptN H a C) : ∃ ox : Obj, PySem.W.InstAt s.heap a ox C none := by
  obtain ⟨oe, vs, ho, hz, hd⟩ := keptX_at I.hok h
  refine ⟨oe, ho, hz.1, ?_, ?_⟩
  · unfold PySem.W.notCls
    rw [hd] <;> rfl
  · rw [hz.2]
    trivial
def rIsN (K : PySem.W.Frag) : List V → Hp → VK → Prop := fun xs H Q => rIsO K xs H Q ∨ ∃ (a C : Addr) (c : V) (u : Value) (b : Bool), xs = [.ref a, c] ∧ KeptN H a C ∧ ExcC K C ∧ ClsV c u ∧ PySem.W.kitOne K (.ref C) u = some b ∧ Q (.bl b) H
theorem call_isN {X : Cx} : CallR X (.builtin "isinstance") (rIsN X.K) := by
  intro pins s σ H xs us Q I r h
  rcases h with h | ⟨a, C, c, u, b, rfl, hk, T, k, e, q⟩
  · exact call_isO pins s σ H xs us Q I r h
  obtain ⟨u1, u2, rfl, r1, r2⟩ := vals2 r
  obtain rfl : u1 = Value.ref a := r1
  have e2 := k.eq r2
  subst e2
  obtain ⟨ox, J⟩ := keptN_inst I hk
  exact PySem.W.kia_one (keptE_kit T) I.kIn J e (fun z => nomatch z) fun tk => ⟨.bl b, H, I.tok tk, rfl, q⟩
def rIsNT (K : PySem.W.Frag) : List V → Hp → VK → Prop := fun xs H Q => rIsOT K xs H Q ∨ ∃ (a C : Addr) (tp : Addr) (cs : List V) (us : List Value) (b : Bool), xs = [.ref a, .ref tp] ∧ KeptN H a C ∧ ExcC K C ∧ H tp = some (.tup cs) ∧ Paired ClsV cs us ∧
  PySem.W.kitAny K (.ref C) us = some b ∧ Q (.bl b) H
theorem call_isNT {X : Cx} : CallR X (.builtin "isinstance") (rIsNT X.K) := by
  intro pins s σ H xs us Q I r h
  rcases h with h | ⟨a, C, tp, cs, ws, b, rfl, hk, T, hT, k, e, q⟩
  · exact call_isOT pins s σ H xs us Q I r h
  obtain ⟨u1, u2, rfl, r1, r2⟩ := vals2 r
  obtain rfl : u1 = Value.ref a := r1
  obtain rfl : u2 = Value.ref tp := r2
  obtain ⟨ox, J⟩ := keptN_inst I hk
  have ht : ObjOk X.prog X.w H s.heap tp (.tup cs) := I.hok tp _ hT
  obtain ⟨_, its, rv, o, h1, h2, n, h3⟩ := ht
  have e3 := ClsV.all k rv
  subst e3
  obtain ⟨oc, od', dt, sl⟩ := o
  simp only at h2 h3
  subst h2 h3
  exact PySem.W.kia_tup (keptE_kit T) I.kIn J h1 e (fun z => nomatch z) fun tk => ⟨.bl b, H, I.tok tk, rfl, q⟩
/-! ### a text == anything, dicts too -/
section
variable {prog : Program} {w : World} {A : Around} {E : Value → Shared → Prop} {s : Shared}
open PySem.Builtin
theorem str_declD (b : Str) (u : Tok) {x : Addr} {dd : Option Addr} {es : Array DictEntry} {ep : Nat} {sl : Array (Option Value)} : Meets (Builtin.«str.__eq__» ⟨[.str b u, .ref x], []⟩) (fun _ R s => s.heap.get? x = some { cls := .type "dict", dict := dd, data := .dict es ep, slots := sl } ∧ R (.ok (.ret .notImplemented)) s) :=
  .of_wp fun prog w A R s h => by obtain ⟨hp, g, d, tk, os⟩ := s; obtain ⟨hl, h⟩ := h; wp_walk using AutoSeq1.wpAny_loadPart' hl, wpAny_load hl; exact ⟨_, rfl, h⟩
theorem dict_declS {l : Addr} {z : Str} {t : Tok} {Q : Fin → Shared → Prop} (h : Q (.done (.ret .notImplemented)) s) :
    wpAny (model prog w) A (Builtin.«dict.__eq__» ⟨[.ref l, .str z t], []⟩) Q E s := by
  refine wpAny_bind (m := Dict.dictSlotArgs "__eq__" _) (wpAny_pure ?_)
  refine wpAny_bind (wpAny_isInstance (typeIs_str _ _ _) sub_str_dict ?_)
  exact wpAny_bind (wpAny_rule (wpAny_pure h))
theorem rc_strDict {p : Addr} {z : Str} {t : Tok} {dd : Option Addr} {es : Array DictEntry} {ep : Nat} {sl : Array (Option Value)} {Q : Value → Shared → Prop} (hu : A.units < cLine) (hp : s.heap.get? p = some { cls := .type "dict", dict := dd, data := .dict es ep, slots := sl }) (h : Q (.bool false) s) :
    wpAny (model prog w) A (richCompare .Eq (.str z t) (.ref p)) Q E s := by
  have hT : s.TypeIs (.ref p) "dict" := ⟨_, hp, rfl⟩
  have hS : s.TypeIs (.str z t) "str" := typeIs_str _ _ _
  rcases hi : cmpInfo CmpOp.Eq with ⟨sym, f, r⟩
  have h1 : Slot "str" (cmpInfo .Eq).2.1 "str.__eq__" := F.slot_str_eq
  have h2 : Slot "dict" (cmpInfo .Eq).2.2 "dict.__eq__" := F.slot_dict_eq
  rw [hi] at h1 h2
  simp only [richCompare, hi, hS.oneThing_none]
  try with_reducible refine wpAny_holding ?_
  refine wpAny_bind (wpAny_cRoomFor hu ?_)
  refine wpAny_bind (wpAny_typeOf hS (wpAny_bind (wpAny_typeOf hT ?_)))
  simp only [show (Value.type "str" != Value.type "dict") = true by decide, if_true]
  refine wpAny_bind (wpAny_of_eq sub_dict_str ?_)
  simp only [Bool.false_eq_true, if_false, Bool.not_false, if_true]
  refine wpAny_bind (m := tryCompare _ _ _) (wpAny_tryCompare_declines hS h1 (GQ.call_here h1 hS F.entry_str_eq (F.args_str_eq_2 _ _) (str_declD z t prog w A (wants (fun v s' => v = .notImplemented ∧ _) E) s ⟨hp, rfl, ?_⟩)))
  refine wpAny_bind (m := tryCompare _ _ _) (wpAny_tryCompare_declines hT h2 (GQ.call_here h2 hT F.entry_dict_eq (F.args_dict_eq_2 _ _) (dict_declS ⟨rfl, ?_⟩)))
  exact wpAny_bind (wpAny_rule (wpAny_bind (wpAny_pure (wpAny_pure h))))
end
section
variable {X : Cx}
def rEqSA (K : PySem.W.Frag) : R2 := fun x y H Q => ∃ z, x = .str z ∧ ((∃ d, Dp K H y d ∧ SeqAt.shaped (.str z) = true ∧ SeqAt.shaped d = true ∧ Q (.bl (PyData.eqv (.str z) d)) H) ∨ (∃ p kvs, y = .ref p ∧ H p = some (.dK kvs) ∧ Q (.bl false) H))
theorem op_eqSA (hr : Room 1 X.A) (hu : X.A.units + 64 < cLine) : OpR X (compareOp .Eq) (rEqSA X.K) := by
  intro pins s σ H x y v u Q I rx ry h
  obtain ⟨z, rfl, h⟩ := h
  rcases h with ⟨d, hd, sz, sd, q⟩ | ⟨p, kvs, rfl, hp, q⟩
  · exact op_eqD hu pins s σ H (.str z) y v u Q I rx ry ⟨_, d, .str z, hd, sz, sd, q⟩
  · obtain ⟨t, rfl⟩ := (show ∃ t, v = Value.str z t from rx)
    cases (show u = Value.ref p from ry)
    obtain ⟨_, _, vs, _, o, es, ep, h1, h2, h3, _⟩ := (show ObjOk X.prog X.w H s.heap p (.dK kvs) from I.hok p _ hp)
    obtain ⟨oc, od, odt, osl⟩ := o
    obtain ⟨h2, _, _⟩ := h2
    simp only at h2 h3
    subst h2 h3
    show wpAny _ _ (richCompare .Eq _ _) _ _ _
    exact rc_strDict hr.units0 h1 ⟨.bl false, H, I, rfl, q⟩
end
/-! ### parts of bridges as data -/
theorem rows_dp {K : PySem.W.Frag} {H : Hp} {xs : List V} {rs : List (Str × Int)} (h : Rws H xs rs) : DpAll K H xs (rs.map rowD) := by
  induction h with
  | nil => exact .nil
  | cons e _ ih => exact .cons (.tup (SqT.of e) (.cons (.str _) (.cons (.int _) .nil))) ih
def partsD (rows : List (Str × Int)) (spans : List Int) : PyData := .tuple [.list (rows.map rowD), .list (spans.map PyData.int)]
theorem parts_dp {K : PySem.W.Frag} {H : Hp} {q r s : Addr} {rows : List (Str × Int)} {spans : List Int} (h : PartsAt H q r s rows spans) : Dp K H (.ref q) (partsD rows spans) := by
  obtain ⟨xs, e1, e2⟩ := h.rw
  exact .tup (SqT.of h.tp) (.cons (.lst (SqL.of e1) (rows_dp e2)) (.cons (.lst (SqL.of h.sp) (dp_ints _)) .nil))
theorem parts_eqv (rows rows2 : List (Str × Int)) (spans spans2 : List Int) : PyData.eqv (partsD rows spans) (partsD rows2 spans2) = (decide (rows = rows2) && decide (spans = spans2)) := by
  unfold partsD
  rw [PyData.eqv, PyData.eqvAll, PyData.eqvAll, PyData.eqvAll, PyData.eqv, PyData.eqv, eqvA_rows, eqvA_ints, Bool.and_true]
theorem low_ok {z : Str} (h : LowN 8 z) : PyData.strOk z = true := by
  unfold PyData.strOk
  rw [Array.all_eq_true']
  intro c hc
  have := h.2 c (Array.mem_toList_iff.mpr hc)
  exact decide_eq_true (by omega)
theorem rows_lay : ∀ rs : List (Str × Int), (∀ r ∈ rs, LowN 8 r.1) → PyData.canLayAll0 (rs.map rowD) = true ∧ PyData.depthAll (rs.map rowD) ≤ 1
  | [], _ => ⟨rfl, by simp [PyData.depthAll]⟩
  | r :: t, h => by
    obtain ⟨h1, h2⟩ := rows_lay t fun x hx => h x (List.mem_cons_of_mem _ hx)
    have h3 := low_ok (h r List.mem_cons_self)
    refine ⟨by simp [PyData.canLayAll0, PyData.canLay0, rowD, h3, h1], ?_⟩
    simp only [List.map_cons, PyData.depthAll, rowD, PyData.depth]
    omega
theorem ints_lay : ∀ ns : List Int, PyData.canLayAll0 (ns.map PyData.int) = true ∧ PyData.depthAll (ns.map PyData.int) ≤ 0
  | [] => ⟨rfl, by simp [PyData.depthAll]⟩
  | n :: t => by
    obtain ⟨h1, h2⟩ := ints_lay t
    refine ⟨by simp [PyData.canLayAll0, PyData.canLay0, h1], ?_⟩
    simp only [List.map_cons, PyData.depthAll, PyData.depth]
    omega
theorem parts_shaped {rows : List (Str × Int)} {spans : List Int} (h : ∀ r ∈ rows, LowN 8 r.1) : SeqAt.shaped (partsD rows spans) = true := by
  obtain ⟨h1, h2⟩ := rows_lay rows h
  obtain ⟨h3, h4⟩ := ints_lay spans
  have hd : PyData.depth (partsD rows spans) ≤ 64 := by
    simp only [partsD, PyData.depth, PyData.depthAll]
    omega
  show (PyData.canLay0 (partsD rows spans) && decide (PyData.depth (partsD rows spans) ≤ 64)) = true
  rw [decide_eq_true hd, Bool.and_true]
  simp [partsD, PyData.canLay0, PyData.canLayAll0, h1, h3]
theorem if_top12 {n : Int} : ∃ top : Int, top ≤ 12 ∧ 3 ≤ top ∧ (if (if (12 : Int) < n then (12 : Int) else n) > 3 then (if (12 : Int) < n then (12 : Int) else n) else 3) = top := ⟨_, by split <;> split <;> omega, by split <;> split <;> omega, rfl⟩
/-- a[b] within a[b] += .. -/
def rGetL : V → V → Hp → VK → Prop := fun x y H Q => ∃ (p : Addr) (xs : List V) (i : Int) (j : Nat) (v : V), x = .ref p ∧ y = .int i ∧ i = (j : Int) ∧ H p = some (.lst xs) ∧ xs[j]? = some v ∧ Q v H
theorem get_list {X : Cx} : PGet X rGetL := by
  intro pins s σ H o i ov iv Q I ro ri h
  obtain ⟨p, xs, i, j, v, rfl, rfl, rfl, hp, hj, q⟩ := h
  cases ro
  obtain ⟨t, rfl⟩ := ri
  obtain ⟨its, r, pl, hz⟩ := I.list (SqL.of hp)
  obtain ⟨w, ew, rw'⟩ := r.get hj
  have hl := r.length
  have hn := line63
  have hj2 : j < xs.length := (List.getElem?_eq_some_iff.mp hj).1
  exact wpAny_getItem_list pl.isList (by omega) (by omega) (by simpa using ew) ⟨v, H, I, rw', q⟩
/-! ### texts turned about, texts many times -/
section
variable {X : Cx}
def revS (z : Str) : Str := ⟨(z.cps.toList.map fun c => c).reverse.toArray⟩
def tRevS (te : TE) : TE := fun σ H Q => te σ H fun x H1 => ∃ z, x = .str z ∧ z.length ≤ sizeLine ∧ ∀ r : Str, r.length = z.length → (∀ c ∈ r.cps.toList, c ∈ z.cps.toList) → Q (.str r) H1
theorem pe_revS {e : Expr} {te : TE} {k : Nat} {p1 p2 p3 pos : Pos} (he : PE X e te) : PE X (.Subscript e (.Slice none none (some (.UnaryOp .USub (.Constant (.int 1) k p1) p2)) p3) pos) (tRevS te) := by
  refine ⟨fun pins s σ H Q I h => ?_⟩
  refine Subscript_ (thn (he.run pins s σ H _ I h) fun v s1 ⟨x, H1, I1, r1, q1⟩ => ?_)
  obtain ⟨z, ex, hz, q⟩ := q1
  subst ex
  obtain ⟨t, rfl⟩ := r1
  have hst : PO X (some (.UnaryOp .USub (.Constant (.int 1) k p1) p2)) (tPart (tUn (rU fun i => .int (-i)) (tC (.int 1)))) := po_some (pe_un un_neg pe_int)
  refine wpAny_Slice (thn (po_none.run pins s1 σ H1 (fun o H2 => o = none ∧ H2 = H1) I1 ⟨rfl, rfl⟩) fun vl s2 ⟨l, H2, I2, pl, el, e2⟩ => ?_)
  subst el e2
  refine thn (po_none.run pins s2 σ H2 (fun o H3 => o = none ∧ H3 = H2) I2 ⟨rfl, rfl⟩) fun vu s3 ⟨u, H3, I3, pu, eu, e3⟩ => ?_
  subst eu e3
  refine thn (hst.run pins s3 σ H3 (fun o H4 => o = some (-1) ∧ H4 = H3) I3 ⟨1, rfl, -1, rfl, rfl, rfl⟩) fun vs s4 ⟨o, H4, I4, ps, eo, e4⟩ => ?_
  subst eo e4
  have I5 : Inv X pins σ H4 { s4 with heap := s4.heap.push { cls := .type "slice", data := .fields #[vl, vu, vs] } } := I4.kept (t' := s4.toks) fun b ob q => Heap.get?_push_of_some _ q
  obtain ⟨l', e1, e2⟩ := IsPart.raw pl
  obtain ⟨u', e3, e4⟩ := IsPart.raw pu
  obtain ⟨w', e5, e6⟩ := IsPart.raw ps
  have hl' : l' = none := by cases l' with | none => rfl | some y => cases e2
  have hu' : u' = none := by cases u' with | none => rfl | some y => cases e4
  subst hl' hu'
  obtain ⟨wt, rfl⟩ : ∃ wt, w' = some (-1, wt) := by
    cases w' with
    | none => cases e6
    | some y => obtain ⟨a, b⟩ := y; cases e6; exact ⟨b, rfl⟩
  subst e1 e3 e5
  show wpAny (model X.prog X.w) X.A (subscriptTail e (.Slice none none (some (.UnaryOp .USub (.Constant (.int 1) k p1) p2)) p3) (.str z t) (.ref s4.heap.objs.size)) (EP X pins σ Q) X.xe { s4 with heap := s4.heap.push { cls := .type "slice", data := .fields #[partValue none, partValue none, partValue (some (-1, wt))] } }
  refine tail_any (ops := [.str z t, .ref s4.heap.objs.size]) (typeIs_str _ _ _) (F.slot_str_getitem.lookup) ?_ (by with_unfolding_all rfl)
  refine wpAny_getItem_str_slice (l := none) (u := none) (st := some (-1, wt)) ⟨_, Heap.get?_push_size _ rfl, rfl, rfl⟩ rfl ?_
  have hm : ∀ i ∈ Builtin.Str.strSliceIndices none none (-1) z.length, i < z.cps.size := fun i hi => by
    rw [PyProof.Rows.picked_rev] at hi
    obtain ⟨k, hk, rfl⟩ := List.mem_map.mp hi
    have := List.mem_range.mp hk
    show z.length - 1 - k < z.length
    omega
  have hlen : ((Builtin.Str.strSliceIndices none none (-1) z.length).filterMap (z.cps[·]?)).length = z.length := by
    rw [PyProof.Rows.filterMap_get _ _ hm, List.length_map, PyProof.Rows.picked_rev, List.length_map, List.length_range]
  show Made.post (if ((-1 : Int) == 1 && (Builtin.Str.strSliceIndices none none (-1) z.length).length == z.length) = true then Made.val (.str z t)
    else Made.str ⟨((Builtin.Str.strSliceIndices none none (-1) z.length).filterMap (z.cps[·]?)).toArray⟩) (EP X pins σ Q) _
  rw [if_neg (by rw [show ((-1 : Int) == 1) = false from rfl, Bool.false_and]; exact Bool.false_ne_true)]
  refine ⟨by show (List.toArray _).size ≤ sizeLine; rw [List.size_toArray, hlen]; exact hz, .str _, H4, I5.tok _, ⟨_, rfl⟩, q _ (by show (List.toArray _).size = _; rw [List.size_toArray, hlen]) fun c hc => ?_⟩
  have hc : c ∈ (Builtin.Str.strSliceIndices none none (-1) z.length).filterMap (z.cps[·]?) := by simpa using hc
  obtain ⟨i, _, hi⟩ := List.mem_filterMap.mp hc
  exact Array.mem_toList_iff.mpr (Array.mem_of_getElem? hi)
theorem i_revS {te : TE} {σ : L2.St} {H : Hp} {Q : VK} (h : te σ H fun x H1 => ∃ z, x = .str z ∧ z.length ≤ sizeLine ∧ ∀ r : Str, r.length = z.length → (∀ c ∈ r.cps.toList, c ∈ z.cps.toList) → Q (.str r) H1) : tRevS te σ H Q := h
/-- text * n -/
def rMulS : R2 := fun x y H Q => ∃ (z : Str) (n : Nat), x = .str z ∧ y = .int (n : Int) ∧ z.length ≤ 16 ∧ n ≤ 1048576 ∧ ∀ r : Str, r.length = z.length * n → (∀ c ∈ r.cps.toList, c ∈ z.cps.toList) → Q (.str r) H
theorem mul_mem (z : Str) : ∀ n : Nat, ∀ a : Array Nat, ∀ c ∈ ((List.replicate n z.cps).foldl (· ++ ·) a).toList, c ∈ a.toList ∨ c ∈ z.cps.toList
  | 0, a, c, h => .inl h
  | n + 1, a, c, h => by
    rw [List.replicate_succ, List.foldl_cons] at h
    rcases mul_mem z n _ c h with h | h
    · rw [Array.toList_append] at h
      exact List.mem_append.mp h
    · exact .inr h
theorem op_mulS : OpR X (binaryOp .Mult) rMulS := by
  intro pins s σ H x y v u Q I rx ry h
  obtain ⟨z, n, rfl, rfl, hz, hn, q⟩ := h
  obtain ⟨t, rfl⟩ := rx
  obtain ⟨t2, rfl⟩ := ry
  refine KXi.mul (x := z) (n := z.length) rfl hz (by omega) (by exact_mod_cast hn) fun t' k h0 h1 => ?_
  refine ⟨.str _, H, I.tok _, ⟨_, rfl⟩, q _ (by have := h1 (by omega); omega) fun c hc => ?_⟩
  unfold PySem.Txt.mul at hc
  split at hc
  · simp [Str.empty] at hc
  · split at hc
    · exact hc
    · rcases mul_mem z _ _ c hc with h | h
      · simp at h
      · exact h
end
/-! ### exceptions of one field -/
def x1F (f : Str) (v : V) : List (Str × V) := [(f, v)]
def spX1 (C : Addr) (f : Str) : Sp := fun vs H Q _ => ∃ (p : Addr) (m : V), vs = [.ref p, m] ∧ H p = some (exo p C none) ∧ ∀ d H', H d = none → d ≠ p → H' p = some (exo p C (some d)) → H' d = some (exd d (x1F f m)) → (∀ x o, x ≠ p → H x = some o → H' x = some o) → Q .non H'
theorem raise_same {H H1 H' : Hp} {e d : Addr} {X Y : HO} (s : Same H H1) (he : H1 e = none) (hd : (upd H1 e X) d = none) (ne : d ≠ e) (k : ∀ x o, x ≠ e → upd H1 e X x = some o → H' x = some o) : Same H (upd (del H' e) d Y) := by
  intro x o ex
  have e1 := s _ _ ex
  have nx : x ≠ e := ne_of_none e1 he
  have nd : x ≠ d := by
    intro z
    rw [z] at e1
    rw [upd_ne ne, e1] at hd
    cases hd
  rw [upd_ne nd, del_ne nx]
  exact k x o nx (by rw [upd_ne nx]; exact e1)

/-- raise X(v), v in slot i -/
theorem raise_one {C : Addr} {f : Str} {i : Nat} {σ : L2.St} {v : V} {H0 H : Hp} {R : XK} (e : σ[i]? = some (some v)) (s : Same H0 H) (q : ∀ d H', Same H0 H' → H' d = some (.xd (x1F f v)) → R (.ref C) (some d) H') : tMkO C (spX1 C f) [] (tCons (tVar i) tNil) σ H R :=
  ⟨v, e, (by show 1 ≤ 1000; decide), fun e0 n0 => ⟨e0, v, rfl, upd_same, fun d H2 hd ne he1 hd1 k => ⟨rfl, d, _, he1, hd1, by rw [upd_ne ne] at hd; exact hd, q d _ (raise_same s n0 hd ne k) upd_same⟩⟩⟩
/-! ### data: of what depth, and how long its text -/
structure OkD (d : PyData) (k m : Nat) : Prop where
  lay : d.canLay0 = true
  dep : d.depth ≤ k
  sho : d.showable = true
  len : d.shown.length ≤ m
theorem logs {i : Int} (h : i.natAbs < 10000000000) : i.natAbs.log2 < 1920 := by
  by_cases z : i.natAbs = 0
  · rw [z]; decide
  · exact (Nat.log2_lt z).mpr (Nat.lt_of_lt_of_le h (Nat.le_trans (show 10000000000 ≤ 2 ^ 64 by decide) (Nat.pow_le_pow_right (by decide) (by decide : 64 ≤ 1920))))
theorem small10 {i : Int} (h : i.natAbs < 10000000000) : (Str.ofString (toString i)).length ≤ 11 := by
  have := PySem.int_text_length_le10 (a := i) (k := 10) (by decide) h
  rw [PySem.ofString_length]
  exact this
theorem okd_none : OkD .none 0 4 := ⟨by simp [PyData.canLay0], by simp [PyData.depth], by simp [PyData.showable], by rw [PyData.shown]; decide⟩
theorem okd_bool (b : Bool) : OkD (.bool b) 0 5 := ⟨by simp [PyData.canLay0], by simp [PyData.depth], by simp [PyData.showable], by rw [PyData.shown]; cases b <;> decide⟩
theorem okd_int {i : Int} (h : i.natAbs < 10000000000) : OkD (.int i) 0 11 := ⟨by simp [PyData.canLay0], by simp [PyData.depth], by simp [PyData.showable, logs h], by rw [PyData.shown]; exact small10 h⟩
theorem okd_str {x : Str} {n : Nat} (h : PyData.strOk x = true) (l : x.length ≤ n) : OkD (.str x) 0 (10 * n + 2) := by
  refine ⟨by simp [PyData.canLay0, h], by simp [PyData.depth], by simp [PyData.showable], ?_⟩
  rw [PyData.shown]
  refine Nat.le_trans (PySem.StrLaws.reprText_len x fun c hc => ?_) (by omega)
  unfold PyData.strOk at h
  have := Array.all_eq_true_iff_forall_mem.mp h c (by simpa using hc)
  exact Nat.lt_trans (of_decide_eq_true this) (by decide)
theorem OkD.mono {d : PyData} {k m k' m' : Nat} (h : OkD d k m) (a : k ≤ k') (b : m ≤ m') : OkD d k' m' := ⟨h.lay, Nat.le_trans h.dep a, h.sho, Nat.le_trans h.len b⟩
theorem okd_all {k m : Nat} : ∀ ds : List PyData, (∀ d ∈ ds, OkD d k m) → PyData.canLayAll0 ds = true ∧ PyData.depthAll ds ≤ k ∧ PyData.showableAll ds = true ∧ piled (PyData.shownAll ds) ≤ ds.length * (m + 2)
  | [], _ => ⟨by simp [PyData.canLayAll0], by simp [PyData.depthAll], by simp [PyData.showableAll], by simp [PyData.shownAll, piled_nil]⟩
  | d :: ds, h => by
    have h1 := h d List.mem_cons_self
    obtain ⟨a, b, c, e⟩ := okd_all ds fun x hx => h x (List.mem_cons_of_mem _ hx)
    refine ⟨by simp [PyData.canLayAll0, h1.lay, a], ?_, by simp [PyData.showableAll, h1.sho, c], ?_⟩
    · have := h1.dep
      simp only [PyData.depthAll]; omega
    · have := h1.len
      rw [PyData.shownAll, piled_cons, List.length_cons, Nat.add_mul]; omega
theorem list_text : ∀ ts : List Str, (listText ts).length ≤ piled ts + 2
  | [] => by decide
  | t :: r => by
    have h := textFrom_length_pos r 1 (("[" : Str) ++ (if (0 : Nat) > 0 then ", " else "" : String) ++ t) (Nat.succ_pos 0)
    have e : ((("[" : Str) ++ (if (0 : Nat) > 0 then ", " else "" : String) ++ t)).length = 1 + t.length := by rw [Str.length_append, Str.length_append]; rfl
    have x1 : (listText (t :: r)).length = (textFrom 0 "[" (t :: r)).length + 1 := by show (textFrom 0 "[" (t :: r) ++ "]").length = _; rw [Str.length_append]; rfl
    have x2 : (textFrom 0 "[" (t :: r)).length = (textFrom 1 (("[" : Str) ++ (if (0 : Nat) > 0 then ", " else "" : String) ++ t) r).length := rfl
    rw [x1, x2, h, e, piled_cons]; omega
theorem okd_tup {k m n : Nat} {ds : List PyData} (h : ∀ d ∈ ds, OkD d k m) (l : ds.length ≤ n) : OkD (.tuple ds) (k + 1) (n * (m + 2) + 2) := by
  obtain ⟨a, b, c, e⟩ := okd_all ds h
  refine ⟨by simp only [PyData.canLay0]; exact a, by simp only [PyData.depth]; omega, by simp only [PyData.showable]; exact c, ?_⟩
  rw [PyData.shown]
  have := PySem.fmt_text (PyData.shownAll ds)
  have := Nat.mul_le_mul_right (m + 2) l
  omega
theorem okd_lst {k m n : Nat} {ds : List PyData} (h : ∀ d ∈ ds, OkD d k m) (l : ds.length ≤ n) : OkD (.list ds) (k + 1) (n * (m + 2) + 2) := by
  obtain ⟨a, b, c, e⟩ := okd_all ds h
  refine ⟨by simp only [PyData.canLay0]; exact a, by simp only [PyData.depth]; omega, by simp only [PyData.showable]; exact c, ?_⟩
  rw [PyData.shown]
  have := list_text (PyData.shownAll ds)
  have := Nat.mul_le_mul_right (m + 2) l
  omega
theorem okd_map {α : Type} {k m n : Nat} {f : α → PyData} {l : List α} (h : ∀ x ∈ l, OkD (f x) k m) (e : l.length ≤ n) : OkD (.list (l.map f)) (k + 1) (n * (m + 2) + 2) :=
  okd_lst (fun d hd => by obtain ⟨x, hx, rfl⟩ := List.mem_map.mp hd; exact h x hx) (by rw [List.length_map]; exact e)
theorem OkD.shaped {d : PyData} {k m : Nat} (h : OkD d k m) (a : k ≤ 64 := by decide) : SeqAt.shaped d = true := by
  show (d.canLay0 && decide (d.depth ≤ 64)) = true
  rw [h.lay, decide_eq_true (Nat.le_trans h.dep a)]; rfl
theorem OkD.line {d : PyData} {k m : Nat} (h : OkD d k m) (a : m ≤ 100000 := by decide) : d.shown.length ≤ sizeLine := le_line (Nat.le_trans h.len a)
theorem OkD.refl {d : PyData} {k m : Nat} (h : OkD d k m) : PyData.eqv d d = true := SeqAt.eqv_refl _ h.lay
/-- repr of such data -/
theorem OkD.rep {K : PySem.W.Frag} {H : Hp} {v : V} {d : PyData} {k m : Nat} {Q : VK} (h : OkD d k m) (hd : Dp K H v d) (q : Q (.str d.shown) H) (a : k ≤ 64 := by decide) (b : m ≤ 100000 := by decide) : rReprD K [v] H Q :=
  ⟨v, d, rfl, hd, h.shaped a, h.sho, h.line b, q⟩
/-- a thing is not other than itself -/
theorem ne_self {α : Type} [DecidableEq α] (x : α) : (!decide (x = x)) = false := by rw [decide_eq_true rfl]; rfl
theorem OkD.same {K : PySem.W.Frag} {H : Hp} {u v : V} {d : PyData} {k m : Nat} {Q : VK} (h : OkD d k m) (hu : Dp K H u d) (hv : Dp K H v d) (q : Q (.bl true) H) (a : k ≤ 64 := by decide) : rEqD K u v H Q :=
  ⟨d, d, hu, hv, h.shaped a, h.shaped a, by rw [h.refl]; exact q⟩
theorem OkD.not {K : PySem.W.Frag} {H : Hp} {u v : V} {d : PyData} {k m : Nat} {Q : VK} (h : OkD d k m) (hu : Dp K H u d) (hv : Dp K H v d) (q : Q (.bl false) H) (a : k ≤ 64 := by decide) : rNeD K u v H Q :=
  ⟨d, d, hu, hv, h.shaped a, h.shaped a, by rw [h.refl]; exact q⟩
theorem low_strOk {m : Nat} {z : Str} (h : LowN m z) : PyData.strOk z = true := by
  unfold PyData.strOk
  rw [Array.all_eq_true_iff_forall_mem]
  intro c hc
  have := h.2 c (by simpa [tl] using hc)
  exact decide_eq_true (by omega)
/-! ### repr of a tuple of a text and a thing, dicts too -/
def rReprT : List V → Hp → VK → Prop := fun xs H Q => ∃ t z y F d, xs = [.ref t] ∧ H t = some (.tup [.str z, y]) ∧ PyData.strOk z = true ∧ z.length ≤ 20 ∧ Thing F H y d ∧ Q (.str (PyData.shown (.tuple [.str z, d]))) H
section
variable {X : Cx}
theorem thing_reads {P : Program} {w : World} {pins : List (Addr × Obj)} {σ : L2.St} {H : Hp} {s : Shared} {F : Addr} {y : V} {u : Value} {d : PyData} (I : Inv X pins σ H s) (h : Thing F H y d) (r : RelV y u) : ∃ as, Reads s.heap u d as ∧ d.depth ≤ 64 ∧ sysModules ∉ as ∨ ∃ as, Reads s.heap u d as ∧ d.depth ≤ 64 ∧ d.hasDict = false := by
  cases h with
  | th th sh so =>
    obtain ⟨as, ra⟩ := Dp.reads I d y u (th.dp (K := X.K)) r
    have hs : (d.canLay0 && decide (d.depth ≤ 64)) = true := sh
    rw [Bool.and_eq_true] at hs
    exact ⟨as, .inr ⟨as, ra, of_decide_eq_true hs.2, PyData.hasDict_of_canLay _ (SeqAt.canLay_of_shaped sh)⟩⟩
  | @dc a kvs n e so =>
    cases (show u = Value.ref a from r)
    obtain ⟨rd, ns⟩ := dict_reads I.hok e
    have hdep : (dD kvs).depth ≤ 1 := by
      unfold dD
      rw [PyData.depth]
      have : ∀ l : List (Str × Int), PyData.depthKv (l.map fun p => (PyData.str p.1, PyData.int p.2)) = 0 := by
        intro l
        induction l with
        | nil => simp [PyData.depthKv]
        | cons p l ih => simp [PyData.depthKv, PyData.depth, ih]
      rw [this]
      decide
    exact ⟨[a], .inl ⟨rd, by omega, by simpa using Ne.symm ns⟩⟩
theorem call_reprT {k : Nat} (gd : X.A.guards = some []) (hr : Room k X.A) : CallR X (.builtin "repr") rReprT := by
  intro pins s σ H xs us Q I r h
  obtain ⟨t, z, y, F, d, rfl, ht, hz, hzl, hy, q⟩ := h
  obtain ⟨u, rfl, ru⟩ := Vals.one r
  cases (show u = Value.ref t from ru)
  obtain ⟨_, its, rv, o, h1, h2, n, h3⟩ := (show ObjOk X.prog X.w H s.heap t (.tup [.str z, y]) from I.hok t _ ht)
  obtain ⟨u1, u2, rfl, r1, r2⟩ := vals2 rv
  obtain ⟨tk, rfl⟩ := (show ∃ tk, u1 = Value.str z tk from r1)
  have un := hr.un
  have sho : (PyData.tuple [.str z, d]).showable = true := by simp [PyData.showable, PyData.showableAll, hy.ok.1]
  have len : (PyData.tuple [.str z, d]).shown.length ≤ sizeLine := by
    have l1 := (okd_str (n := 20) hz hzl).len
    have l2 := hy.ok.2
    have := PySem.fmt_text (PyData.shownAll [.str z, d])
    rw [PyData.shown]
    rw [PyData.shownAll, PyData.shownAll, PyData.shownAll, piled_cons, piled_cons, piled_nil] at this
    rw [PyData.shownAll, PyData.shownAll, PyData.shownAll]
    exact le_line (by omega)
  obtain ⟨as, ra, hd, hn⟩ : ∃ as, Reads s.heap u2 d as ∧ d.depth ≤ 64 ∧ ((PyData.tuple [.str z, d]).hasDict = true → sysModules ∉ ([] : List Addr) ++ (as ++ [])) := by
    obtain ⟨as, ⟨ra, hd, hn⟩ | ⟨as2, ra, hd, hn⟩⟩ := thing_reads (P := X.prog) (w := X.w) I hy r2
    · exact ⟨as, ra, hd, fun _ => by simpa using hn⟩
    · refine ⟨as2, ra, hd, fun hx => ?_⟩
      simp [PyData.hasDict, PyData.hasDictAll, hn] at hx
  exact repr_of_reads' (Reads.tuple h1 h2 h3 (ReadsAll.cons (Reads.str z tk) (ReadsAll.cons ra ReadsAll.nil))) sho hn gd (by simp only [PyData.depth, PyData.depthAll]; omega) (fun _ _ z => z) (fun h' t' tk hk => ⟨V.str (PyData.shown _), H, I.kept hk, ⟨_, rfl⟩, q⟩) len
end
set_option maxHeartbeats 8000000
local macro_rules | `(tactic| walk_at "c") => `(tactic| first | omega | decide | exact ⟨by omega, by omega⟩ | exact ⟨by decide, by decide⟩ | exact .inl ⟨by omega, by omega⟩ | exact .inr ⟨by omega, by omega⟩ | exact ⟨by omega, by omega, by omega⟩ | exact ⟨by decide, by decide, by decide⟩ | exact le_line (Nat.le_of_ble_eq_true rfl))
local macro_rules | `(tactic| walk_at "a") => `(tactic| with_reducible (first | refine i_seq ?_ | refine i_asg ?_ | refine i_cons ?_ | refine i_c ?_ | refine i_nil ?_ | refine i_op ?_ | refine i_call ?_ | refine i_cb ?_ | refine i_name ?_ | refine i_next ?_ | refine i_ret ?_ | refine i_drop ?_ | refine i_if ?_ | refine i_test ?_ | refine i_and ?_ | refine i_or ?_ | refine i_not ?_ | refine i_ite ?_ | refine i_lst ?_ | refine i_tup ?_ | refine i_bm ?_ | refine i_un ?_ | refine i_par ?_ | refine i_gsub ?_ | refine i_chain ?_ | refine i_sl ?_ | refine i_nopart ?_ | refine i_part ?_ | refine i_m1 ?_ | refine i_m0 ?_ | refine i_lc ?_ | refine i_iList ?_ | refine i_iTup ?_ | refine i_iStr ?_ | refine i_r1 ?_ | refine i_set ?_ | refine i_callk ?_ | refine i_callN ?_ | refine i_ckw ?_ | refine i_revL ?_ | refine i_tB ?_ | refine i_fld ?_ | refine i_sfld ?_ | refine i_make ?_ | refine i_makeN ?_ | refine i_meth ?_ | refine i_andV ?_ | refine i_orV ?_ | refine i_notV ?_ | refine iteT ?_ | refine iteF ?_ | refine i_yes ?_))
local macro_rules | `(tactic| walk_at "s") => `(tactic| repeat (first | walk_at "a" | refine i_var rfl ?_ | refine i_aug rfl ?_ | refine And.intro ⟨_, rfl⟩ ?_ | refine ⟨_, rfl, ?_⟩ | refine ⟨_, _, rfl, rfl, ?_⟩ | refine ⟨_, _, rfl, ?_⟩ | refine ⟨rfl, ?_⟩ | refine And.intro (by walk_at "c") ?_))
/-! ### == of Bridges with anything; the Boat of a name -/
section
variable {P : Program} {w : World} {K : PySem.W.Frag} {mg : Str → Option Value} {base : Heap} (T : Ev K mg)
def spBrEqA (K : PySem.W.Frag) (C CB : Addr) : Sp := fun vs H Q _ => ∃ (p bl sl : Addr) (y : V) (rows : List (Str × Int)) (spans : List Int), vs = [.ref p, y] ∧ BrAt C CB H p bl sl rows spans ∧ spans.length ≤ 1000 ∧
  ((∃ (q bl2 sl2 : Addr) (rows2 : List (Str × Int)) (spans2 : List Int), y = .ref q ∧ BrAt C CB H q bl2 sl2 rows2 spans2 ∧ spans2.length ≤ 1000 ∧ ∀ H', Same H H' → Q (.bl (decide (rows = rows2) && decide (spans = spans2))) H') ∨
   (∃ t, TyX K H y t ∧ PySem.W.kitOne K t (.ref CB) = some false ∧ Q (.bl false) H))
theorem okBridge___eq__ : FnOk P w K mg base CX0 4 T.fBridge___eq__ T.fdBridge___eq__ ["self", "other"] (spBrEqA K T.CBoat T.CBridge) := by
  refine T.FBridge___eq__.ok scBridgeEq (fun vs H Q E h => ?_) (fun cdv A outer s H vs Q E hr h => ?_)
  · obtain ⟨p, bl, sl, y, rows, spans, rfl, _⟩ := h
    rfl
  · obtain ⟨p, bl, sl, y, rows, spans, rfl, hp, hl1, h⟩ := h
    refine ⟨_,
      (pss_one (ps_ret (pe_and (pe_callB call_isi (by rfl) T.misinstance (by decide +kernel) (pa_cons (pv 1) (pa_cons (pe_glob (v := .ref T.CBridge) (by rfl) T.gCBridge rfl) pa_nil))) (pe_and (pe_cmpR (op_dqB false monBoat (dqB_ins (okBoat___eq__ T) hspBoat (mt_Boat___eq__ T).at_ (mt_Boat___eq__ T).fn T.bBoat___eq__ pass0 selfBoat) (hr.mono (by decide))) (pe_fld (pv 0) rfl) (pe_fld (pv 1) rfl) (nomark _)) (pe_one (pe_cmpR (op_eqD hr.units) (pe_fld (pv 0) rfl) (pe_fld (pv 1) rfl) (nomark _)))))))
      , ?_⟩
    obtain ⟨dx, bs, e1, e2, e3⟩ := hp.ex
    rcases h with ⟨r, bl2, sl2, rows2, spans2, rfl, hr2, hl2, q⟩ | ⟨t, ty, hk, q⟩
    · obtain ⟨dy, bs2, g1, g2, g3⟩ := hr2.ex
      walk_at "s"
      refine isi_own (.base (.ins g1 (cl_Bridge T) T.haBridge T.hnBridge T.htBridge T.hmBridge)) ?_
      refine ⟨_, rfl, ?_⟩
      refine ifT rfl ?_
      walk_at "s"
      refine ⟨p, _, dx, _, _, rfl, e1, cl_Bridge T, T.nBridge__boats, brF_boats _ _, ?_⟩
      walk_at "s"
      refine ⟨r, _, dy, _, _, rfl, g1, cl_Bridge T, T.nBridge__boats, brF_boats _ _, ?_⟩
      refine ⟨_, boats_eqB e2 g2 e3 g3, fun H1 s1 => ?_⟩
      by_cases er : rows = rows2
      · rw [decide_eq_true er]
        walk_at "s"
        refine ⟨p, _, dx, _, _, rfl, s1 _ _ e1, cl_Bridge T, T.nBridge__spans, brF_spans _ _, ?_⟩
        walk_at "s"
        refine ⟨r, _, dy, _, _, rfl, s1 _ _ g1, cl_Bridge T, T.nBridge__spans, brF_spans _ _, ?_⟩
        refine ⟨.list (spans.map PyData.int), .list (spans2.map PyData.int), .lst (SqL.of (s1 _ _ hp.sp)) (dp_ints _), .lst (SqL.of (s1 _ _ hr2.sp)) (dp_ints _), ke_shaped_ints _, ke_shaped_ints _, ?_⟩
        have q1 := q H1 s1
        rw [decide_eq_true er, Bool.true_and] at q1
        rw [eqv_ints]
        exact q1
      · rw [decide_eq_false er]
        walk_at "s"
        have q1 := q H1 s1
        rw [decide_eq_false er, Bool.false_and] at q1
        exact q1
    · walk_at "s"
      refine ⟨_, _, _, _, false, rfl, .own T.CBridge, ty, hk, false, rfl, ?_⟩
      exact q
theorem isBr {H : Hp} {p bl sl : Addr} {rows : List (Str × Int)} {spans : List Int} (h : BrAt T.CBoat T.CBridge H p bl sl rows spans) : TyX K H (.ref p) (.ref T.CBridge) := by
  obtain ⟨dx, bs, e1, e2, e3⟩ := h.ex
  exact .base (.ins e1 (cl_Bridge T) T.haBridge T.hnBridge T.htBridge T.hmBridge)
theorem neBr {H : Hp} {p bl sl q bl2 sl2 : Addr} {rows rows2 : List (Str × Int)} {spans spans2 : List Int} {Q : VK} (h1 : BrAt T.CBoat T.CBridge H p bl sl rows spans) (h2 : BrAt T.CBoat T.CBridge H q bl2 sl2 rows2 spans2) (l : spans.length ≤ 1000) (l2 : spans2.length ≤ 1000) (q0 : ∀ H', Same H H' → Q (.bl (!(decide (rows = rows2) && decide (spans = spans2)))) H') : rOwnY K T.CBridge (spBrEqA K T.CBoat T.CBridge) E0 QNot (.ref p) (.ref q) H Q := by
  obtain ⟨dx, bs, e1, e2, e3⟩ := h1.ex
  exact ⟨p, dx, _, _, rfl, e1, isBr T h2, T.nfBridge, p, bl, sl, _, rows, spans, rfl, h1, l, .inl ⟨q, bl2, sl2, rows2, spans2, rfl, h2, l2, fun H' s => ⟨_, rfl, q0 H' s⟩⟩⟩
theorem eqBr {H : Hp} {p bl sl q bl2 sl2 : Addr} {rows rows2 : List (Str × Int)} {spans spans2 : List Int} {Q : VK} (h1 : BrAt T.CBoat T.CBridge H p bl sl rows spans) (h2 : BrAt T.CBoat T.CBridge H q bl2 sl2 rows2 spans2) (l : spans.length ≤ 1000) (l2 : spans2.length ≤ 1000) (q0 : ∀ H', Same H H' → Q (.bl (decide (rows = rows2) && decide (spans = spans2))) H') : rOwnY K T.CBridge (spBrEqA K T.CBoat T.CBridge) E0 id (.ref p) (.ref q) H Q := by
  obtain ⟨dx, bs, e1, e2, e3⟩ := h1.ex
  exact ⟨p, dx, _, _, rfl, e1, isBr T h2, T.nfBridge, p, bl, sl, _, rows, spans, rfl, h1, l, .inl ⟨q, bl2, sl2, rows2, spans2, rfl, h2, l2, q0⟩⟩
theorem okNoBoat___init__ : FnOk P w K mg base CX0 1 T.fNoBoat___init__ T.fdNoBoat___init__ ["self", "name"] (spX1 T.CNoBoat "name") := by
  refine T.FNoBoat___init__.ok scNoBoatInit (fun vs H Q E h => ?_) (fun cdv A outer s H vs Q E hr h => ?_)
  · obtain ⟨p, m, rfl, _⟩ := h
    rfl
  · obtain ⟨p, a, rfl, hp, q⟩ := h
    refine ⟨_, pss_one (ps_put (pv 0) (pv 1)), ?_⟩
    refine ⟨_, rfl, _, rfl, p, T.CNoBoat, rfl, T.oxNoBoat, T.nNoBoat_name, .inl ⟨hp, fun d hd ne => ?_⟩⟩
    refine q d _ hd ne upd_same ?_ fun x o n e => ?_
    · rw [upd_ne ne, upd_same]; rfl
    · rw [upd_ne n, upd_ne (ne_of_none e hd)]
      exact e
/-- a thing that may be held against texts -/
def AnyT (K : PySem.W.Frag) (H : Hp) (y : V) : Prop := (∃ d, Dp K H y d ∧ SeqAt.shaped d = true) ∨ ∃ p kvs, y = .ref p ∧ H p = some (.dK kvs)
/-- whether it is this text -/
theorem any_eq {H : Hp} {y : V} {z : Str} (h : AnyT K H y) (hz : LowN 8 z) : (∃ d, Dp K H y d ∧ SeqAt.shaped (.str z) = true ∧ SeqAt.shaped d = true ∧ PyData.eqv (.str z) d = decide (y = .str z)) ∨ (y ≠ .str z ∧ ∃ p kvs, y = .ref p ∧ H p = some (.dK kvs)) := by
  have hs : SeqAt.shaped (.str z) = true := by
    show (PyData.canLay0 (.str z) && decide (PyData.depth (.str z) ≤ 64)) = true
    simp [PyData.canLay0, PyData.depth, low_ok hz]
  rcases h with ⟨d, hd, sd⟩ | ⟨p, kvs, rfl, hp⟩
  · refine .inl ⟨d, hd, hs, sd, ?_⟩
    cases hd with
    | str t =>
      by_cases e : z = t
      · subst e
        rw [decide_eq_true rfl]
        simp [PyData.eqv]
      · rw [decide_eq_false (fun h => e (V.str.inj h).symm)]
        simp [PyData.eqv, e]
    | _ =>
      have e : ∀ d, (∀ t, d ≠ PyData.str t) → PyData.eqv (.str z) d = false := fun d h => by
        cases d <;> first | (exact absurd rfl (h _)) | simp [PyData.eqv]
      rw [e _ (by intro t h; cases h), decide_eq_false (by intro h; cases h)]
  · exact .inr ⟨(fun h => by cases h), p, kvs, rfl, hp⟩
def spBoat (K : PySem.W.Frag) (C CB CN : Addr) : Sp := fun vs H Q E => ∃ (p bl sl : Addr) (y : V) (rows : List (Str × Int)) (spans : List Int), vs = [.ref p, y] ∧ BrAt C CB H p bl sl rows spans ∧ (∀ r ∈ rows, LowN 8 r.1) ∧ AnyT K H y ∧
  (∀ (a : Addr) (i : Nat) r, rows[i]? = some r → y = .str r.1 → BoatAt C H a r.1 r.2 → Q (.ref a) H) ∧ ((∀ r ∈ rows, y ≠ .str r.1) → ∀ d H', Same H H' → H' d = some (.xd (x1F "name" y)) → E (.ref CN) (some d) H')
theorem okBridge_boat : FnOk P w K mg base (L2.CX P w) 4 T.fBridge_boat T.fdBridge_boat ["self", "name"] (spBoat K T.CBoat T.CBridge T.CNoBoat) := by
  refine T.FBridge_boat.okX scBridgeBoat (fun vs H Q E h => ?_) (fun cdv A outer s H vs Q E hr h => ?_)
  · obtain ⟨p, bl, sl, y, rows, spans, rfl, _⟩ := h
    rfl
  · obtain ⟨p, bl, sl, y, rows, spans, rfl, hp, hn, hy, q1, q2⟩ := h
    refine ⟨_,
      (pss_cons (ps_for (passes_of rfl) rfl (pi_list (pe_fld (pv 0) rfl)) (pg_name (i := 2) scBridgeBoat.nd rfl (.inl rfl))
      (pss_one (ps_if (pt_cmpR (op_eqSA (hr.mono (by decide)) hr.units) (pe_fld (pv 2) rfl) (pv 1) (nomark _))
      (pss_one (ps_ret (pv 2)))
      pss_nil)))
      (pss_one (ps_raise rfl (takes_of rfl rfl rfl rfl) (pmk_oexB T.oxNoBoat T.aNoBoat___init__ (beq_iff_eq.mp T.iNoBoat___init__) (okNoBoat___init__ T) (hr.mono (by decide)) T.bNoBoat___init__ pass0 (by rfl) T.gCNoBoat (by exact (pa_cons (pv 1) pa_nil))))))
      , ?_⟩
    obtain ⟨dx, bs, e1, e2, e3⟩ := hp.ex
    have hl := e3.len
    walk_at "s"
    refine ⟨p, _, dx, _, _, rfl, e1, cl_Bridge T, T.nBridge__boats, brF_boats _ _, ?_⟩
    refine ⟨bl, rfl, ⟨_, SqL.of e2⟩, ?_⟩
    refine for_list (K := K) (a := bl) (xs := bs) (fun k σ H' => ∃ (w2 : Option V), σ = [some (.ref p), some (y), w2] ∧ H' = H ∧ ∀ (j : Nat) r, j < k → rows[j]? = some r → y ≠ .str r.1)
      ⟨_, rfl, rfl, fun j r hj => by omega⟩ (fun k σ H' _ ⟨_, _, z, _⟩ => by rw [z]; exact SqL.of e2) ?_ ?_
    · rintro k x σ H' hx ⟨w2, rfl, rfl, hno⟩
      obtain ⟨a, r, rfl, hr2, dxa, ha⟩ := e3.at hx
      walk_at "s"
      refine ⟨a, _, dxa, _, _, rfl, ha, cl_Boat T, T.nBoat_name, boatF_name _ _, ?_⟩
      walk_at "s"
      have miss : y ≠ .str r.1 → ∀ (j : Nat) r', j < k + 1 → rows[j]? = some r' → y ≠ .str r'.1 := fun e j r' hj hr' => by
        by_cases c : j < k
        · exact hno j r' c hr'
        · obtain rfl : j = k := by omega
          rw [hr2] at hr'
          cases hr'
          exact e
      rcases any_eq hy (hn r (List.mem_of_getElem? hr2)) with ⟨d, hd, hs, sd, ee⟩ | ⟨ne, p', kvs, rfl, hp'⟩
      · refine .inl ⟨d, hd, hs, sd, ?_⟩
        rw [ee]
        by_cases e : y = .str r.1
        · rw [decide_eq_true e]
          refine ⟨_, rfl, ?_⟩
          refine ifT rfl ?_
          walk_at "s"
          exact q1 a k r hr2 e ⟨dxa, ha⟩
        · rw [decide_eq_false e]
          refine ⟨_, rfl, ?_⟩
          refine ifF rfl ?_
          exact ⟨_, rfl, rfl, miss e⟩
      · refine .inr ⟨_, _, rfl, hp', ?_⟩
        refine ⟨_, rfl, ?_⟩
        refine ifF rfl ?_
        exact ⟨_, rfl, rfl, miss ne⟩
    · rintro σ H' ⟨w2, rfl, rfl, hno⟩
      refine raise_one (i := 1) rfl same_refl fun d H' s1 ed => q2 (fun r hr => ?_) d H' s1 ed
      obtain ⟨j, hj, e⟩ := List.getElem_of_mem hr
      exact hno j r (by omega) (by rw [List.getElem?_eq_getElem hj, e])
end
set_option maxHeartbeats 8000000
local macro_rules | `(tactic| walk_at "c") => `(tactic| first | omega | decide | exact ⟨by omega, by omega⟩ | exact ⟨by decide, by decide⟩ | exact .inl ⟨by omega, by omega⟩ | exact .inr ⟨by omega, by omega⟩ | exact ⟨by omega, by omega, by omega⟩ | exact ⟨by decide, by decide, by decide⟩ | exact le_line (Nat.le_of_ble_eq_true rfl))
local macro_rules | `(tactic| walk_at "a") => `(tactic| with_reducible (first | refine i_seq ?_ | refine i_asg ?_ | refine i_cons ?_ | refine i_c ?_ | refine i_nil ?_ | refine i_op ?_ | refine i_call ?_ | refine i_cb ?_ | refine i_name ?_ | refine i_next ?_ | refine i_ret ?_ | refine i_drop ?_ | refine i_if ?_ | refine i_test ?_ | refine i_and ?_ | refine i_or ?_ | refine i_not ?_ | refine i_ite ?_ | refine i_lst ?_ | refine i_tup ?_ | refine i_bm ?_ | refine i_un ?_ | refine i_par ?_ | refine i_gsub ?_ | refine i_chain ?_ | refine i_sl ?_ | refine i_nopart ?_ | refine i_part ?_ | refine i_m1 ?_ | refine i_m0 ?_ | refine i_lc ?_ | refine i_iList ?_ | refine i_iTup ?_ | refine i_iStr ?_ | refine i_r1 ?_ | refine i_set ?_ | refine i_callk ?_ | refine i_callN ?_ | refine i_ckw ?_ | refine i_revL ?_ | refine i_tB ?_ | refine i_fld ?_ | refine i_sfld ?_ | refine i_make ?_ | refine i_makeN ?_ | refine i_meth ?_ | refine i_andV ?_ | refine i_orV ?_ | refine i_notV ?_ | refine iteT ?_ | refine iteF ?_ | refine i_yes ?_))
local macro_rules | `(tactic| walk_at "s") => `(tactic| repeat (first | walk_at "a" | refine i_var rfl ?_ | refine i_aug rfl ?_ | refine And.intro ⟨_, rfl⟩ ?_ | refine ⟨_, rfl, ?_⟩ | refine ⟨_, _, rfl, rfl, ?_⟩ | refine ⟨_, _, rfl, ?_⟩ | refine ⟨rfl, ?_⟩ | refine And.intro (by walk_at "c") ?_))
/-! ### parts with one thing otherwise -/
/-- boats and spans on their way -/
structure NrAt (H : Hp) (l1 l2 : Addr) (m : Nat) (rows : List (Str × Int)) (sp : List Int) : Prop where
  hl : ∃ xs, H l1 = some (.lst xs) ∧ Rws H xs rows
  sl : H l2 = some (.lst (sp.map V.int))
  ln : rows.length = m
  ls : sp.length = m + 1
  nm : ∀ r ∈ rows, LowN 8 r.1 ∧ 1 ≤ r.1.length
  br : ∀ r ∈ rows, 1 ≤ r.2 ∧ r.2 ≤ 1000000
  sb : ∀ z ∈ sp, 1 ≤ z
theorem NrAt.keep {H H' : Hp} {F l1 l2 : Addr} {m : Nat} {rows : List (Str × Int)} {sp : List Int} {ys : List V} (h : NrAt H l1 l2 m rows sp) (hT : H F = some (.lst ys)) (k : Keep F H H') (n1 : l1 ≠ F) (n2 : l2 ≠ F) : NrAt H' l1 l2 m rows sp := by
  obtain ⟨xs, e1, e2⟩ := h.hl
  exact ⟨⟨xs, k _ _ n1 e1, e2.mono fun a ts e => k _ _ (ne_of e hT (by intro z; cases z)) e⟩, k _ _ n2 h.sl, h.ln, h.ls, h.nm, h.br, h.sb⟩
theorem NrAt.same {H H' : Hp} {l1 l2 : Addr} {m : Nat} {rows : List (Str × Int)} {sp : List Int} (h : NrAt H l1 l2 m rows sp) (k : Same H H') : NrAt H' l1 l2 m rows sp := by
  obtain ⟨xs, e1, e2⟩ := h.hl
  exact ⟨⟨xs, k _ _ e1, e2.mono fun a ts e => k _ _ e⟩, k _ _ h.sl, h.ln, h.ls, h.nm, h.br, h.sb⟩
/-- what is known ahead of each way -/
structure NI (H0 H : Hp) (F c : Addr) (n : Nat) (q r s : Addr) (rows : List (Str × Int)) (spans : List Int) (l1 l2 : Addr) (rows' : List (Str × Int)) (sp' : List Int) : Prop where
  nr : NrAt H l1 l2 rows.length rows' sp'
  tp : Tape H F c n
  pa : PartsAt H q r s rows spans
  kp : Keep F H0 H
  n1 : l1 ≠ F
  n2 : l2 ≠ F
  c1 : l1 ≠ c
  c2 : l2 ≠ c
  d1 : l1 ≠ r
  d2 : l2 ≠ s
  d3 : l1 ≠ s
  d4 : l2 ≠ r
  d5 : l1 ≠ l2
  f1 : H0 l1 = none
  f2 : H0 l2 = none
section
variable {H0 H H' : Hp} {F c : Addr} {n : Nat} {q r s l1 l2 : Addr} {rows rows' rows2 : List (Str × Int)} {spans sp' sp2 : List Int}
theorem NI.same (h : NI H0 H F c n q r s rows spans l1 l2 rows' sp') (k : Same H H') : NI H0 H' F c n q r s rows spans l1 l2 rows' sp' :=
  ⟨h.nr.same k, h.tp.same k, h.pa.same k, h.kp.same k, h.n1, h.n2, h.c1, h.c2, h.d1, h.d2, h.d3, h.d4, h.d5, h.f1, h.f2⟩
theorem rws_upd {xs : List V} {l : Addr} {ys zs : List V} (h : Rws H xs rows2) (e : H l = some (.lst ys)) : Rws (upd H l (.lst zs)) xs rows2 :=
  h.mono fun a ts ea => by rw [upd_ne (ne_of ea e (by intro z; cases z))]; exact ea
theorem keep_upd {l : Addr} {o : HO} (k : Keep F H0 H) (f : H0 l = none) : Keep F H0 (upd H l o) := fun x o' nx e => by
  rw [upd_ne (fun z => by rw [z, f] at e; cases e)]; exact k x o' nx e
theorem NI.set1 (h : NI H0 H F c n q r s rows spans l1 l2 rows' sp') {xs : List V} (hx : Rws H xs rows2) (ln : rows2.length = rows.length) (nm : ∀ r ∈ rows2, LowN 8 r.1 ∧ 1 ≤ r.1.length) (br : ∀ r ∈ rows2, 1 ≤ r.2 ∧ r.2 ≤ 1000000) :
    NI H0 (upd H l1 (.lst xs)) F c n q r s rows spans l1 l2 rows2 sp' := by
  obtain ⟨ys, e1, e2⟩ := h.nr.hl
  obtain ⟨zs, g1, g2⟩ := h.pa.rw
  refine ⟨⟨⟨xs, upd_same, rws_upd hx e1⟩, by rw [upd_ne h.d5.symm]; exact h.nr.sl, ln, h.nr.ls, nm, br, h.nr.sb⟩, h.tp.upd h.n1 h.c1, ⟨?_, ⟨zs, by rw [upd_ne h.d1.symm]; exact g1, rws_upd g2 e1⟩, by rw [upd_ne h.d3.symm]; exact h.pa.sp⟩, keep_upd h.kp h.f1, h.n1, h.n2, h.c1, h.c2, h.d1, h.d2, h.d3, h.d4, h.d5, h.f1, h.f2⟩
  rw [upd_ne (ne_of h.pa.tp e1 (by intro z; cases z))]; exact h.pa.tp
theorem NI.set2 (h : NI H0 H F c n q r s rows spans l1 l2 rows' sp') (ls : sp2.length = rows.length + 1) (sb : ∀ z ∈ sp2, 1 ≤ z) :
    NI H0 (upd H l2 (.lst (sp2.map V.int))) F c n q r s rows spans l1 l2 rows' sp2 := by
  obtain ⟨ys, e1, e2⟩ := h.nr.hl
  obtain ⟨zs, g1, g2⟩ := h.pa.rw
  refine ⟨⟨⟨ys, by rw [upd_ne h.d5]; exact e1, rws_upd e2 h.nr.sl⟩, upd_same, h.nr.ln, ls, h.nr.nm, h.nr.br, sb⟩, h.tp.upd h.n2 h.c2, ⟨?_, ⟨zs, by rw [upd_ne h.d4.symm]; exact g1, rws_upd g2 h.nr.sl⟩, by rw [upd_ne h.d2.symm]; exact h.pa.sp⟩, keep_upd h.kp h.f2, h.n1, h.n2, h.c1, h.c2, h.d1, h.d2, h.d3, h.d4, h.d5, h.f1, h.f2⟩
  rw [upd_ne (ne_of h.pa.tp h.nr.sl (by intro z; cases z))]; exact h.pa.tp
theorem NI.new1 (h : NI H0 H F c n q r s rows spans l1 l2 rows' sp') {l : Addr} (hl : H l = none) {xs : List V} (hx : Rws H xs rows2) (ln : rows2.length = rows.length) (nm : ∀ r ∈ rows2, LowN 8 r.1 ∧ 1 ≤ r.1.length) (br : ∀ r ∈ rows2, 1 ≤ r.2 ∧ r.2 ≤ 1000000) :
    NI H0 (upd H l (.lst xs)) F c n q r s rows spans l l2 rows2 sp' := by
  have k := same_upd (o := .lst xs) hl
  have t := h.tp.ne hl
  have h2 := h.same k
  obtain ⟨zs, g1, g2⟩ := h.pa.rw
  have m1 : l ≠ r := fun e => by rw [e, g1] at hl; cases hl
  have m2 : l ≠ s := fun e => by rw [e, h.pa.sp] at hl; cases hl
  have m3 : l ≠ l2 := fun e => by rw [e, h.nr.sl] at hl; cases hl
  exact ⟨⟨⟨xs, upd_same, hx.mono fun a ts e => k _ _ e⟩, h2.nr.sl, ln, h.nr.ls, nm, br, h.nr.sb⟩, h2.tp, h2.pa, h2.kp, t, h.n2, h.tp.nec hl, h.c2, m1, h.d2, m2, h.d4, m3, h.kp.free hl t, h.f2⟩
theorem NI.draw (h : NI H0 H F c n q r s rows spans l1 l2 rows' sp') {n2' : Nat} (T : Tape H' F c n2') (k : Keep F H H') (nr : r ≠ F) (ns : s ≠ F) : NI H0 H' F c n2' q r s rows spans l1 l2 rows' sp' := by
  obtain ⟨ys, ey⟩ := h.tp.tape
  exact ⟨h.nr.keep ey k h.n1 h.n2, T, h.pa.keep ey k nr ns, h.kp.trans k, h.n1, h.n2, h.c1, h.c2, h.d1, h.d2, h.d3, h.d4, h.d5, h.f1, h.f2⟩
theorem cut_mid {xs : List V} {t k : Nat} (h : t ≤ xs.length) : cutV xs (some (t : Int)) (some ((t : Int) + (k : Nat))) = (xs.drop t).take k := by
  unfold cutV
  rw [show HT.sIx xs.length 0 (some (t : Int)) = min t xs.length from HT.sIx_nat xs.length 0 t, show HT.sIx xs.length xs.length (some ((t : Int) + (k : Nat))) = min (t + k) xs.length from HT.sIx_nat xs.length _ (t + k), Nat.min_eq_left h]
  rw [List.take_eq_take_iff, List.length_drop]
  omega
theorem cut_fromL {xs : List V} {t k : Nat} : cutV xs (some ((t : Int) + (k : Nat))) none = xs.drop (t + k) := by
  unfold cutV
  rw [show HT.sIx xs.length 0 (some ((t : Int) + (k : Nat))) = min (t + k) xs.length from HT.sIx_nat xs.length 0 (t + k), HT.sIx_none, List.take_of_length_le (by rw [List.length_drop]; exact Nat.le_refl _), List.drop_eq_drop_iff]
  omega
theorem swap_mem {α : Type} {l : List α} {a : Nat} {x : α} (h : x ∈ l.take a ++ ((l.drop a).take 2).reverse ++ l.drop (a + 2)) : x ∈ l := by
  rcases List.mem_append.mp h with h | h
  · rcases List.mem_append.mp h with h | h
    · exact List.mem_of_mem_take h
    · exact List.mem_of_mem_drop (List.mem_of_mem_take (List.mem_reverse.mp h))
  · exact List.mem_of_mem_drop h
theorem out_mem {α : Type} {l : List α} {a : Nat} {x : α} (h : x ∈ l.take a ++ l.drop (a + 1)) : x ∈ l := by
  rcases List.mem_append.mp h with h | h
  · exact List.mem_of_mem_take h
  · exact List.mem_of_mem_drop h
theorem Rws.drp {H : Hp} {xs : List V} {rs : List (Str × Int)} (h : Rws H xs rs) : ∀ k, Rws H (xs.drop k) (rs.drop k) := by
  induction h with
  | nil => intro k; rw [List.drop_nil, List.drop_nil]; exact .nil
  | cons e h2 ih =>
    intro k
    cases k with
    | zero => exact .cons e h2
    | succ k => exact ih k
theorem Rws.tke {H : Hp} {xs : List V} {rs : List (Str × Int)} (h : Rws H xs rs) : ∀ k, Rws H (xs.take k) (rs.take k) := by
  induction h with
  | nil => intro k; rw [List.take_nil, List.take_nil]; exact .nil
  | cons e h2 ih =>
    intro k
    cases k with
    | zero => exact .nil
    | succ k => exact .cons e (ih k)
theorem Rws.rev {H : Hp} {xs : List V} {rs : List (Str × Int)} (h : Rws H xs rs) : Rws H xs.reverse rs.reverse := by
  induction h with
  | nil => exact .nil
  | cons e h2 ih =>
    rw [List.reverse_cons, List.reverse_cons]
    exact ih.app (.cons e .nil)
theorem set_all {α : Type} {l : List α} {p : α → Prop} (h : ∀ x ∈ l, p x) {y : α} (hy : p y) (j : Nat) : ∀ x ∈ l.set j y, p x := fun x hx => by
  rcases List.mem_or_eq_of_mem_set hx with h1 | rfl
  · exact h x h1
  · exact hy
end
def NW (H0 : Hp) (F c : Addr) (n : Nat) (q r s : Addr) (rows : List (Str × Int)) (spans : List Int) (a b : Nat) (wy : Int) (who : Str) (bears : Int) : L2.St → Hp → Prop := fun σ H' => ∃ l1 l2 rows' sp', σ = [some (.ref F), some (.ref q), some (.ref l1), some (.ref l2), some (.int (a : Int)), some (.int wy), some (.str who), some (.int bears), some (.int (b : Int)), none, none] ∧
  NI H0 H' F c n q r s rows spans l1 l2 rows' sp'
def NF (H0 : Hp) (F c : Addr) (n : Nat) (q r s : Addr) (rows : List (Str × Int)) (spans : List Int) (a b : Nat) (wy : Int) (who : Str) (bears : Int) : L2.St → Hp → Prop := fun σ H' => ∃ l1 l2 m R S, σ = [some (.ref F), some (.ref q), some (.ref l1), some (.ref l2), some (.int (a : Int)), some (.int wy), some (.str who), some (.int bears), some (.int (b : Int)), none, none] ∧
  NrAt H' l1 l2 m R S ∧ 1 ≤ m ∧ m ≤ 10 ∧ Tape H' F c n ∧ PartsAt H' q r s rows spans ∧ Keep F H0 H' ∧ l1 ≠ F ∧ l2 ≠ F
section
variable {P : Program} {w : World} {K : PySem.W.Frag} {mg : Str → Option Value} {base : Heap} (T : Ev K mg)
def spNear : Sp := fun vs H Q _ => ∃ (F c : Addr) (n : Nat) (q r s : Addr) (rows : List (Str × Int)) (spans : List Int), vs = [.ref F, .ref q] ∧ n < 800000 ∧ Tape H F c n ∧ PartsAt H q r s rows spans ∧ Good rows spans ∧ (∀ x ∈ rows, LowN 8 x.1 ∧ 1 ≤ x.1.length) ∧ (∀ x ∈ rows, 1 ≤ x.2 ∧ x.2 ≤ 1000000) ∧ r ≠ F ∧ s ≠ F ∧
  ∀ (q' r' s' : Addr) (rows' : List (Str × Int)) (spans' : List Int) H', Good rows' spans' → (∀ x ∈ rows', LowN 8 x.1 ∧ 1 ≤ x.1.length) → (∀ x ∈ rows', 1 ≤ x.2 ∧ x.2 ≤ 1000000) → PartsAt H' q' r' s' rows' spans' → r' ≠ F → s' ≠ F → Tape H' F c (n + 60) → Keep F H H' → Q (.ref q') H'
theorem ok_law_near : FnOk P w K mg base CX0 3 T.f_law_near T.fd_law_near ["_law_tape_here", "_law_parts"] spNear := by
  refine T.F_law_near.ok scLNear (fun vs H Q E h => ?_) (fun cdv A outer s H vs Q E hr h => ?_)
  · obtain ⟨F, c, n, q, r, s, rows, spans, rfl, _⟩ := h
    rfl
  · obtain ⟨F, c, n, p, r, sp, rows, spans, rfl, hn, hT, hp, hg, hnm, hbr, nr, ns, q⟩ := h
    refine ⟨_,
      (pss_cons (ps_par (i := 2) (j := 3) rfl scLNear.nd rfl rfl (by decide) rfl rfl (pa_cons (pe_callTy call_list_of (by rfl) T.mlist (by decide +kernel) (pa_cons (pe_ix ix_tup (pv 1) pe_int (fun _ _ => rfl)) pa_nil)) (pa_cons (pe_callTy call_list_of (by rfl) T.mlist (by decide +kernel) (pa_cons (pe_ix ix_tup (pv 1) pe_int (fun _ _ => rfl)) pa_nil)) pa_nil)) (by rfl))
      (pss_cons (ps_par (i := 4) (j := 5) rfl scLNear.nd rfl rfl (by decide) rfl rfl (pa_cons (pe_call (ok_law_draw T) (hr.mono (by decide)) (by rfl) T.g_law_draw T.F_law_draw.kp T.b_law_draw .nil pass0 (pa_cons (pv 0) (pa_cons (pe_callB call_len_seq (by rfl) T.mlen PySem.boot_len (pa_cons (pv 2) pa_nil)) pa_nil))) (pa_cons (pe_call (ok_law_draw T) (hr.mono (by decide)) (by rfl) T.g_law_draw T.F_law_draw.kp T.b_law_draw .nil pass0 (pa_cons (pv 0) (pa_cons pe_int pa_nil))) pa_nil)) (by rfl))
      (pss_cons (ps_asg (pe_ix ix_list (pv 2) (pv 4) (fun _ _ => rfl)) (pg_tup rfl (pgs_cons (pg_name (i := 6) scLNear.nd rfl (.inl rfl)) (pgs_cons (pg_name (i := 7) scLNear.nd rfl (.inl rfl)) pgs_nil))))
      (pss_cons (ps_set (i := 8) scLNear.nd rfl (.inl rfl) (pe_call (ok_law_draw T) (hr.mono (by decide)) (by rfl) T.g_law_draw T.F_law_draw.kp T.b_law_draw .nil pass0 (pa_cons (pv 0) (pa_cons (pe_callB call_len_seq (by rfl) T.mlen PySem.boot_len (pa_cons (pv 2) pa_nil)) pa_nil))))
      (pss_cut (ps_if (pt_cmpR op_eq (pv 5) pe_int (nomark _))
      (pss_one (ps_asg (pe_tup (pa_cons (pv 6) (pa_cons (pe_op op_add pe_int (pe_op op_modN (pv 7) (pe_op op_pow pe_int pe_int))) pa_nil))) (pg_sub (pv 2) (pv 4) set_list)))
      pss_nil)
      (pss_cut (ps_if (pt_cmpR op_eq (pv 5) pe_int (nomark _))
      (pss_one (ps_asg (pe_tup (pa_cons (pe_op op_mulS pe_str (pe_op op_add pe_int (pe_call (ok_law_draw T) (hr.mono (by decide)) (by rfl) T.g_law_draw T.F_law_draw.kp T.b_law_draw .nil pass0 (pa_cons (pv 0) (pa_cons pe_int pa_nil))))) (pa_cons (pv 7) pa_nil))) (pg_sub (pv 2) (pv 4) set_list)))
      pss_nil)
      (pss_cut (ps_if (pt_cmpR op_eq (pv 5) pe_int (nomark _))
      (pss_one (ps_augS (pv 3) (pe_call (ok_law_draw T) (hr.mono (by decide)) (by rfl) T.g_law_draw T.F_law_draw.kp T.b_law_draw .nil pass0 (pa_cons (pv 0) (pa_cons (pe_callB call_len_seq (by rfl) T.mlen PySem.boot_len (pa_cons (pv 3) pa_nil)) pa_nil))) get_list pe_int ip_add set_list))
      pss_nil)
      (pss_cut (ps_if (pt_cmpR op_eq (pv 5) pe_int (nomark _))
      (pss_one (ps_set (i := 2) scLNear.nd rfl (.inl rfl) (pe_op op_cat (pe_op op_cat (pe_slice sl_list (pv 2) po_none (po_some (pv 4))) (pe_revL (pe_slice sl_list (pv 2) (po_some (pv 4)) (po_some (pe_op op_add (pv 4) pe_int))))) (pe_slice sl_list (pv 2) (po_some (pe_op op_add (pv 4) pe_int)) po_none))))
      pss_nil)
      (pss_cut (ps_if (pt_cmpR op_eq (pv 5) pe_int (nomark _))
      (pss_one (ps_asg (pe_tup (pa_cons (pe_ix ix_list (pv 3) (pe_op op_add (pv 8) pe_int) (fun _ _ => rfl)) (pa_cons (pe_ix ix_list (pv 3) (pv 4) (fun _ _ => rfl)) pa_nil))) (pg_tup rfl (pgs_cons (pg_sub (pv 3) (pv 4) set_list) (pgs_cons (pg_sub (pv 3) (pe_op op_add (pv 8) pe_int) set_list) pgs_nil)))))
      pss_nil)
      (pss_cut (ps_if (pt_cmpR op_eq (pv 5) pe_int (nomark _))
      (pss_cons (ps_asg (pe_tup (pa_cons (pv 6) (pa_cons (pe_ix ix_tup (pe_ix ix_list (pv 2) (pv 8) (fun _ _ => rfl)) pe_int (fun _ _ => rfl)) pa_nil))) (pg_sub (pv 2) (pv 4) set_list))
      (pss_one (ps_asg (pe_tup (pa_cons (pe_ix ix_tup (pe_ix ix_list (pv 2) (pv 8) (fun _ _ => rfl)) pe_int (fun _ _ => rfl)) (pa_cons (pv 7) pa_nil))) (pg_sub (pv 2) (pv 8) set_list))))
      pss_nil)
      (pss_cut (ps_if (PW.pt (pw_and (pt_cmpR op_eq (pv 5) pe_int (nomark _)) (pw_and1 (pt_cmpR op_gt (pe_callB call_len_seq (by rfl) T.mlen PySem.boot_len (pa_cons (pv 2) pa_nil)) pe_int (nomark _)))))
      (pss_cons (ps_set (i := 2) scLNear.nd rfl (.inl rfl) (pe_op op_cat (pe_slice sl_list (pv 2) po_none (po_some (pv 4))) (pe_slice sl_list (pv 2) (po_some (pe_op op_add (pv 4) pe_int)) po_none)))
      (pss_one (ps_set (i := 3) scLNear.nd rfl (.inl rfl) (pe_op op_cat (pe_slice sl_list (pv 3) po_none (po_some (pv 4))) (pe_slice sl_list (pv 3) (po_some (pe_op op_add (pv 4) pe_int)) po_none)))))
      pss_nil)
      (pss_cons (ps_set (i := 9) scLNear.nd rfl (.inl rfl) (pe_and (pe_cmpR op_eq (pe_callB call_lenT (by rfl) T.mlen PySem.boot_len (pa_cons (pe_callTy (cr_setT rfl) (by rfl) T.mset (by decide +kernel) (pa_cons (pe_lc (own := [("_law_one", 10)]) (g := gName 10) (tt := tYes) rfl scLNear.nd (pi_list (pv 2)) (blkOk_by (N := NLNear) (own := [("_law_one", 10)]) (sc := defScope sLNear) (by decide +kernel)) (fun _ _ _ _ _ => pg_name (i := 10) scLNear.nd rfl (Or.inl rfl)) (fun _ _ _ _ _ => pts_nil) (fun _ _ _ _ _ => (pe_ix (r := rIxT K) ix_tup (pv 10) pe_int (fun _ _ => rfl)))) pa_nil)) pa_nil)) (pe_callB call_len_seq (by rfl) T.mlen PySem.boot_len (pa_cons (pv 2) pa_nil)) (nomark _)) (pe_one (pe_cmpR op_le (pe_callB (cr_max rfl) (by rfl) T.mmax (by decide +kernel) (pa_cons (pv 3) pa_nil)) (pe_op op_pow pe_int pe_int) (nomark _)))))
      (pss_one (ps_ret (pe_ifExp (pt_truth (pv 9) (by intro _; rfl)) (pe_tup (pa_cons (pv 2) (pa_cons (pv 3) pa_nil))) (pv 1))))))))))))))))
      , ?_⟩
    obtain ⟨xs, er, hrw⟩ := hp.rw
    have hlx := hrw.len
    have hl0 := hg.l0
    have hl1 := hg.l1
    have hsl := hg.sl
    walk_at "s"
    refine i_ixT0 (SqT.of hp.tp) ?_
    walk_at "s"
    refine ⟨r, xs, rfl, .inl (SqL.of er), fun l1 hf1 => ?_⟩
    have T1 := hT.new (o := .lst xs) hf1
    have k1 := (Keep.refl (T := F) (H := H)).new (o := .lst xs) hf1
    have s1 := same_upd (o := .lst xs) hf1
    have el1 : (upd H l1 (.lst xs)) l1 = some (.lst xs) := upd_same
    have n1 := hT.ne hf1
    have n3 := hT.nec hf1
    have d3 : l1 ≠ sp := fun e => by rw [e, hp.sp] at hf1; cases hf1
    have d1 : l1 ≠ r := fun e => by rw [e, er] at hf1; cases hf1
    generalize upd H l1 (.lst xs) = H1 at T1 k1 s1 el1 ⊢
    walk_at "s"
    refine i_ixT1 (SqT.of (s1 _ _ hp.tp)) ?_
    walk_at "s"
    refine ⟨sp, _, rfl, .inl (SqL.of (s1 _ _ hp.sp)), fun l2 hf2 => ?_⟩
    have T2 := T1.new (o := .lst (spans.map V.int)) hf2
    have k2 := k1.new (o := .lst (spans.map V.int)) hf2
    have s2 := s1.trans (same_upd (o := .lst (spans.map V.int)) hf2)
    have el2 : (upd H1 l2 (.lst (spans.map V.int))) l2 = some (.lst (spans.map V.int)) := upd_same
    have n2 := T1.ne hf2
    have n4 := T1.nec hf2
    have d5 : l1 ≠ l2 := fun e => by rw [← e, el1] at hf2; cases hf2
    have d4 : l2 ≠ r := fun e => by rw [e, s1 _ _ er] at hf2; cases hf2
    have hf2' : H l2 = none := s1.free hf2
    have d2 : l2 ≠ sp := fun e => by rw [e, s1 _ _ hp.sp] at hf2; cases hf2
    have nr0 : NrAt (upd H1 l2 (.lst (spans.map V.int))) l1 l2 rows.length rows spans := ⟨⟨xs, (same_upd hf2) _ _ el1, hrw.mono fun a ts e => s2 _ _ e⟩, upd_same, rfl, hsl, hnm, hbr, fun z hz => (hg.sb z hz).1⟩
    have el1 := (same_upd (o := .lst (spans.map V.int)) hf2) _ _ el1
    have hp2 := hp.same s2
    generalize upd H1 l2 (.lst (spans.map V.int)) = H2 at T2 k2 s2 el1 el2 nr0 hp2 ⊢
    walk_at "s"
    refine ⟨l1, xs, rfl, .inl (SqL.of el1), ?_⟩
    walk_at "s"
    refine dr _ T2 (by omega) (by omega) (by omega) fun a0 H3 a1 a2 T3 k3 => ?_
    obtain ⟨a, rfl⟩ := Int.eq_ofNat_of_zero_le a1
    walk_at "s"
    refine dr _ T3 (by omega) (by omega) (by omega) fun wy H4 _ _ T4 k4 => ?_
    walk_at "s"
    have ha : a < rows.length := by omega
    obtain ⟨ta, ta1, ta2⟩ := (hrw.mono fun a ts e => s2 _ _ e : Rws H2 xs rows).at2 ha
    have k34 := k3.trans k4
    obtain ⟨y2, ey2⟩ := T2.tape
    have el14 := k34 _ _ n1 el1
    have nr4 := nr0.keep ey2 k34 n1 n2
    have hp4 := hp2.keep ey2 k34 nr ns
    have ta4 := k34 _ _ (ne_of ta2 ey2 (by intro z; cases z)) ta2
    refine i_ixLe a (SqL.of el14) rfl ta1 ?_
    refine ⟨ta, _, rfl, SqT.of ta4, rfl, ?_⟩
    have hwho := hnm _ (List.getElem_mem ha)
    have hbe := hbr _ (List.getElem_mem ha)
    generalize (rows[a]).1 = who at ta1 ta2 ta4 hwho ⊢
    generalize (rows[a]).2 = bears at ta2 ta4 hbe ⊢
    walk_at "s"
    refine ⟨l1, xs, rfl, .inl (SqL.of el14), ?_⟩
    walk_at "s"
    refine dr _ T4 (by omega) (by omega) (by omega) fun b0 H5 b1 b2 T5 k5 => ?_
    obtain ⟨b, rfl⟩ := Int.eq_ofNat_of_zero_le b1
    have hb : b < rows.length := by omega
    obtain ⟨y4, ey4⟩ := T4.tape
    have N5 : NI H H5 F c (n + 50) p r sp rows spans l1 l2 rows spans := ⟨nr4.keep ey4 k5 n1 n2, T5.mono (by omega), hp4.keep ey4 k5 nr ns, (k2.trans k34).trans k5, n1, n2, n3, n4, d1, d2, d3, d4, d5, hf1, hf2'⟩
    walk_at "s"
    refine ⟨NW H F c (n + 50) p r sp rows spans a b wy who bears, ?_, ?_⟩
    · walk_at "s"
      by_cases e : wy = 0
      · rw [decide_eq_true (congrArg V.int e)]
        refine ifT rfl ?_
        walk_at "s"
        refine ⟨(show (10 ^ (6 : Int).toNat : Int) ≠ 0 by decide), ?_⟩
        walk_at "s"
        intro t ht
        have Nt := N5.same (same_upd (o := .tup [.str who, .int (1 + bears.fmod (10 ^ (6 : Int).toNat))]) ht)
        obtain ⟨ys, g1, g2⟩ := Nt.nr.hl
        have gl := g2.len
        have gt : (upd H5 t (.tup [.str who, .int (1 + bears.fmod (10 ^ (6 : Int).toNat))])) t = some (.tup [.str who, .int (1 + bears.fmod (10 ^ (6 : Int).toNat))]) := upd_same
        walk_at "s"
        refine ⟨l1, ys, _, a, rfl, rfl, g1, ixN_nat (by omega), ?_⟩
        have z6 : (10 ^ (6 : Int).toNat : Int) = 1000000 := by decide
        have y0 := Int.fmod_nonneg (a := bears) (b := 10 ^ (6 : Int).toNat) (by omega) (by omega)
        have y1 := Int.fmod_lt_of_pos bears (b := 10 ^ (6 : Int).toNat) (by omega)
        exact ⟨l1, l2, _, _, rfl, Nt.set1 (g2.set (r := (who, 1 + bears.fmod (10 ^ (6 : Int).toNat))) gt a) (by rw [List.length_set]) (set_all Nt.nr.nm hwho a) (set_all Nt.nr.br ⟨by show 1 ≤ 1 + _; omega, by show 1 + _ ≤ 1000000; omega⟩ a)⟩
      · rw [decide_eq_false (fun z => e (V.int.inj z))]
        refine ifF rfl ?_
        exact ⟨l1, l2, rows, spans, rfl, N5⟩
    clear N5
    rintro σ H6 ⟨m1, m2, R6, S6, rfl, N6⟩
    refine ⟨NW H F c (n + 51) p r sp rows spans a b wy who bears, ?_, ?_⟩
    · walk_at "s"
      by_cases e : wy = 1
      · rw [decide_eq_true (congrArg V.int e)]
        refine ifT rfl ?_
        walk_at "s"
        refine dr _ N6.tp (by omega) (by omega) (by omega) fun d H7 d0 d1 T7 k7 => ?_
        obtain ⟨d, rfl⟩ := Int.eq_ofNat_of_zero_le d0
        have N7 := N6.draw T7 k7 nr ns
        walk_at "s"
        refine ⟨by show 1 + d ≤ 1048576; omega, fun z hz1 hz2 => ?_⟩
        have hz1 : z.length = ("q" : Str).length * (1 + d) := hz1
        have hq : LowN 8 z ∧ 1 ≤ z.length := by
          have e1 : ("q" : Str).length = 1 := by decide +kernel
          rw [e1] at hz1
          refine ⟨⟨by omega, fun cc hc => ?_⟩, by omega⟩
          have h := hz2 cc hc
          have e2 : ("q" : Str).cps.toList = [113] := by decide +kernel
          rw [e2, List.mem_singleton] at h
          rw [h]; decide
        walk_at "s"
        intro t ht
        have Nt := N7.same (same_upd (o := .tup [.str z, .int bears]) ht)
        obtain ⟨ys, g1, g2⟩ := Nt.nr.hl
        have gl := g2.len
        have gn := Nt.nr.ln
        have gt : (upd H7 t (.tup [.str z, .int bears])) t = some (.tup [.str z, .int bears]) := upd_same
        walk_at "s"
        refine ⟨m1, ys, _, a, rfl, rfl, g1, ixN_nat (by omega), ?_⟩
        exact ⟨m1, m2, _, _, rfl, Nt.set1 (g2.set (r := (z, bears)) gt a) (by rw [List.length_set]; exact gn) (set_all Nt.nr.nm hq a) (set_all Nt.nr.br hbe a)⟩
      · rw [decide_eq_false (fun z => e (V.int.inj z))]
        refine ifF rfl ?_
        exact ⟨m1, m2, R6, S6, rfl, { N6 with tp := N6.tp.mono (by omega) }⟩
    rintro σ H6 ⟨m1, m2, R6, S6, rfl, N6⟩
    refine ⟨NW H F c (n + 52) p r sp rows spans a b wy who bears, ?_, ?_⟩
    · walk_at "s"
      by_cases e : wy = 2
      · rw [decide_eq_true (congrArg V.int e)]
        refine ifT rfl ?_
        walk_at "s"
        have gs := N6.nr.ls
        refine ⟨m2, _, rfl, .inl (SqL.of N6.nr.sl), ?_⟩
        walk_at "s"
        rw [List.length_map]
        refine dr _ N6.tp (by omega) (by omega) (by omega) fun d H7 d0 d1 T7 k7 => ?_
        obtain ⟨d, rfl⟩ := Int.eq_ofNat_of_zero_le d0
        have N7 := N6.draw T7 k7 nr ns
        have hd : d < S6.length := by omega
        refine ⟨m2, _, _, d, .int S6[d], rfl, rfl, rfl, N7.nr.sl, by rw [List.getElem?_map, List.getElem?_eq_getElem hd]; rfl, ?_⟩
        walk_at "s"
        refine ⟨m2, _, _, d, rfl, rfl, N7.nr.sl, ixN_nat (by rw [List.length_map]; omega), ?_⟩
        refine ⟨m1, m2, R6, S6.set d (S6[d] + 1), rfl, ?_⟩
        have z := N7.set2 (sp2 := S6.set d (S6[d] + 1)) (by rw [List.length_set]; exact gs) (set_all N7.nr.sb (by have := N7.nr.sb _ (List.getElem_mem hd); omega) d)
        rw [List.map_set] at z
        exact z
      · rw [decide_eq_false (fun z => e (V.int.inj z))]
        refine ifF rfl ?_
        exact ⟨m1, m2, R6, S6, rfl, { N6 with tp := N6.tp.mono (by omega) }⟩
    rintro σ H6 ⟨m1, m2, R6, S6, rfl, N6⟩
    refine ⟨NW H F c (n + 52) p r sp rows spans a b wy who bears, ?_, ?_⟩
    · walk_at "s"
      by_cases e : wy = 3
      · rw [decide_eq_true (congrArg V.int e)]
        refine ifT rfl ?_
        walk_at "s"
        obtain ⟨ys, g1, g2⟩ := N6.nr.hl
        have gl := g2.len
        have gn := N6.nr.ln
        refine ⟨m1, ys, rfl, SqL.of g1, fun l3 h3 => ?_⟩
        rw [cut_to (t := a) (by omega)]
        have u3 := same_upd (o := .lst (ys.take a)) h3
        have e3 : (upd H6 l3 (.lst (ys.take a))) l3 = some (.lst (ys.take a)) := upd_same
        generalize upd H6 l3 (.lst (ys.take a)) = H7 at u3 e3 ⊢
        walk_at "s"
        refine ⟨m1, ys, rfl, SqL.of (u3 _ _ g1), fun l4 h4 => ?_⟩
        rw [show cutV ys (some (a : Int)) (some ((a : Int) + 2)) = (ys.drop a).take 2 from cut_mid (k := 2) (by omega)]
        have u4 := same_upd (o := .lst ((ys.drop a).take 2)) h4
        have e4 : (upd H7 l4 (.lst ((ys.drop a).take 2))) l4 = some (.lst ((ys.drop a).take 2)) := upd_same
        generalize upd H7 l4 (.lst ((ys.drop a).take 2)) = H8 at u4 e4 ⊢
        refine ⟨l4, _, rfl, SqL.of e4, fun l5 h5 => ?_⟩
        refine ⟨l3, l5, _, _, rfl, rfl, upd_at h5 (u4 _ _ e3), upd_same, le_line (by simp only [List.length_take, List.length_reverse, List.length_drop]; omega), fun l6 h6 => ?_⟩
        have u6 := ((u3.trans u4).trans (same_upd (o := .lst ((ys.drop a).take 2).reverse) h5)).trans (same_upd (o := .lst (ys.take a ++ ((ys.drop a).take 2).reverse)) h6)
        have e6 : (upd (upd H8 l5 (.lst ((ys.drop a).take 2).reverse)) l6 (.lst (ys.take a ++ ((ys.drop a).take 2).reverse))) l6 = some (.lst (ys.take a ++ ((ys.drop a).take 2).reverse)) := upd_same
        generalize upd (upd H8 l5 (.lst ((ys.drop a).take 2).reverse)) l6 (.lst (ys.take a ++ ((ys.drop a).take 2).reverse)) = H9 at u6 e6 ⊢
        walk_at "s"
        refine ⟨m1, ys, rfl, SqL.of (u6 _ _ g1), fun l7 h7 => ?_⟩
        rw [show cutV ys (some ((a : Int) + 2)) none = ys.drop (a + 2) from cut_fromL]
        refine ⟨l6, l7, _, _, rfl, rfl, upd_at h7 e6, upd_same, le_line (by simp only [List.length_append, List.length_take, List.length_reverse, List.length_drop]; omega), fun l8 h8 => ?_⟩
        have u8 := u6.trans (same_upd (o := .lst (ys.drop (a + 2))) h7)
        have N8 := N6.same u8
        have g8 : Rws (upd H9 l7 (.lst (ys.drop (a + 2)))) ys R6 := g2.mono fun a ts e => u8 _ _ e
        refine ⟨l8, m2, R6.take a ++ ((R6.drop a).take 2).reverse ++ R6.drop (a + 2), S6, rfl, N8.new1 h8 (((g8.tke a).app ((g8.drp a).tke 2).rev).app (g8.drp (a + 2))) ?_ ?_ ?_⟩
        · simp only [List.length_append, List.length_take, List.length_reverse, List.length_drop]; omega
        · exact fun x hx => N6.nr.nm x (swap_mem hx)
        · exact fun x hx => N6.nr.br x (swap_mem hx)
      · rw [decide_eq_false (fun z => e (V.int.inj z))]
        refine ifF rfl ?_
        exact ⟨m1, m2, R6, S6, rfl, N6⟩
    rintro σ H6 ⟨m1, m2, R6, S6, rfl, N6⟩
    refine ⟨NW H F c (n + 52) p r sp rows spans a b wy who bears, ?_, ?_⟩
    · walk_at "s"
      by_cases e : wy = 6
      · rw [decide_eq_true (congrArg V.int e)]
        refine ifT rfl ?_
        walk_at "s"
        have gs := N6.nr.ls
        have hd : a < S6.length := by omega
        have he : b + 1 < S6.length := by omega
        refine i_ixLe (b + 1) (v := .int S6[b + 1]) (SqL.of N6.nr.sl) (by omega) (by rw [List.getElem?_map, List.getElem?_eq_getElem he]; rfl) ?_
        walk_at "s"
        refine i_ixLe a (v := .int S6[a]) (SqL.of N6.nr.sl) rfl (by rw [List.getElem?_map, List.getElem?_eq_getElem hd]; rfl) ?_
        walk_at "s"
        intro t ht
        have Nt := N6.same (same_upd (o := .tup [.int S6[b + 1], .int S6[a]]) ht)
        refine ⟨t, _, rfl, SqT.of upd_same, rfl, ?_⟩
        walk_at "s"
        refine ⟨m2, _, _, a, rfl, rfl, Nt.nr.sl, ixN_nat (by rw [List.length_map]; omega), ?_⟩
        have z := Nt.set2 (sp2 := S6.set a S6[b + 1]) (by rw [List.length_set]; exact gs) (set_all Nt.nr.sb (Nt.nr.sb _ (List.getElem_mem he)) a)
        rw [List.map_set] at z
        walk_at "s"
        have zsl := z.nr.sl
        rw [List.map_set] at zsl
        refine ⟨m2, _, _, b + 1, rfl, by rw [Int.natCast_add]; rfl, zsl, ixN_nat (by rw [List.length_set, List.length_map]; omega), ?_⟩
        have z2 := z.set2 (sp2 := (S6.set a S6[b + 1]).set (b + 1) S6[a]) (by rw [List.length_set, List.length_set]; exact gs) (set_all z.nr.sb (Nt.nr.sb _ (List.getElem_mem hd)) (b + 1))
        rw [List.map_set, List.map_set] at z2
        exact ⟨rfl, m1, m2, R6, _, rfl, z2⟩
      · rw [decide_eq_false (fun z => e (V.int.inj z))]
        refine ifF rfl ?_
        exact ⟨m1, m2, R6, S6, rfl, N6⟩
    rintro σ H6 ⟨m1, m2, R6, S6, rfl, N6⟩
    refine ⟨NW H F c (n + 52) p r sp rows spans a b wy who bears, ?_, ?_⟩
    · walk_at "s"
      by_cases e : wy = 7
      · rw [decide_eq_true (congrArg V.int e)]
        refine ifT rfl ?_
        walk_at "s"
        obtain ⟨ys, g1, g2⟩ := N6.nr.hl
        have gl := g2.len
        have gn := N6.nr.ln
        have hb6 : b < R6.length := by omega
        obtain ⟨tb, tb1, tb2⟩ := g2.at2 hb6
        refine i_ixLe b (SqL.of g1) rfl tb1 ?_
        walk_at "s"
        refine i_ixT1 (SqT.of tb2) ?_
        walk_at "s"
        intro t ht
        have u1 := same_upd (o := .tup [.str who, .int (R6[b]).2]) ht
        have gt : (upd H6 t (.tup [.str who, .int (R6[b]).2])) t = some (.tup [.str who, .int (R6[b]).2]) := upd_same
        have Nt := N6.same u1
        have gt2 : Rws (upd H6 t (.tup [.str who, .int (R6[b]).2])) ys R6 := g2.mono fun a ts e => u1 _ _ e
        walk_at "s"
        refine ⟨m1, ys, _, a, rfl, rfl, u1 _ _ g1, ixN_nat (by omega), ?_⟩
        have z := Nt.set1 (gt2.set (r := (who, (R6[b]).2)) gt a) (by rw [List.length_set]; exact gn) (set_all Nt.nr.nm hwho a) (set_all (y := (who, (R6[b]).2)) Nt.nr.br (show 1 ≤ (R6[b]).2 ∧ (R6[b]).2 ≤ 1000000 from Nt.nr.br _ (List.getElem_mem hb6)) a)
        generalize R6.set a (who, (R6[b]).2) = R7 at z ⊢
        generalize upd (upd H6 t (.tup [.str who, .int (R6[b]).2])) m1 (.lst (ys.set a (.ref t))) = H7 at z ⊢
        obtain ⟨zs, f1, f2⟩ := z.nr.hl
        have fl := f2.len
        have fn := z.nr.ln
        have hb7 : b < R7.length := by omega
        obtain ⟨tc, tc1, tc2⟩ := f2.at2 hb7
        walk_at "s"
        refine i_ixLe b (SqL.of f1) rfl tc1 ?_
        walk_at "s"
        refine i_ixT0 (SqT.of tc2) ?_
        walk_at "s"
        intro t2 ht2
        have u2 := same_upd (o := .tup [.str (R7[b]).1, .int bears]) ht2
        have gt2' : (upd H7 t2 (.tup [.str (R7[b]).1, .int bears])) t2 = some (.tup [.str (R7[b]).1, .int bears]) := upd_same
        have N2 := z.same u2
        have f22 : Rws (upd H7 t2 (.tup [.str (R7[b]).1, .int bears])) zs R7 := f2.mono fun a ts e => u2 _ _ e
        walk_at "s"
        refine ⟨m1, zs, _, b, rfl, rfl, u2 _ _ f1, ixN_nat (by omega), ?_⟩
        exact ⟨m1, m2, _, _, rfl, N2.set1 (f22.set (r := ((R7[b]).1, bears)) gt2' b) (by rw [List.length_set]; exact fn) (set_all (y := ((R7[b]).1, bears)) N2.nr.nm (show LowN 8 (R7[b]).1 ∧ 1 ≤ (R7[b]).1.length from N2.nr.nm _ (List.getElem_mem hb7)) b) (set_all N2.nr.br hbe b)⟩
      · rw [decide_eq_false (fun z => e (V.int.inj z))]
        refine ifF rfl ?_
        exact ⟨m1, m2, R6, S6, rfl, N6⟩
    rintro σ H6 ⟨m1, m2, R6, S6, rfl, N6⟩
    have gs := N6.nr.ls
    have gn := N6.nr.ln
    have stay : NF H F c (n + 52) p r sp rows spans a b wy who bears [some (.ref F), some (.ref p), some (.ref m1), some (.ref m2), some (.int (a : Int)), some (.int wy), some (.str who), some (.int bears), some (.int (b : Int)), none, none] H6 := ⟨m1, m2, rows.length, R6, S6, rfl, N6.nr, hl0, hl1, N6.tp, N6.pa, N6.kp, N6.n1, N6.n2⟩
    refine ⟨NF H F c (n + 52) p r sp rows spans a b wy who bears, ?_, ?_⟩
    · walk_at "s"
      by_cases e : wy = 4
      · rw [decide_eq_true (congrArg V.int e)]
        obtain ⟨ys, g1, g2⟩ := N6.nr.hl
        have gl := g2.len
        walk_at "s"
        refine ⟨m1, ys, rfl, .inl (SqL.of g1), ?_⟩
        walk_at "s"
        by_cases c1 : (1 : Int) < ((ys.length : Nat) : Int)
        · rw [decide_eq_true c1]
          refine ifT rfl ?_
          walk_at "s"
          refine ⟨m1, ys, rfl, SqL.of g1, fun l3 h3 => ?_⟩
          rw [cut_to (t := a) (by omega)]
          have u3 := same_upd (o := .lst (ys.take a)) h3
          have e3 : (upd H6 l3 (.lst (ys.take a))) l3 = some (.lst (ys.take a)) := upd_same
          generalize upd H6 l3 (.lst (ys.take a)) = H7 at u3 e3 ⊢
          walk_at "s"
          refine ⟨m1, ys, rfl, SqL.of (u3 _ _ g1), fun l4 h4 => ?_⟩
          rw [show cutV ys (some ((a : Int) + 1)) none = ys.drop (a + 1) from cut_fromL]
          refine ⟨l3, l4, _, _, rfl, rfl, upd_at h4 e3, upd_same, le_line (by simp only [List.length_take, List.length_drop]; omega), fun l5 h5 => ?_⟩
          have u4 := u3.trans (same_upd (o := .lst (ys.drop (a + 1))) h4)
          have u5 := u4.trans (same_upd (o := .lst (ys.take a ++ ys.drop (a + 1))) h5)
          have nl5 : l5 ≠ F := (N6.tp.same u4).ne h5
          have e5 : (upd (upd H7 l4 (.lst (ys.drop (a + 1)))) l5 (.lst (ys.take a ++ ys.drop (a + 1)))) l5 = some (.lst (ys.take a ++ ys.drop (a + 1))) := upd_same
          generalize upd (upd H7 l4 (.lst (ys.drop (a + 1)))) l5 (.lst (ys.take a ++ ys.drop (a + 1))) = H8 at u5 e5 ⊢
          walk_at "s"
          have sl8 := u5 _ _ N6.nr.sl
          refine ⟨m2, _, rfl, SqL.of sl8, fun l6 h6 => ?_⟩
          rw [cut_to (t := a) (by rw [List.length_map]; omega)]
          have u6 := same_upd (o := .lst ((S6.map V.int).take a)) h6
          have e6 : (upd H8 l6 (.lst ((S6.map V.int).take a))) l6 = some (.lst ((S6.map V.int).take a)) := upd_same
          generalize upd H8 l6 (.lst ((S6.map V.int).take a)) = H9 at u6 e6 ⊢
          walk_at "s"
          refine ⟨m2, _, rfl, SqL.of (u6 _ _ sl8), fun l7 h7 => ?_⟩
          rw [show cutV (S6.map V.int) (some ((a : Int) + 1)) none = (S6.map V.int).drop (a + 1) from cut_fromL]
          refine ⟨l6, l7, _, _, rfl, rfl, upd_at h7 e6, upd_same, le_line (by simp only [List.length_take, List.length_drop, List.length_map]; omega), fun l8 h8 => ?_⟩
          have u7 := u5.trans (u6.trans (same_upd (o := .lst ((S6.map V.int).drop (a + 1))) h7))
          have nl8 : l8 ≠ F := (N6.tp.same u7).ne h8
          have u8 := u7.trans (same_upd (o := .lst ((S6.map V.int).take a ++ (S6.map V.int).drop (a + 1))) h8)
          have N8 := N6.same u8
          refine ⟨l5, l8, rows.length - 1, R6.take a ++ R6.drop (a + 1), S6.take a ++ S6.drop (a + 1), rfl, ⟨⟨_, (same_upd h8) _ _ ((same_upd h7) _ _ (u6 _ _ e5)), ?_⟩, ?_, ?_, ?_, fun x hx => N6.nr.nm x (out_mem hx), fun x hx => N6.nr.br x (out_mem hx), fun x hx => N6.nr.sb x (out_mem hx)⟩, by omega, by omega, N8.tp, N8.pa, N8.kp, nl5, nl8⟩
          · have g8 : Rws _ ys R6 := g2.mono fun a ts e => u8 _ _ e
            exact (g8.tke a).app (g8.drp (a + 1))
          · rw [upd_same, List.map_append, List.map_take, List.map_drop]
          · simp only [List.length_append, List.length_take, List.length_drop]; omega
          · simp only [List.length_append, List.length_take, List.length_drop]; omega
        · rw [decide_eq_false c1]
          refine ifF rfl ?_
          exact stay
      · rw [decide_eq_false (fun z => e (V.int.inj z))]
        refine ifF rfl ?_
        exact stay
    clear stay N6 gs gn
    rintro σ H6 ⟨m1, m2, m, R, S, rfl, N, hm1, hm10, T6, P6, K6, x1, x2⟩
    obtain ⟨ys, g1, g2⟩ := N.hl
    have gl := g2.len
    have gn := N.ln
    have gs := N.ls
    walk_at "s"
    refine ⟨⟨_, SqL.of g1⟩, fun D hD => ?_⟩
    refine lc_list (K := K) (a := m1) (xs := ys) (fun k H' => H' D = some (.lst (((R.take k).map Prod.fst).map V.str)) ∧ Same H6 H') ⟨upd_same, same_upd hD⟩ (fun k H' _ z => SqL.of (z.2 _ _ g1)) ?_ ?_
    · rintro k y H' hy ⟨eD, si⟩
      obtain ⟨tk, r0, rfl, hr0, htk⟩ := g2.at hy
      walk_at "s"
      refine i_ixT0 (SqT.of (si _ _ htk)) ?_
      refine ⟨_, eD, lt_line (by rw [List.length_map, List.length_map, List.length_take]; omega), ?_, app_same hD si⟩
      rw [upd_same, List.take_succ, hr0, Option.toList_some, List.map_append, List.map_append]
      rfl
    rintro H7 ⟨eD, s7⟩
    rw [List.take_of_length_le (by omega)] at eD
    walk_at "s"
    refine ⟨D, R.map Prod.fst, rfl, SqL.of eD, by rw [List.length_map]; omega, fun st cc hst hcc => ?_⟩
    rw [List.length_map] at hcc
    have s8 := s7.trans (same_upd (o := SetT P w st (fun j => decide (j ∈ R.map Prod.fst)) cc) hst)
    walk_at "s"
    refine ⟨st, _, cc, rfl, upd_same, ?_⟩
    walk_at "s"
    refine ⟨m1, ys, rfl, .inl (SqL.of (s8 _ _ g1)), ?_⟩
    walk_at "s"
    have good : (R.map Prod.fst).Nodup → (∀ z ∈ S, z ≤ 1000000) → Good R S := fun c1 c2 => ⟨by omega, by omega, c1, by omega, fun z hz => ⟨N.sb z hz, c2 z hz⟩⟩
    have P8 := P6.same s8
    have T8 := T6.same s8
    have K8 := K6.same s8
    have miss : ∀ Q' : Prop, Q' → Q' := fun _ x => x
    by_cases nd : (R.map Prod.fst).Nodup
    · have ec : cc = R.length := hcc.2.mpr nd
      rw [decide_eq_true (by rw [ec, gl])]
      refine ifT rfl ?_
      walk_at "s"
      refine ⟨m2, S, rfl, SqL.of (s8 _ _ N.sl), by omega, fun mx hmx hle => ?_⟩
      walk_at "s"
      by_cases c2 : mx ≤ 10 ^ (6 : Int).toNat
      · rw [decide_eq_true c2]
        refine ifT rfl ?_
        walk_at "s"
        intro t ht
        have z6 : (10 ^ (6 : Int).toNat : Int) = 1000000 := by decide
        have s9 := s8.trans (same_upd (o := .tup [.ref m1, .ref m2]) ht)
        have N9 := N.same s9
        exact q t m1 m2 R S _ (good nd fun z hz => by have := hle z hz; omega) N.nm N.br ⟨upd_same, N9.hl, N9.sl⟩ x1 x2 ((T6.same s9).mono (by omega)) (K6.same s9)
      · rw [decide_eq_false c2]
        refine ifF rfl ?_
        walk_at "s"
        exact q p r sp rows spans _ hg hnm hbr P8 nr ns (T8.mono (by omega)) K8
    · have ec : ¬ cc = R.length := fun e => nd (hcc.2.mp e)
      rw [decide_eq_false (fun z => ec (by have := V.int.inj z; omega))]
      refine ifF rfl ?_
      walk_at "s"
      exact q p r sp rows spans _ hg hnm hbr P8 nr ns (T8.mono (by omega)) K8
end
set_option maxHeartbeats 8000000
local macro_rules | `(tactic| walk_at "c") => `(tactic| first | omega | decide | exact ⟨by omega, by omega⟩ | exact ⟨by decide, by decide⟩ | exact .inl ⟨by omega, by omega⟩ | exact .inr ⟨by omega, by omega⟩ | exact ⟨by omega, by omega, by omega⟩ | exact ⟨by decide, by decide, by decide⟩ | exact le_line (Nat.le_of_ble_eq_true rfl))
local macro_rules | `(tactic| walk_at "a") => `(tactic| with_reducible (first | refine i_seq ?_ | refine i_asg ?_ | refine i_cons ?_ | refine i_c ?_ | refine i_nil ?_ | refine i_op ?_ | refine i_call ?_ | refine i_cb ?_ | refine i_name ?_ | refine i_next ?_ | refine i_ret ?_ | refine i_drop ?_ | refine i_if ?_ | refine i_test ?_ | refine i_and ?_ | refine i_or ?_ | refine i_not ?_ | refine i_ite ?_ | refine i_lst ?_ | refine i_tup ?_ | refine i_bm ?_ | refine i_un ?_ | refine i_par ?_ | refine i_gsub ?_ | refine i_chain ?_ | refine i_sl ?_ | refine i_nopart ?_ | refine i_part ?_ | refine i_m1 ?_ | refine i_m0 ?_ | refine i_lc ?_ | refine i_iList ?_ | refine i_iTup ?_ | refine i_iStr ?_ | refine i_r1 ?_ | refine i_set ?_ | refine i_callk ?_ | refine i_callN ?_ | refine i_ckw ?_ | refine i_revL ?_ | refine i_tB ?_ | refine i_fld ?_ | refine i_sfld ?_ | refine i_make ?_ | refine i_makeN ?_ | refine i_meth ?_ | refine i_andV ?_ | refine i_orV ?_ | refine i_notV ?_ | refine iteT ?_ | refine iteF ?_ | refine i_yes ?_))
local macro_rules | `(tactic| walk_at "s") => `(tactic| repeat (first | walk_at "a" | refine i_var rfl ?_ | refine i_aug rfl ?_ | refine And.intro ⟨_, rfl⟩ ?_ | refine ⟨_, rfl, ?_⟩ | refine ⟨_, _, rfl, rfl, ?_⟩ | refine ⟨_, _, rfl, ?_⟩ | refine ⟨rfl, ?_⟩ | refine And.intro (by walk_at "c") ?_))
/-! ### the Boat of a name, or the refusal -/
section
variable {P : Program} {w : World} {K : PySem.W.Frag} {mg : Str → Option Value} {base : Heap} (T : Ev K mg)
/-- a thing, or a text -/
theorem Thing.any {K : PySem.W.Frag} {F : Addr} {H : Hp} {y : V} {d : PyData} (h : Thing F H y d) : AnyT K H y := by
  cases h with
  | th a b c => exact .inl ⟨d, a.dp, b⟩
  | dc n e c => exact .inr ⟨_, _, rfl, e⟩
theorem thing_str {F : Addr} {H : Hp} {z : Str} (h : PyData.strOk z = true) (l : z.length ≤ 20) : Thing F H (.str z) (.str z) := by
  have o := okd_str (n := 20) h l
  exact .th (.str z) (o.shaped) ⟨o.sho, Nat.le_trans o.len (by decide)⟩
theorem xcNoBoat : ExcC K T.CNoBoat := ⟨T.gaNoBoat, T.ggNoBoat, T.exNoBoat, T.hdNoBoat, T.haNoBoat, T.hnNoBoat, T.htNoBoat, T.hmNoBoat⟩
def spNamed : Sp := fun vs H Q _ => ∃ (p bl sl F : Addr) (y : V) (d : PyData) (rows : List (Str × Int)) (spans : List Int), vs = [.ref p, y] ∧ BrAt T.CBoat T.CBridge H p bl sl rows spans ∧ (∀ r ∈ rows, LowN 8 r.1) ∧ Thing F H y d ∧
  (∀ (t a : Addr) (i : Nat) r H', Same H H' → rows[i]? = some r → y = .str r.1 → BoatAt T.CBoat H' a r.1 r.2 → H' t = some (.tup [.str "told", .ref a]) → Q (.ref t) H') ∧
  ((∀ r ∈ rows, y ≠ .str r.1) → ∀ t H', Same H H' → H' t = some (.tup [.str "refused", y]) → Q (.ref t) H')
theorem ok_law_named : FnOk P w K mg base CX0 6 T.f_law_named T.fd_law_named ["_law_bridge", "_law_thing"] (spNamed T) := by
  refine T.F_law_named.ok scNamed (fun vs H Q E h => ?_) (fun cdv A outer s H vs Q E hr h => ?_)
  · obtain ⟨p, bl, sl, F, y, d, rows, spans, rfl, _⟩ := h
    rfl
  · obtain ⟨p, bl, sl, F, y, d, rows, spans, rfl, hp, hlow, hy, q1, q2⟩ := h
    refine ⟨_,
      (pss_cons (ps_asg (pe_tup (pa_cons pe_non (pa_cons pe_non pa_nil))) (pg_tup rfl (pgs_cons (pg_name (i := 2) scNamed.nd rfl (.inl rfl)) (pgs_cons (pg_name (i := 3) scNamed.nd rfl (.inl rfl)) pgs_nil))))
      (pss_cons (ps_try_keep (i := 4) (tb := (tbSetM T.CBridge "boat" (spBoat K T.CBoat T.CBridge T.CNoBoat) (tVar 0) (tCons (tVar 1) tNil) 2)) (ts := fun _ _ _ => tAsg (tVar 4) (gName 3)) rfl rfl rfl scNamed.nd rfl rfl ⟨rfl, by decide, .inl T.gCNoBoat⟩
      (fun W pn xe tk _ => pss_imp (pss_one (ps_set (i := 2) scNamed.nd rfl (.inl rfl) (pe_methSd (pv 0) (cl_Bridge T) (mt_Bridge_boat T) (okBridge_boat T) (hr.mono (by decide)) T.bBridge_boat (fun σ => passAt tk σ) (pa_cons (pv 1) pa_nil)))) ?imp)
      (fun a cls d pn => pss_one (ps_set (i := 3) scNamed.nd rfl (Or.inl rfl) (pv 4))))
      (pss_cons (ps_if (pt_cmpR op_isN (pv 3) pe_non (nomark _))
      (pss_one (ps_ret (pe_tup (pa_cons pe_str (pa_cons (pv 2) pa_nil)))))
      pss_nil)
      (pss_cons (ps_if (PW.pt (pw_or (pt_not (pt_val (pe_callB call_isN (by rfl) T.misinstance (by decide +kernel) (pa_cons (pv 3) (pa_cons (pe_bltn (v := .ty "KeyError") (u := .type "KeyError") (by rfl) T.mKeyError (by decide +kernel) rfl) pa_nil))))) (pw_or1 (pt_val (pe_callB call_isNT (by rfl) T.misinstance (by decide +kernel) (pa_cons (pv 3) (pa_cons (pe_tup (pa_cons (pe_glob (v := .ref T.CNoBridge) (by rfl) T.gCNoBridge rfl) (pa_cons (pe_glob (v := .ref T.CNoSpan) (by rfl) T.gCNoSpan rfl) (pa_cons (pe_glob (v := .ref T.COverload) (by rfl) T.gCOverload rfl) (pa_cons (pe_glob (v := .ref T.CTaken) (by rfl) T.gCTaken rfl) pa_nil))))) pa_nil)))))))
      (pss_one (ps_ret (pe_tup (pa_cons pe_str (pa_cons pe_non pa_nil)))))
      pss_nil)
      (pss_one (ps_ret (pe_tup (pa_cons pe_str (pa_cons (pe_fldX (pv 3) rfl) pa_nil)))))))))
      , ?main⟩
    case imp => exact fun D σ H h => h
    case main =>
      obtain ⟨dx, bs, e1, e2, e3⟩ := id hp.ex
      walk_at "s"
      intro t0 ht0
      refine ⟨t0, _, rfl, SqT.of upd_same, rfl, ?_⟩
      have s0 : Same H (upd H t0 (.tup [.non, .non])) := same_upd ht0
      generalize upd H t0 (.tup [.non, .non]) = H0 at s0
      walk_at "s"
      refine ⟨p, dx, _, rfl, s0 _ _ e1, brF_no bl sl (by decide +kernel) (by decide +kernel), ?_⟩
      walk_at "s"
      refine ⟨p, bl, sl, y, rows, spans, rfl, hp.same s0, hlow, (hy.same s0).any, fun a i r hi ey hb => ?_, fun hno d0 H1 s1 ed => ⟨exm_hit T.exNoBoat T.icNoBoat T.tyNoBoat T.seNoBoat, fun e hne => ?_⟩⟩
      · walk_at "s"
        intro t ht
        exact q1 t a i r _ (s0.trans (same_upd ht)) hi ey (hb.elim fun dz ez => ⟨dz, (same_upd ht) _ _ ez⟩) upd_same
      · have kp : KeptE (upd H1 e (keptX (.ref T.CNoBoat) (some d0) e)) e T.CNoBoat (x1F "name" y) := ⟨d0, upd_same, upd_at hne ed⟩
        have s3 := (s0.trans s1).trans (same_upd (o := keptX (.ref T.CNoBoat) (some d0) e) hne)
        generalize upd H1 e (keptX (.ref T.CNoBoat) (some d0) e) = H2 at kp s3 ⊢
        have xf : XfC K T.CNoBoat := ⟨T.gaNoBoat, T.ggNoBoat, T.exNoBoat, T.hdNoBoat⟩
        walk_at "s"
        refine .inl (.inr ⟨e, T.CNoBoat, _, .ty "KeyError", .type "KeyError", true, rfl, kp, xcNoBoat T, .ty _, kit_up (by decide +kernel) T.upNoBoat, ?_⟩)
        walk_at "s"
        intro tp htp
        have kp2 : KeptE (upd H2 tp (.tup [.ref T.CNoBridge, .ref T.CNoSpan, .ref T.COverload, .ref T.CTaken])) e T.CNoBoat (x1F "name" y) := by
          obtain ⟨dd, k1, k2⟩ := kp
          exact ⟨dd, upd_at htp k1, upd_at htp k2⟩
        refine .inl (.inr ⟨e, T.CNoBoat, _, tp, _, [.ref T.CNoBridge, .ref T.CNoSpan, .ref T.COverload, .ref T.CTaken], false, rfl, kp2, xcNoBoat T, upd_same, .cons (.own _) (.cons (.own _) (.cons (.own _) (.cons (.own _) .nil))), any_no (kit_other T.seNoBoat T.icNoBridge T.tyNoBridge T.noNoBoat_NoBridge) (any_no (kit_other T.seNoBoat T.icNoSpan T.tyNoSpan T.noNoBoat_NoSpan) (any_no (kit_other T.seNoBoat T.icOverload T.tyOverload T.noNoBoat_Overload) (any_no (kit_other T.seNoBoat T.icTaken T.tyTaken T.noNoBoat_Taken) rfl))), ?_⟩)
        have s4 := s3.trans (same_upd (o := .tup [.ref T.CNoBridge, .ref T.CNoSpan, .ref T.COverload, .ref T.CTaken]) htp)
        generalize upd H2 tp (.tup [.ref T.CNoBridge, .ref T.CNoSpan, .ref T.COverload, .ref T.CTaken]) = H3 at kp2 s4 ⊢
        walk_at "s"
        refine ⟨e, T.CNoBoat, _, y, rfl, xf, T.nNoBoat_name, kp2, rfl, ?_⟩
        walk_at "s"
        intro t ht
        exact q2 hno t _ (s4.trans (same_upd ht)) upd_same
theorem inV_str (z : Str) (zs : List Str) : inV (.str z) (zs.map .str) = decide (z ∈ zs) := by
  unfold inV
  induction zs with
  | nil => rfl
  | cons y ys ih =>
    rw [List.map_cons, List.any_cons, ih]
    have : eqV (.str y) (.str z) = decide (y = z) := rfl
    rw [this]
    by_cases h : y = z
    · subst h
      rw [decide_eq_true rfl, decide_eq_true (List.mem_cons_self)]; rfl
    · rw [decide_eq_false h, Bool.false_or]
      exact decide_eq_decide.mpr ⟨List.mem_cons_of_mem _, fun m => (List.mem_cons.mp m).elim (fun e => absurd e.symm h) id⟩
theorem i_inStr {K : PySem.W.Frag} {H : Hp} {D : Addr} {z : Str} {zs : List Str} {Q : VK} (e : H D = some (.lst (zs.map V.str))) (q : Q (.bl (decide (z ∈ zs))) H) : rIn K false (.str z) (.ref D) H Q :=
  ⟨D, _, rfl, .inl (SqL.of e), rfl, by rw [List.all_map]; exact List.all_eq_true.mpr fun _ _ => rfl, by rw [if_neg (by decide), inV_str]; exact q⟩
theorem thing_strk {K : PySem.W.Frag} {F : Addr} {H : Hp} {v : V} {d : PyData} (h : Thing F H v d) : (∃ z, v = .str z) ∨ ((∀ z, v ≠ .str z) ∧ ∃ t, TyX K H v t ∧ PySem.W.kitOne K t (.type "str") = some false) := by
  cases h with
  | th h _ _ =>
    cases h with
    | non => exact .inr ⟨(fun z e => by cases e), _, .base .non, kit_ty (by decide +kernel)⟩
    | bl b => exact .inr ⟨(fun z e => by cases e), _, .base (.bl b), kit_ty (by decide +kernel)⟩
    | int i => exact .inr ⟨(fun z e => by cases e), _, .base (.int i), kit_ty (by decide +kernel)⟩
    | str x => exact .inl ⟨x, rfl⟩
    | l0 _ e => exact .inr ⟨(fun z e => by cases e), _, .base (.lst e), kit_ty (by decide +kernel)⟩
    | l1 _ e _ => exact .inr ⟨(fun z e => by cases e), _, .base (.lst e), kit_ty (by decide +kernel)⟩
    | t0 _ e => exact .inr ⟨(fun z e => by cases e), _, .base (.tup e), kit_ty (by decide +kernel)⟩
    | t1 _ e _ => exact .inr ⟨(fun z e => by cases e), _, .base (.tup e), kit_ty (by decide +kernel)⟩
    | t2 _ e _ _ => exact .inr ⟨(fun z e => by cases e), _, .base (.tup e), kit_ty (by decide +kernel)⟩
  | dc _ e _ => exact .inr ⟨(fun z e => by cases e), _, .base (.dK e), kit_ty (by decide +kernel)⟩
theorem strOk_of {z : Str} (h : ∀ c ∈ tl z, c < 1000) : PyData.strOk z = true := by
  unfold PyData.strOk
  rw [Array.all_eq_true']
  intro c hc
  have := h c (Array.mem_toList_iff.mpr hc)
  exact decide_eq_true (by omega)
theorem boatS_ok {n : Str} {b : Int} (h : LowN 8 n) (hb : 1 ≤ b ∧ b ≤ 1000000) : PyData.strOk (boatS n b) = true := strOk_of fun c hc => by
  unfold boatS at hc
  rw [tl_app, tl_app, emp] at hc
  rcases List.mem_append.mp hc with hc | hc
  · rcases List.mem_append.mp hc with hc | hc
    · have := h.2 c hc; omega
    · have e : tl (":" : Str) = [58] := by decide +kernel
      rw [e] at hc
      simp at hc; omega
  · have := (num_facts (i := b) (by omega) hb.2).1 c hc
    omega
theorem fst_inj : ∀ {rs : List (Str × Int)} {a b : Str × Int}, (rs.map Prod.fst).Nodup → a ∈ rs → b ∈ rs → a.1 = b.1 → a = b
  | x :: rs, a, b, h, ha, hb, e => by
    rw [List.map_cons, List.nodup_cons] at h
    rcases List.mem_cons.mp ha with ha1 | ha2
    · rcases List.mem_cons.mp hb with hb1 | hb2
      · rw [ha1, hb1]
      · exact absurd (show x.1 ∈ rs.map Prod.fst from List.mem_map.mpr ⟨b, hb2, by rw [← e, ha1]⟩) h.1
    · rcases List.mem_cons.mp hb with hb1 | hb2
      · exact absurd (show x.1 ∈ rs.map Prod.fst from List.mem_map.mpr ⟨a, ha2, by rw [e, hb1]⟩) h.1
      · exact fst_inj h.2 ha2 hb2 e
def spNamesR : Sp := fun vs H Q _ => ∃ (F c : Addr) (n : Nat) (p bl sl q r s : Addr) (rows : List (Str × Int)) (spans : List Int), vs = [.ref F, .ref p, .ref q] ∧ n < 800000 ∧ Tape H F c n ∧ BrAt T.CBoat T.CBridge H p bl sl rows spans ∧ PartsAt H q r s rows spans ∧ Good rows spans ∧ (∀ x ∈ rows, LowN 8 x.1 ∧ 1 ≤ x.1.length) ∧ (∀ x ∈ rows, 1 ≤ x.2 ∧ x.2 ≤ 1000000) ∧ bl ≠ F ∧ sl ≠ F ∧ r ≠ F ∧ s ≠ F ∧
  ∀ H', Tape H' F c (n + 20) → Keep F H H' → Q (.bl true) H'
theorem ok_law_names_right : FnOkG P w K mg base CX0 8 T.f_law_names_right T.fd_law_names_right ["_law_tape_here", "_law_bridge", "_law_parts"] (spNamesR T) := by
  refine okG T.F_law_names_right scNamesRight (fun vs H Q E h => ?_) (fun cdv A outer s H vs Q E gd hr h => ?_)
  · obtain ⟨F, c, n, p, bl, sl, q, r, s, rows, spans, rfl, _⟩ := h
    rfl
  · obtain ⟨F, c, n, p, bl, sl, pq, r, sp, rows, spans, rfl, hn, hT, hp, hq, hg, hnm, hbr, nbl, nsl, nr, ns, q⟩ := h
    refine ⟨_,
      (pss_cons (ps_for PassesOwn.never rfl (pi_list (pe_ix ix_tup (pv 2) pe_int (fun _ _ => rfl))) (pg_tup rfl (pgs_cons (pg_name (i := 3) scNamesRight.nd rfl (.inl rfl)) (pgs_cons (pg_name (i := 4) scNamesRight.nd rfl (.inl rfl)) pgs_nil)))
      (pss_cons (ps_asg (pe_call (ok_law_named T) (hr.mono (by decide)) (by rfl) T.g_law_named T.F_law_named.kp T.b_law_named .nil pass0 (pa_cons (pv 1) (pa_cons (pv 3) pa_nil))) (pg_tup rfl (pgs_cons (pg_name (i := 5) scNamesRight.nd rfl (.inl rfl)) (pgs_cons (pg_name (i := 6) scNamesRight.nd rfl (.inl rfl)) pgs_nil))))
      (pss_one (ps_if (PW.pt (pw_or (pt_cmpR op_ne (pv 5) pe_str (nomark _)) (pw_or1 (pt_not (pt_val (pe_call (ok_law_is_boat T) (hr.mono (by decide)) (by rfl) T.g_law_is_boat T.F_law_is_boat.kp T.b_law_is_boat .nil pass0 (pa_cons (pv 6) (pa_cons (pv 3) (pa_cons (pv 4) pa_nil)))))))))
      (pss_one (ps_ret pe_bl))
      pss_nil))))
      (pss_cons (ps_setLc (i := 7) (own := [("_law_who", 3), ("_law_bears", 4)]) (g := gTup K 2 (gCons (gName 3) (gCons (gName 4) gNil))) (tt := tYes) rfl scNamesRight.nd rfl rfl (sw_true rfl rfl rfl (by decide +kernel)) (pi_list (pe_ix ix_tup (pv 2) pe_int (fun _ _ => rfl))) (blkOk_by (N := NNamesRight) (own := [("_law_who", 3), ("_law_bears", 4)]) (sc := defScope sNamesRight) (by decide +kernel)) (fun _ _ _ _ _ => pg_tup rfl (pgs_cons (pg_name (i := 3) scNamesRight.nd rfl (Or.inl rfl)) (pgs_cons (pg_name (i := 4) scNamesRight.nd rfl (Or.inl rfl)) pgs_nil))) (fun _ _ _ _ _ => pts_nil) (fun _ _ _ _ _ => (pv 3)))
      (pss_cons (ps_for PassesOwn.never rfl (pi_list (pe_lst (pa_cons (pe_call (ok_law_odd T) (hr.mono (by decide)) (by rfl) T.g_law_odd T.F_law_odd.kp T.b_law_odd .nil pass0 (pa_cons (pv 0) pa_nil)) (pa_cons (pe_call (ok_law_odd T) (hr.mono (by decide)) (by rfl) T.g_law_odd T.F_law_odd.kp T.b_law_odd .nil pass0 (pa_cons (pv 0) pa_nil)) (pa_cons (pe_op op_add_str (pe_ix ix_list (pv 7) pe_int (fun _ _ => rfl)) pe_str) (pa_cons (pe_slice sl_str (pe_ix ix_list (pv 7) (pe_un un_neg pe_int) (fun _ _ => rfl)) po_none (po_some (pe_un un_neg pe_int))) (pa_cons (pe_callTy (call_strOwn (mt_Boat___str__ T).at_ (mt_Boat___str__ T).fn (okBoat___str__ T) T.bBoat___str__ (hr.mono (by decide)) pass0) (by rfl) T.mstr (by decide +kernel) (pa_cons (pe_ix ix_list (pe_meth0 (pv 1) (cl_Bridge T) (mt_Bridge_boats T) (okBridge_boats T) (hr.mono (by decide)) T.bBridge_boats .nil pass0) pe_int (fun _ _ => rfl)) pa_nil)) pa_nil))))))) (pg_name (i := 8) scNamesRight.nd rfl (.inl rfl))
      (pss_cons (ps_set (i := 9) scNamesRight.nd rfl (.inl rfl) (pe_and (pe_callB call_isi (by rfl) T.misinstance (by decide +kernel) (pa_cons (pv 8) (pa_cons (pe_bltn (v := .ty "str") (u := .type "str") (by rfl) T.mstr (by decide +kernel) rfl) pa_nil))) (pe_one (pe_cmpR op_in_seq (pv 8) (pv 7) (by rfl)))))
      (pss_one (ps_if (PW.pt (pw_and (pt_not (pt_val (pv 9))) (pw_and1 (pt_cmpR op_ne (pe_callB (call_reprT gd hr) (by rfl) T.mrepr (by decide +kernel) (pa_cons (pe_call (ok_law_named T) (hr.mono (by decide)) (by rfl) T.g_law_named T.F_law_named.kp T.b_law_named .nil pass0 (pa_cons (pv 1) (pa_cons (pv 8) pa_nil))) pa_nil)) (pe_callB (call_reprT gd hr) (by rfl) T.mrepr (by decide +kernel) (pa_cons (pe_tup (pa_cons pe_str (pa_cons (pv 8) pa_nil))) pa_nil)) (nomark _)))))
      (pss_one (ps_ret pe_bl))
      pss_nil))))
      (pss_one (ps_ret pe_bl)))))
      , ?_⟩
    obtain ⟨dx, bs, e1, e2, e3⟩ := id hp.ex
    obtain ⟨xs, er, hrw⟩ := id hq.rw
    have hl0 := hg.l0
    have hl1 := hg.l1
    have hxl := hrw.len
    walk_at "s"
    refine i_ixT0 (SqT.of hq.tp) ?_
    refine ⟨r, rfl, ⟨_, SqL.of er⟩, ?_⟩
    refine for_list (K := K) (a := r) (xs := xs) (fun k σ H' => ∃ (w3 w4 w5 w6 : Option V), σ = [some (.ref F), some (.ref p), some (.ref pq), w3, w4, w5, w6, none, none, none] ∧ Same H H')
      ⟨_, _, _, _, rfl, same_refl⟩ (fun k σ H' _ ⟨_, _, _, _, _, z⟩ => SqL.of (z _ _ er)) ?_ ?_
    · rintro k x σ H1 hx ⟨w3, w4, w5, w6, rfl, s1⟩
      obtain ⟨tk, r0, rfl, hr0, htk⟩ := hrw.at hx
      have m0 := List.mem_of_getElem? hr0
      have n0 := (hnm r0 m0).1
      have b0 := hbr r0 m0
      refine ⟨tk, _, rfl, SqT.of (s1 _ _ htk), rfl, ?_⟩
      walk_at "s"
      refine ⟨p, bl, sl, F, _, _, rows, spans, rfl, hp.same s1, fun x hx => (hnm x hx).1, thing_str (low_ok n0) (by have := n0.1; omega), fun t a i r' H2 s2 hi ey hb ht => ?_, fun hno => absurd rfl (hno r0 m0)⟩
      have er0 : r' = r0 := fst_inj hg.nd (List.mem_of_getElem? hi) m0 (V.str.inj ey).symm
      subst er0
      refine ⟨t, _, rfl, SqT.of ht, rfl, ?_⟩
      walk_at "s"
      refine ⟨a, r'.1, r'.2, rfl, hb, ?_⟩
      refine ⟨_, rfl, ?_⟩
      refine ifF rfl ?_
      exact ⟨_, _, _, _, rfl, s1.trans s2⟩
    · rintro σ H1 ⟨w3, w4, w5, w6, rfl, s1⟩
      walk_at "s"
      refine i_ixT0 (SqT.of (s1 _ _ hq.tp)) ?_
      refine ⟨r, rfl, ⟨_, SqL.of (s1 _ _ er)⟩, fun D hD => ?_⟩
      refine lc_list (K := K) (a := r) (xs := xs) (fun k H' => H' D = some (.lst (((rows.take k).map Prod.fst).map V.str)) ∧ Same H1 H') ⟨upd_same, same_upd hD⟩ (fun k H' _ z => SqL.of (z.2 _ _ (s1 _ _ er))) ?_ ?_
      · rintro k y H' hy ⟨eD, si⟩
        obtain ⟨tk, r0, rfl, hr0, htk⟩ := hrw.at hy
        refine ⟨tk, _, rfl, SqT.of (si _ _ (s1 _ _ htk)), rfl, ?_⟩
        walk_at "s"
        refine ⟨_, eD, lt_line (by rw [List.length_map, List.length_map, List.length_take]; omega), ?_, app_same hD si⟩
        rw [upd_same, List.take_succ, hr0, Option.toList_some, List.map_append, List.map_append]
        rfl
      rintro H2 ⟨eD, s2⟩
      rw [List.take_of_length_le (by omega)] at eD
      have s02 := s1.trans s2
      have T2 := hT.same s02
      have nD := (hT.same s1).ne hD
      walk_at "s"
      refine ⟨F, c, n, rfl, by omega, T2, fun v1 d1 H3 y1 T3 k3 => ?_⟩
      walk_at "s"
      refine ⟨F, c, _, rfl, by omega, T3, fun v2 d2 H4 y2 T4 k4 => ?_⟩
      have k34 := k3.trans k4
      have y1 := y1.keep k4
      have eD4 := k34 _ _ nD eD
      have hne : rows ≠ [] := fun e => by rw [e] at hl0; simp at hl0
      have g0 : ((rows.map Prod.fst).map V.str)[0]? = some (.str (rows.head hne).1) := by
        cases rows with
        | nil => exact absurd rfl hne
        | cons x t => rfl
      have gL : (rows.map Prod.fst).map V.str = ((rows.dropLast.map Prod.fst).map V.str) ++ [.str (rows.getLast hne).1] := by
        rw [← List.map_singleton (f := V.str), ← List.map_append, ← List.map_singleton (f := Prod.fst), ← List.map_append, List.dropLast_concat_getLast]
      have lh := (hnm _ (List.head_mem hne)).1
      have ll := (hnm _ (List.getLast_mem hne)).1
      have lz : LowN 1 ("z" : Str) := ⟨by decide +kernel, by decide +kernel⟩
      have lh8 := lh.1
      have ll8 := ll.1
      walk_at "s"
      refine i_ixLe 0 (SqL.of eD4) rfl g0 ?_
      walk_at "s"
      refine ⟨small_line (by show _ + 1 ≤ 100; omega), ?_⟩
      walk_at "s"
      refine i_ixLast (xs := (rows.dropLast.map Prod.fst).map V.str) (SqL.of (by rw [← gL]; exact eD4)) ?_
      walk_at "s"
      refine ⟨small_line (by omega), ?_⟩
      have ey2 := T2.tape
      have hp4 := (hp.same s02).keep ey2.choose_spec k34 nbl nsl
      obtain ⟨dx4, bs4, f1, f2, f3⟩ := id hp4.ex
      walk_at "s"
      refine ⟨p, dx4, _, rfl, f1, brF_mboats bl sl, ?_⟩
      walk_at "s"
      refine ⟨p, bl, sl, rows, spans, rfl, hp4, fun l bs5 H5 s5 _ el5 hb5 => ?_⟩
      obtain ⟨a0, ha0, dxa, ea0⟩ : ∃ a0, bs5[0]? = some (.ref a0) ∧ BoatAt T.CBoat H5 a0 (rows.head hne).1 (rows.head hne).2 := by
        cases hb5 with
        | nil => exact absurd rfl hne
        | cons e h => exact ⟨_, rfl, e⟩
      have bh := hbr _ (List.head_mem hne)
      walk_at "s"
      refine i_ixLe 0 (SqL.of el5) rfl ha0 ?_
      walk_at "s"
      refine ⟨a0, dxa, _, rfl, ea0, a0, _, _, rfl, ⟨dxa, ea0⟩, by omega, by omega, bh.2, ?_⟩
      refine ⟨_, rfl, ?_⟩
      walk_at "s"
      generalize Q_ : (rows.head hne).1 ++ ("z" : Str) = zz
      generalize Qc : cutS (rows.getLast hne).1 none (some (-1)) = zc
      generalize Qb : boatS (rows.head hne).1 (rows.head hne).2 = zb
      have oz : PyData.strOk zz = true ∧ zz.length ≤ 20 := by
        have := app_low lh lz
        rw [Q_] at this
        exact ⟨low_strOk this, by have := this.1; omega⟩
      have oc : PyData.strOk zc = true ∧ zc.length ≤ 20 := by
        have := cut_low (lo := none) (hi := some (-1)) ll
        rw [Qc] at this
        exact ⟨low_strOk this, by have := this.1; omega⟩
      have ob : PyData.strOk zb = true ∧ zb.length ≤ 20 := by
        have h1 := boatS_ok lh bh
        have h2 := boatW_len lh bh
        unfold boatW at h2
        rw [Qb] at h1 h2
        exact ⟨h1, by omega⟩
      intro l6 hl6
      have u6 := s5.trans (same_upd (o := .lst [v1, v2, .str zz, .str zc, .str zb]) hl6)
      have e6 : (upd H5 l6 (.lst [v1, v2, .str zz, .str zc, .str zb])) l6 = some (.lst [v1, v2, .str zz, .str zc, .str zb]) := upd_same
      have T6 := (T4.same s5).new (o := .lst [v1, v2, .str zz, .str zc, .str zb]) hl6
      generalize upd H5 l6 (.lst [v1, v2, .str zz, .str zc, .str zb]) = H6 at u6 e6 T6 ⊢
      have hall : ∀ x ∈ [v1, v2, V.str zz, .str zc, .str zb], ∃ d, Thing F H6 x d := fun x hx => by
        simp only [List.mem_cons, List.not_mem_nil, or_false] at hx
        rcases hx with rfl | rfl | rfl | rfl | rfl
        · exact ⟨_, y1.same u6⟩
        · exact ⟨_, y2.same u6⟩
        · exact ⟨_, thing_str oz.1 oz.2⟩
        · exact ⟨_, thing_str oc.1 oc.2⟩
        · exact ⟨_, thing_str ob.1 ob.2⟩
      have hp6 := hp4.same u6
      have eD6 := u6 _ _ eD4
      have K6 : Keep F H H6 := ((Keep.refl.same s02).trans k34).same u6
      refine ⟨l6, rfl, ⟨_, SqL.of e6⟩, ?_⟩
      refine for_list (K := K) (a := l6) (xs := [v1, v2, .str zz, .str zc, .str zb]) (fun k σ H' => ∃ (w3 w4 w5 w6 w8 w9 : Option V), σ = [some (.ref F), some (.ref p), some (.ref pq), w3, w4, w5, w6, some (.ref D), w8, w9] ∧ Same H6 H')
        ⟨_, _, _, _, _, _, rfl, same_refl⟩ (fun k σ H' _ ⟨_, _, _, _, _, _, _, z⟩ => SqL.of (z _ _ e6)) ?_ ?_
      · rintro k y σ H7 hy ⟨w3, w4, w5, w6, w8, w9, rfl, s7⟩
        obtain ⟨d, hd⟩ := hall y (List.mem_of_getElem? hy)
        have hd7 := hd.same s7
        have miss : (∀ r ∈ rows, y ≠ .str r.1) → True := fun _ => trivial
        have hlow : ∀ r ∈ rows, LowN 8 r.1 := fun r hr => (hnm r hr).1
        have rok : PyData.strOk ("refused" : Str) = true := by decide +kernel
        have rln : ("refused" : Str).length ≤ 20 := by decide +kernel
        rcases thing_strk (K := K) hd7 with ⟨z, rfl⟩ | ⟨ny, t, ty, hk⟩
        · walk_at "s"
          refine isi_str ?_
          walk_at "s"
          refine i_inStr (zs := rows.map Prod.fst) (s7 _ _ eD6) ?_
          by_cases hz : z ∈ rows.map Prod.fst
          · rw [decide_eq_true hz]
            walk_at "s"
            exact ⟨_, _, _, _, _, _, rfl, s7⟩
          · rw [decide_eq_false hz]
            walk_at "s"
            refine ⟨p, bl, sl, F, _, d, rows, spans, rfl, hp6.same s7, hlow, hd7, fun t a i r H8 _ hi ey => absurd (List.mem_map.mpr ⟨r, List.mem_of_getElem? hi, (V.str.inj ey).symm⟩) hz, fun _ t H8 s8 et => ?_⟩
            have hd8 := hd7.same s8
            walk_at "s"
            refine ⟨t, _, _, F, d, rfl, et, rok, rln, hd8, ?_⟩
            walk_at "s"
            intro t2 ht2
            have u2 := same_upd (o := .tup [.str "refused", .str z]) ht2
            refine ⟨t2, _, _, F, d, rfl, upd_same, rok, rln, hd8.same u2, ?_⟩
            walk_at "s"
            rw [decide_eq_true rfl]
            refine ifF rfl ?_
            exact ⟨_, _, _, _, _, _, rfl, (s7.trans s8).trans u2⟩
        · walk_at "s"
          refine ⟨_, _, _, _, false, rfl, .ty _, ty, hk, ?_⟩
          walk_at "s"
          refine ⟨p, bl, sl, F, _, d, rows, spans, rfl, hp6.same s7, hlow, hd7, fun t a i r H8 _ hi ey => absurd ey (ny _), fun _ t H8 s8 et => ?_⟩
          have hd8 := hd7.same s8
          walk_at "s"
          refine ⟨t, _, _, F, d, rfl, et, rok, rln, hd8, ?_⟩
          walk_at "s"
          intro t2 ht2
          have u2 := same_upd (o := .tup [.str "refused", y]) ht2
          refine ⟨t2, _, _, F, d, rfl, upd_same, rok, rln, hd8.same u2, ?_⟩
          walk_at "s"
          rw [decide_eq_true rfl]
          refine ifF rfl ?_
          exact ⟨_, _, _, _, _, _, rfl, (s7.trans s8).trans u2⟩
      · rintro σ H7 ⟨w3, w4, w5, w6, w8, w9, rfl, s7⟩
        walk_at "s"
        exact q H7 ((T6.same s7).mono (by omega)) (K6.same s7)
end
/-! ### list.index by == of Bridges -/
section
variable {P : Program} {w : World} {K : PySem.W.Frag} {mg : Str → Option Value} {base : Heap} (T : Ev K mg)
/-- what == of two Bridges tells -/
def DBr (C CB : Addr) : V → V → Hp → Bool → Prop := fun x y H b => ∃ (p bl sl q bl2 sl2 : Addr) (rows rows2 : List (Str × Int)) (spans spans2 : List Int), x = .ref p ∧ y = .ref q ∧ BrAt C CB H p bl sl rows spans ∧ BrAt C CB H q bl2 sl2 rows2 spans2 ∧ spans.length ≤ 1000 ∧ spans2.length ≤ 1000 ∧ b = (decide (rows = rows2) && decide (spans = spans2))
theorem boats_fun {C : Addr} {H : Hp} {bs : List V} {rs ss : List (Str × Int)} (h : Boats C H bs rs) : Boats C H bs ss → rs = ss := by
  induction h generalizing ss with
  | nil => intro g; cases g; rfl
  | cons e _ ih =>
    intro g
    cases g with
    | cons e2 g2 =>
      obtain ⟨dx, e⟩ := e
      obtain ⟨dy, e2⟩ := e2
      rw [e] at e2
      have z := (HO.ins.inj (Option.some.inj e2)).2.2
      obtain ⟨z1, z2⟩ := boatF_inj z
      rw [ih g2]
      exact congrArg (· :: _) (Prod.ext z1 z2)
theorem ints_inj {a b : List Int} (h : a.map V.int = b.map V.int) : a = b := by
  induction a generalizing b with
  | nil => cases b with
    | nil => rfl
    | cons y t => cases h
  | cons x s ih => cases b with
    | nil => cases h
    | cons y t =>
      rw [List.map_cons, List.map_cons] at h
      injection h with h1 h2
      rw [V.int.inj h1, ih h2]
theorem br_fun {C CB : Addr} {H : Hp} {p bl sl bl2 sl2 : Addr} {rows rows2 : List (Str × Int)} {spans spans2 : List Int} (h : BrAt C CB H p bl sl rows spans) (g : BrAt C CB H p bl2 sl2 rows2 spans2) : rows = rows2 ∧ spans = spans2 := by
  obtain ⟨dx, bs, a1, a2, a3⟩ := h.ex
  obtain ⟨dy, cs, b1, b2, b3⟩ := g.ex
  rw [a1] at b1
  have z : brF bl sl = brF bl2 sl2 := by injection b1 with b1; injection b1
  have z1 := brF_boats bl sl
  have z2 := brF_spans bl sl
  rw [z, brF_boats] at z1
  rw [z, brF_spans] at z2
  have e1 : bl2 = bl := by injection z1 with z1; injection z1
  have e2 : sl2 = sl := by injection z2 with z2; injection z2
  subst e1 e2
  rw [a2] at b2
  have e3 : bs = cs := by injection b2 with b2; injection b2
  subst e3
  have e4 := h.sp
  rw [g.sp] at e4
  exact ⟨boats_fun a3 b3, ints_inj (by injection e4 with e4; injection e4 with e4; exact e4.symm)⟩
theorem dokBridge : DOk T.CBridge (DBr T.CBoat T.CBridge) := by
  refine ⟨fun x y H b h => ?_, fun x H b h => ?_, fun x y H H' b s h => ?_⟩
  · obtain ⟨p, bl, sl, q, bl2, sl2, rows, rows2, spans, spans2, rfl, rfl, h1, h2, _⟩ := h
    obtain ⟨dx, bs, a1, _⟩ := h1.ex
    obtain ⟨dy, cs, b1, _⟩ := h2.ex
    exact ⟨_, _, _, _, _, _, rfl, a1, rfl, b1⟩
  · obtain ⟨p, bl, sl, q, bl2, sl2, rows, rows2, spans, spans2, rfl, e, h1, h2, _, _, hb⟩ := h
    cases e
    obtain ⟨e1, e2⟩ := br_fun h1 h2
    rw [hb, decide_eq_true e1, decide_eq_true e2]; rfl
  · obtain ⟨p, bl, sl, q, bl2, sl2, rows, rows2, spans, spans2, hx, hy, h1, h2, r⟩ := h
    exact ⟨p, bl, sl, q, bl2, sl2, rows, rows2, spans, spans2, hx, hy, h1.same s, h2.same s, r⟩
theorem okBridgeB : FnOk P w K mg base CX0 4 T.fBridge___eq__ T.fdBridge___eq__ ["self", "other"] (spEqB (DBr T.CBoat T.CBridge)) :=
  (okBridge___eq__ T).imp fun vs H Q E ⟨x, y, b, e, h, q⟩ => by
    obtain ⟨p, bl, sl, r, bl2, sl2, rows, rows2, spans, spans2, rfl, rfl, h1, h2, l1, l2, rfl⟩ := h
    exact ⟨p, bl, sl, _, rows, spans, e, h1, l1, .inl ⟨r, bl2, sl2, rows2, spans2, rfl, h2, l2, q⟩⟩
end
def rOrR (r r' : R2) : R2 := fun x y H Q => r x y H Q ∨ r' x y H Q
theorem op_orR {X : Cx} {f : Value → Value → Sem Value} {r r' : R2} (h : OpR X f r) (h' : OpR X f r') : OpR X f (rOrR r r') := fun pins s σ H x y v u Q I rx ry z => z.elim (h pins s σ H x y v u Q I rx ry) (h' pins s σ H x y v u Q I rx ry)
theorem kit_no {K : PySem.W.Frag} {C : Addr} {T : String} (ic : PySem.W.isClsIn K C = true) (ty : PySem.W.typeIn K (.ref C) = some (.type "type")) (ts : PySem.W.subIn K (.type T) (.ref C) = some false) : PySem.W.kitOne K (.type T) (.ref C) = some false := by
  have ic' : (PySem.W.clsIn K C).isSome = true := ic
  have e : ((PySem.W.clsIn K C).isSome && PySem.W.typeIn K (.ref C) == some (.type "type")) = true := by rw [ic', ty]; rfl
  show (if (Value.type T == Value.ref C) = true then some true else if ((PySem.W.clsIn K C).isSome && PySem.W.typeIn K (.ref C) == some (.type "type")) = true then PySem.W.subIn K (.type T) (.ref C) else none) = some false
  rw [if_neg (by intro z; cases z), if_pos e]
  exact ts
def spLaw (K : PySem.W.Frag) : Sp := fun vs H Q _ => ∃ (a : Addr) (ns : List Int), vs = [.ref a] ∧ SqL K H a (ns.map V.int) ∧ ns.length ≤ 63 ∧ ∀ H', Q (.bl true) H'
set_option maxHeartbeats 8000000
local macro_rules | `(tactic| walk_at "c") => `(tactic| first | omega | decide | exact ⟨by omega, by omega⟩ | exact ⟨by decide, by decide⟩ | exact .inl ⟨by omega, by omega⟩ | exact .inr ⟨by omega, by omega⟩ | exact ⟨by omega, by omega, by omega⟩ | exact ⟨by decide, by decide, by decide⟩ | exact le_line (Nat.le_of_ble_eq_true rfl))
local macro_rules | `(tactic| walk_at "a") => `(tactic| with_reducible (first | refine i_seq ?_ | refine i_asg ?_ | refine i_cons ?_ | refine i_c ?_ | refine i_nil ?_ | refine i_op ?_ | refine i_call ?_ | refine i_cb ?_ | refine i_name ?_ | refine i_next ?_ | refine i_ret ?_ | refine i_drop ?_ | refine i_if ?_ | refine i_test ?_ | refine i_and ?_ | refine i_or ?_ | refine i_not ?_ | refine i_ite ?_ | refine i_lst ?_ | refine i_tup ?_ | refine i_bm ?_ | refine i_un ?_ | refine i_par ?_ | refine i_gsub ?_ | refine i_chain ?_ | refine i_sl ?_ | refine i_nopart ?_ | refine i_part ?_ | refine i_m1 ?_ | refine i_m0 ?_ | refine i_lc ?_ | refine i_iList ?_ | refine i_iTup ?_ | refine i_iStr ?_ | refine i_r1 ?_ | refine i_set ?_ | refine i_callk ?_ | refine i_callN ?_ | refine i_ckw ?_ | refine i_revL ?_ | refine i_tB ?_ | refine i_fld ?_ | refine i_sfld ?_ | refine i_make ?_ | refine i_makeN ?_ | refine i_meth ?_ | refine i_andV ?_ | refine i_orV ?_ | refine i_notV ?_ | refine iteT ?_ | refine iteF ?_ | refine i_yes ?_))
local macro_rules | `(tactic| walk_at "s") => `(tactic| repeat (first | walk_at "a" | refine i_var rfl ?_ | refine i_aug rfl ?_ | refine And.intro ⟨_, rfl⟩ ?_ | refine ⟨_, rfl, ?_⟩ | refine ⟨_, _, rfl, rfl, ?_⟩ | refine ⟨_, _, rfl, ?_⟩ | refine ⟨rfl, ?_⟩ | refine And.intro (by walk_at "c") ?_))
theorem if_top10 {n : Int} : ∃ top : Int, top ≤ 10 ∧ 3 ≤ top ∧ (if (if (10 : Int) < n then (10 : Int) else n) > 3 then (if (10 : Int) < n then (10 : Int) else n) else 3) = top := ⟨_, by split <;> split <;> omega, by split <;> split <;> omega, rfl⟩
section
variable {P : Program} {w : World} {K : PySem.W.Frag} {mg : Str → Option Value} {base : Heap} (T : Ev K mg)
theorem BrAt.updL {C CB : Addr} {H : Hp} {p bl sl l : Addr} {rows : List (Str × Int)} {spans : List Int} {zs : List V} {o : HO} (h : BrAt C CB H p bl sl rows spans) (e : H l = some (.lst zs)) (n1 : bl ≠ l) (n2 : sl ≠ l) : BrAt C CB (upd H l o) p bl sl rows spans := by
  obtain ⟨dx, bs, e1, e2, e3⟩ := h.ex
  exact ⟨⟨dx, bs, by rw [upd_ne (ne_of e1 e (by intro z; cases z))]; exact e1, by rw [upd_ne n1]; exact e2, e3.mono fun a dx n b ea => by rw [upd_ne (ne_of ea e (by intro z; cases z))]; exact ea⟩, by rw [upd_ne n2]; exact h.sp⟩
theorem PartsAt.updL {H : Hp} {q r s l : Addr} {rows : List (Str × Int)} {spans : List Int} {zs : List V} {o : HO} (h : PartsAt H q r s rows spans) (e : H l = some (.lst zs)) (n1 : r ≠ l) (n2 : s ≠ l) : PartsAt (upd H l o) q r s rows spans := by
  obtain ⟨xs, e1, e2⟩ := h.rw
  exact ⟨by rw [upd_ne (ne_of h.tp e (by intro z; cases z))]; exact h.tp, ⟨xs, by rw [upd_ne n1]; exact e1, e2.mono fun a ts ea => by rw [upd_ne (ne_of ea e (by intro z; cases z))]; exact ea⟩, by rw [upd_ne n2]; exact h.sp⟩
theorem not_first {K : PySem.W.Frag} {C : Addr} {T : String} (ts : PySem.W.subIn K (.type T) (.ref C) = some false) : PySem.W.notFirst K C (.type T) = true := by
  unfold PySem.W.notFirst
  rw [ts]
  simp
/-- another thing, at either side of == -/
def OthB (K : PySem.W.Frag) (CB : Addr) (H : Hp) (y : V) : Prop := ∃ t, TyX K H y t ∧ PySem.W.kitOne K t (.ref CB) = some false ∧ PySem.W.notFirst K CB t = true ∧ LeftOk H y
theorem othB (T : Ev K mg) {H : Hp} {y : V} {S : String} (ty : TyX K H y (.type S)) (lo : LeftOk H y) (ts : PySem.W.subIn K (.type S) (.ref T.CBridge) = some false) : OthB K T.CBridge H y := ⟨_, ty, kit_no T.icBridge T.tyBridge ts, not_first ts, lo⟩
theorem neBo {H : Hp} {p q : Addr} {n : Str} {b : Int} {Q : VK} (h1 : BoatAt T.CBoat H p n b) (h2 : BoatAt T.CBoat H q n b) (q0 : Q (.bl false) H) : rOwnY K T.CBoat (spBEq K T.CBoat) E0 QNot (.ref p) (.ref q) H Q := by
  obtain ⟨dx, e1⟩ := id h1
  refine ⟨p, dx, _, _, rfl, e1, isBoat (bcl T) h2, T.nfBoat, p, _, n, b, rfl, h1, .inl ⟨q, n, b, rfl, h2, _, rfl, ?_⟩⟩
  rw [decide_eq_true rfl, decide_eq_true rfl]
  exact q0
theorem ok_law : FnOkG P w K mg base CX0 14 T.flaw T.fdlaw ["_law_script"] (spLaw K) := by
  refine okG T.Flaw scLaw (fun vs H Q E h => ?_) (fun cdv A outer s H vs Q E gd hr h => ?_)
  · obtain ⟨a, ns, rfl, _⟩ := h
    rfl
  · obtain ⟨a, ns, rfl, hS, hlen, q⟩ := h
    refine ⟨_,
      (pss_cons (ps_set (i := 1) scLaw.nd rfl (.inl rfl) (pe_call (ok_law_tape T) (hr.mono (by decide)) (by rfl) T.g_law_tape T.F_law_tape.kp T.b_law_tape .nil pass0 (pa_cons (pv 0) pa_nil)))
      (pss_cons (ps_for PassesOwn.never rfl (pi_range1 (by rfl) T.mrange (pa_cons (pe_callB (call_max2 rfl) (by rfl) T.mmax (by decide +kernel) (pa_cons pe_int (pa_cons (pe_callB (call_min2 rfl) (by rfl) T.mmin (by decide +kernel) (pa_cons (pe_callB call_len_seq (by rfl) T.mlen PySem.boot_len (pa_cons (pv 0) pa_nil)) (pa_cons pe_int pa_nil))) pa_nil))) pa_nil)) (pg_name (i := 2) scLaw.nd rfl (.inl rfl))
      (pss_cons (ps_set (i := 3) scLaw.nd rfl (.inl rfl) (pe_call (ok_law_drawn_parts T) (hr.mono (by decide)) (by rfl) T.g_law_drawn_parts T.F_law_drawn_parts.kp T.b_law_drawn_parts .nil pass0 (pa_cons (pv 1) pa_nil)))
      (pss_cons (ps_set (i := 4) scLaw.nd rfl (.inl rfl) (pe_call (ok_law_near T) (hr.mono (by decide)) (by rfl) T.g_law_near T.F_law_near.kp T.b_law_near .nil pass0 (pa_cons (pv 1) (pa_cons (pv 3) pa_nil))))
      (pss_cons (ps_par (i := 5) (j := 6) rfl scLaw.nd rfl rfl (by decide) rfl rfl (pa_cons (pe_lc (own := [("_law_who", 12), ("_law_bears", 13)]) (g := gTup K 2 (gCons (gName 12) (gCons (gName 13) gNil))) (tt := tYes) rfl scLaw.nd (pi_list (pe_ix ix_tup (pv 3) pe_int (fun _ _ => rfl))) (blkOk_by (N := NLaw) (own := [("_law_who", 12), ("_law_bears", 13)]) (sc := defScope sLaw) (by decide +kernel)) (fun _ _ _ _ _ => pg_tup rfl (pgs_cons (pg_name (i := 12) scLaw.nd rfl (Or.inl rfl)) (pgs_cons (pg_name (i := 13) scLaw.nd rfl (Or.inl rfl)) pgs_nil))) (fun _ _ _ _ _ => pts_nil) (fun _ _ _ _ _ => (pe_make (mk_Boat T) (okBoat___init__ T) (hr.mono (by decide)) (by rfl) T.gCBoat T.bBoat___init__ .nil pass0 (pa_cons (pv 12) (pa_cons (pv 13) pa_nil))))) (pa_cons (pe_callTy call_list_of (by rfl) T.mlist (by decide +kernel) (pa_cons (pe_ix ix_tup (pv 3) pe_int (fun _ _ => rfl)) pa_nil)) pa_nil)) (by rfl))
      (pss_cons (ps_par (i := 7) (j := 8) rfl scLaw.nd rfl rfl (by decide) rfl rfl (pa_cons (pe_make (mk_Bridge T) (okBridge___init__ T) (hr.mono (by decide)) (by rfl) T.gCBridge T.bBridge___init__ .nil pass0 (pa_cons (pv 5) (pa_cons (pv 6) pa_nil))) (pa_cons (pe_call (ok_law_made T) (hr.mono (by decide)) (by rfl) T.g_law_made T.F_law_made.kp T.b_law_made .nil pass0 (pa_cons (pv 4) pa_nil)) pa_nil)) (by rfl))
      (pss_cons (ps_if (pt_cmpR (op_neY (mt_Bridge___eq__ T).at_ (mt_Bridge___eq__ T).fn T.hmBridge T.neBridge (okBridge___eq__ T) T.bBridge___eq__ (hr.mono (by decide)) pass0) (pe_makeK0 (mk_Bridge T) (okBridge___init__ T) (hr.mono (by decide)) (by rfl) T.gCBridge (kb_Bridge___init___1_spans_boats T) pass0 (pk_cons (pv 6) (pk_cons (pv 5) pk_nil))) (pv 7) (nomark _))
      (pss_one (ps_ret pe_bl))
      pss_nil)
      (pss_cons (ps_set (i := 9) scLaw.nd rfl (.inl rfl) (pe_call (ok_law_draw T) (hr.mono (by decide)) (by rfl) T.g_law_draw T.F_law_draw.kp T.b_law_draw .nil pass0 (pa_cons (pv 1) (pa_cons (pe_callB call_len_seq (by rfl) T.mlen PySem.boot_len (pa_cons (pe_ix ix_tup (pv 3) pe_int (fun _ _ => rfl)) pa_nil)) pa_nil))))
      (pss_cons (ps_if (pt_cmpR (op_neY (mt_Boat___eq__ T).at_ (mt_Boat___eq__ T).fn T.hmBoat T.neBoat (okBoat___eq__ T) T.bBoat___eq__ (hr.mono (by decide)) pass0) (pe_methA0 (pv 7) (cl_Bridge T) (mt_Bridge_boat T) (okBridge_boat T) (hr.mono (by decide)) (kb_Bridge_boat_1_name T) (fun _ => passNo rfl rfl) (by exact (pk_cons (pe_ix ix_tup (pe_ix ix_list (pe_ix ix_tup (pv 3) pe_int (fun _ _ => rfl)) (pv 9) (fun _ _ => rfl)) pe_int (fun _ _ => rfl)) pk_nil))) (pe_make (mk_Boat T) (okBoat___init__ T) (hr.mono (by decide)) (by rfl) T.gCBoat T.bBoat___init__ .nil pass0 (pa_cons (pe_ix ix_tup (pe_ix ix_list (pe_ix ix_tup (pv 3) pe_int (fun _ _ => rfl)) (pv 9) (fun _ _ => rfl)) pe_int (fun _ _ => rfl)) (pa_cons (pe_ix ix_tup (pe_ix ix_list (pe_ix ix_tup (pv 3) pe_int (fun _ _ => rfl)) (pv 9) (fun _ _ => rfl)) pe_int (fun _ _ => rfl)) pa_nil))) (nomark _))
      (pss_one (ps_ret pe_bl))
      pss_nil)
      (pss_cons (ps_if (PW.pt (pw_or (pt_cmpR (op_dqB true monBoat (dqB_ins (okBoat___eq__ T) hspBoat (mt_Boat___eq__ T).at_ (mt_Boat___eq__ T).fn T.bBoat___eq__ pass0 selfBoat) (hr.mono (by decide))) (pv 5) (pe_meth0 (pe_call (ok_law_made T) (hr.mono (by decide)) (by rfl) T.g_law_made T.F_law_made.kp T.b_law_made .nil pass0 (pa_cons (pv 3) pa_nil)) (cl_Bridge T) (mt_Bridge_boats T) (okBridge_boats T) (hr.mono (by decide)) T.bBridge_boats .nil pass0) (nomark _)) (pw_or1 (pt_cmpR (op_neD hr.units) (pv 6) (pe_ix ix_tup (pv 3) pe_int (fun _ _ => rfl)) (nomark _)))))
      (pss_one (ps_ret pe_bl))
      pss_nil)
      (pss_cons (ps_expr (pe_bm0 PySem.F.plainAttrs_list PySem.F.slot_list_reverse PySem.F.type_list_reverse mt_reverse (pv 5)))
      (pss_cons (ps_expr (pe_bm PySem.F.plainAttrs_list PySem.F.slot_list_append PySem.F.type_list_append mt_append (pv 6) (pa_cons pe_int pa_nil)))
      (pss_cons (ps_if (PW.pt (pw_or (pt_not (pt_val (pe_call (ok_law_is_bridge T) (hr.mono (by decide)) (by rfl) T.g_law_is_bridge T.F_law_is_bridge.kp T.b_law_is_bridge .nil pass0 (pa_cons (pv 7) (pa_cons (pv 3) pa_nil))))) (pw_or1 (pt_not (pt_val (pe_call (ok_law_is_bridge T) (hr.mono (by decide)) (by rfl) T.g_law_is_bridge T.F_law_is_bridge.kp T.b_law_is_bridge .nil pass0 (pa_cons (pv 8) (pa_cons (pv 4) pa_nil))))))))
      (pss_one (ps_ret pe_bl))
      pss_nil)
      (pss_cons (ps_set (i := 10) scLaw.nd rfl (.inl rfl) (pe_cmpR (op_eqD hr.units) (pv 3) (pv 4) (nomark _)))
      (pss_cons (ps_if (pt_cmpR (op_neD hr.units) (pe_lst (pa_cons (pe_cmpR (op_eqY (mt_Bridge___eq__ T).at_ (mt_Bridge___eq__ T).fn (okBridge___eq__ T) T.bBridge___eq__ (hr.mono (by decide)) pass0) (pv 7) (pv 8) (nomark _)) (pa_cons (pe_cmpR (op_eqY (mt_Bridge___eq__ T).at_ (mt_Bridge___eq__ T).fn (okBridge___eq__ T) T.bBridge___eq__ (hr.mono (by decide)) pass0) (pv 8) (pv 7) (nomark _)) (pa_cons (pe_cmpR (op_neY (mt_Bridge___eq__ T).at_ (mt_Bridge___eq__ T).fn T.hmBridge T.neBridge (okBridge___eq__ T) T.bBridge___eq__ (hr.mono (by decide)) pass0) (pv 7) (pv 8) (nomark _)) (pa_cons (pe_cmpR (op_eqY (mt_Bridge___eq__ T).at_ (mt_Bridge___eq__ T).fn (okBridge___eq__ T) T.bBridge___eq__ (hr.mono (by decide)) pass0) (pv 7) (pe_call (ok_law_made T) (hr.mono (by decide)) (by rfl) T.g_law_made T.F_law_made.kp T.b_law_made .nil pass0 (pa_cons (pv 3) pa_nil)) (nomark _)) pa_nil))))) (pe_lst (pa_cons (pv 10) (pa_cons (pv 10) (pa_cons (pe_not (pv 10)) (pa_cons pe_bl pa_nil))))) (nomark _))
      (pss_one (ps_ret pe_bl))
      pss_nil)
      (pss_cons (ps_for PassesOwn.never rfl (pi_list (pe_lst (pa_cons (pe_callTy (call_strOwn (mt_Bridge___str__ T).at_ (mt_Bridge___str__ T).fn (okBridge___str__ T) T.bBridge___str__ (hr.mono (by decide)) pass0) (by rfl) T.mstr (by decide +kernel) (pa_cons (pv 7) pa_nil)) (pa_cons (pv 3) (pa_cons (pv 5) (pa_cons pe_non (pa_cons (pe_meth0 (pv 7) (cl_Bridge T) (mt_Bridge_boats T) (okBridge_boats T) (hr.mono (by decide)) T.bBridge_boats .nil pass0) (pa_cons pe_dnewK pa_nil)))))))) (pg_name (i := 11) scLaw.nd rfl (.inl rfl))
      (pss_one (ps_if (PW.pt (pw_or (pt_cmpR (op_eqY (mt_Bridge___eq__ T).at_ (mt_Bridge___eq__ T).fn (okBridge___eq__ T) T.bBridge___eq__ (hr.mono (by decide)) pass0) (pv 7) (pv 11) (nomark _)) (pw_or1 (pt_cmpR (op_orR (op_eqY (mt_Bridge___eq__ T).at_ (mt_Bridge___eq__ T).fn (okBridge___eq__ T) T.bBridge___eq__ (hr.mono (by decide)) pass0) (op_eqR (mt_Bridge___eq__ T).at_ (mt_Bridge___eq__ T).fn ⟨T.subBridge_NoneType, T.subBridge_int, T.subBridge_str, T.subBridge_list, T.subBridge_tuple, T.subBridge_dict⟩ (okBridge___eq__ T) T.bBridge___eq__ (hr.mono (by decide)) pass0)) (pv 11) (pv 7) (nomark _)))))
      (pss_one (ps_ret pe_bl))
      pss_nil)))
      (pss_one (ps_if (PW.pt (pw_or (pt_cmpR op_ne (pe_bm PySem.F.plainAttrs_list PySem.F.slot_list_index PySem.F.type_list_index (mt_indexB (dokBridge T) (eqB_ins (dokBridge T) (mt_Bridge___eq__ T).at_ (mt_Bridge___eq__ T).fn T.nfBridge (okBridgeB T) T.bBridge___eq__ pass0) (hr.mono (by decide))) (pe_lst (pa_cons (pv 8) (pa_cons (pv 7) pa_nil))) (pa_cons (pv 7) pa_nil)) (pe_callTy call_int1 (by rfl) T.mint (by decide +kernel) (pa_cons (pe_not (pv 10)) pa_nil)) (nomark _)) (pw_or1 (pt_not (pt_val (pe_callG (ok_law_names_right T) gd (hr.mono (by decide)) (by rfl) T.g_law_names_right T.F_law_names_right.kp T.b_law_names_right .nil pass0 (pa_cons (pv 1) (pa_cons (pv 7) (pa_cons (pv 3) pa_nil)))))))))
      (pss_one (ps_ret pe_bl))
      pss_nil)))))))))))))))))
      (pss_one (ps_ret pe_bl))))
      , ?_⟩
    walk_at "s"
    refine ⟨a, ns, rfl, hS, hlen, fun tp c H1 n1 n2 s01 T1 => ?_⟩
    walk_at "s"
    refine ⟨a, _, rfl, .inl (sqL_same hS s01), ?_⟩
    walk_at "s"
    rw [List.length_map]
    obtain ⟨top, hlow, hlo4, et⟩ := if_top10 (n := (ns.length : Int))
    rw [et]
    refine for_range (lo := 0) (n := top.toNat) (fun i σ H2 => ∃ (w2 w3 w4 w5 w6 w7 w8 w9 w10 w11 w12 w13 : Option V), σ = [some (.ref a), some (.ref tp), w2, w3, w4, w5, w6, w7, w8, w9, w10, w11, w12, w13] ∧ Tape H2 tp c (300 * i))
      ⟨_, _, _, _, _, _, _, _, _, _, _, _, rfl, T1⟩ ?_ ?_
    · rintro i σ H2 hi ⟨w2, w3, w4, w5, w6, w7, w8, w9, w10, w11, w12, w13, rfl, T2⟩
      have hi12 : i < 12 := by omega
      walk_at "s"
      refine ⟨tp, c, _, rfl, by omega, T2, fun q1 r1 z1 rows spans H3 hg1 hb1 hn1 hp1 nr1 nz1 T3 k3 => ?_⟩
      walk_at "s"
      refine ⟨tp, c, _, q1, r1, z1, rows, spans, rfl, by omega, T3, hp1, hg1, hn1, hb1, nr1, nz1, fun q2 r2 z2 rows2 spans2 H4 hg2 hn2 hb2 hp2 nr2 nz2 T4 k4 => ?_⟩
      obtain ⟨yt3, eyt3⟩ := T3.tape
      have hp14 := hp1.keep eyt3 k4 nr1 nz1
      obtain ⟨xs, er, hrw⟩ := id hp14.rw
      have hxl := hrw.len
      have hl0 := hg1.l0
      have hl1 := hg1.l1
      have hsl := hg1.sl
      walk_at "s"
      refine i_ixT0 (SqT.of hp14.tp) ?_
      refine ⟨r1, rfl, ⟨_, SqL.of er⟩, fun D hD => ?_⟩
      have nD := T4.ne hD
      refine lc_list (K := K) (a := r1) (xs := xs) (fun k H' => ∃ ys, H' D = some (.lst ys) ∧ Boats T.CBoat H' ys (rows.take k) ∧ ys.length = k ∧ Same H4 H') ⟨[], upd_same, .nil, rfl, same_upd hD⟩ (fun k H' _ ⟨_, _, _, _, z⟩ => SqL.of (z _ _ er)) ?_ ?_
      · rintro k y H' hy ⟨ys, eD, hys, ly, si⟩
        obtain ⟨b, x, rfl, hx, hb⟩ := hrw.at hy
        have hk : k < xs.length := (List.getElem?_eq_some_iff.mp hy).1
        refine ⟨b, _, rfl, SqT.of (si _ _ hb), rfl, ?_⟩
        walk_at "s"
        intro x1 dx1 hx1 hdx1 ne1
        refine ⟨x1, dx1, x.1, x.2, rfl, upd_same, fun H5 hb5 k5 => ⟨rfl, ?_⟩⟩
        have s5 := made_same hx1 hdx1 k5
        have eD5 := s5 _ _ eD
        obtain ⟨dx5, eb5⟩ := id hb5
        have nxD : x1 ≠ D := ne_of eb5 eD5 (by intro z; cases z)
        refine ⟨ys, eD5, lt_line (by omega), ys ++ [.ref x1], upd_same, ?_, by rw [List.length_append, ly]; rfl, app_same hD (si.trans s5)⟩
        have h3 : Boats T.CBoat (upd H5 D (.lst (ys ++ [.ref x1]))) ys (rows.take k) := (hys.same s5).mono fun a dx n b e => by rw [upd_ne (ne_of e eD5 (by intro z; cases z))]; exact e
        rw [List.take_succ, hx]
        exact h3.app (.cons ⟨dx5, by rw [upd_ne nxD]; exact eb5⟩ .nil)
      rintro H5 ⟨ys, eD, hys, ly, s5⟩
      rw [List.take_of_length_le (by omega)] at hys
      have hp15 := hp14.same s5
      walk_at "s"
      refine i_ixT1 (SqT.of hp15.tp) ?_
      walk_at "s"
      refine ⟨z1, _, rfl, .inl (SqL.of hp15.sp), fun Bm hBm => ?_⟩
      have u5 := same_upd (o := .lst (spans.map V.int)) hBm
      have T5 := (T4.same s5).new (o := .lst (spans.map V.int)) hBm
      have nB := (T4.same s5).ne hBm
      have s6 := s5.trans u5
      have eB : (upd H5 Bm (.lst (spans.map V.int))) Bm = some (.lst (spans.map V.int)) := upd_same
      have eD6 := u5 _ _ eD
      have hys6 := hys.same u5
      have nDB : D ≠ Bm := fun e => by rw [← e, eD] at hBm; cases hBm
      have nr1D : r1 ≠ D := fun e => by rw [← e, er] at hD; cases hD
      generalize upd H5 Bm (.lst (spans.map V.int)) = H6 at s6 T5 eB eD6 hys6 ⊢
      walk_at "s"
      intro x dx hx hdx ne
      have mk1 : Same H6 (upd (upd H6 dx (.own x)) x (.ins T.CBridge dx [])) := fun b o e => by
        rw [upd_ne (ne_of_none e hx), upd_ne (ne_of_none e hdx)]; exact e
      refine ⟨x, dx, D, Bm, ys, rows, spans, rfl, upd_same, mk1 _ _ eD6, hys6.same mk1, mk1 _ _ eB, hg1, fun bl sl H7 hbl7 hsl7 hbr k7 => ⟨rfl, ?_⟩⟩
      have s7 : Same H6 H7 := fun b o e => k7 b o (ne_of_none e hx) (mk1 _ _ e)
      have T7 := T5.same s7
      walk_at "s"
      have s47 := s6.trans s7
      refine ⟨q2, r2, z2, rows2, spans2, rfl, hp2.same s47, hg2, fun o ol ob H8 hol hob s8 hbo => ?_⟩
      have hb8 := hbr.same s8
      have T8 := T7.same s8
      have s48 := s47.trans s8
      have eD8 := (s7.trans s8) _ _ eD6
      have eB8 := (s7.trans s8) _ _ eB
      have hys8 := (hys6.same s7).same s8
      have l1 : spans.length ≤ 1000 := by omega
      have l2 : spans2.length ≤ 1000 := by have := hg2.sl; have := hg2.l1; omega
      have nbl : bl ≠ tp := (T5.same mk1).ne hbl7
      have nsl : sl ≠ tp := (T5.same mk1).ne hsl7
      have nol : ol ≠ tp := T7.ne hol
      have nob : ob ≠ tp := T7.ne hob
      walk_at "s"
      intro y dy hy hdy ney
      have mk2 : Same H8 (upd (upd H8 dy (.own y)) y (.ins T.CBridge dy [])) := fun b o e => by
        rw [upd_ne (ne_of_none e hy), upd_ne (ne_of_none e hdy)]; exact e
      refine ⟨y, dy, D, Bm, ys, rows, spans, rfl, upd_same, mk2 _ _ eD8, hys8.same mk2, mk2 _ _ eB8, hg1, fun yl yb H9 hyl hyb hbr9 k9 => ⟨rfl, ?_⟩⟩
      have s9 : Same H8 H9 := fun b o e => k9 b o (ne_of_none e hy) (mk2 _ _ e)
      walk_at "s"
      refine neBr T hbr9 (hb8.same s9) l1 l1 fun H10 s10 => ?_
      rw [decide_eq_true rfl, decide_eq_true rfl]
      refine ⟨_, rfl, ?_⟩
      refine ifF rfl ?_
      have s410 := (s48.trans s9).trans s10
      have T10 := (T8.same s9).same s10
      have hb10 := (hb8.same s9).same s10
      have hp10 := hp14.same s410
      walk_at "s"
      refine i_ixT0 (SqT.of hp10.tp) ?_
      walk_at "s"
      refine ⟨r1, xs, rfl, .inl (SqL.of (s410 _ _ er)), ?_⟩
      walk_at "s"
      refine dr _ T10 (by omega) (by omega) (by omega) fun a0 H11 a1 a2 T11 k11 => ?_
      obtain ⟨at', rfl⟩ := Int.eq_ofNat_of_zero_le a1
      have hat : at' < rows.length := by omega
      obtain ⟨y10, ey10⟩ := T10.tape
      have hb11 := hb10.keep ey10 k11 nbl nsl
      have hp11 := hp10.keep ey10 k11 nr1 nz1
      obtain ⟨xs', er', hrw'⟩ := id hp11.rw
      obtain ⟨ta, ta1, ta2⟩ := hrw'.at2 hat
      obtain ⟨dx11, bs11, f1, f2, f3⟩ := id hb11.ex
      have mrow := List.getElem_mem hat
      generalize rows[at'] = rw0 at ta2 mrow
      obtain ⟨low0, len0⟩ := hn1 _ mrow
      walk_at "s"
      refine ⟨x, dx11, _, rfl, f1, brF_no bl sl (by decide +kernel) (by decide +kernel), ?_⟩
      walk_at "s"
      refine i_ixT0 (SqT.of hp11.tp) ?_
      walk_at "s"
      refine i_ixLe at' (SqL.of er') rfl ta1 ?_
      walk_at "s"
      refine i_ixT0 (SqT.of ta2) ?_
      walk_at "s"
      refine ⟨x, bl, sl, _, rows, spans, rfl, hb11, fun r hr => (hn1 r hr).1, (thing_str (F := tp) (low_ok low0) (by have := low0.1; omega)).any, fun ab k rb hk ey hab => ?_, fun hno => absurd rfl (hno rw0 mrow)⟩
      have erb : rb = rw0 := fst_inj hg1.nd (List.mem_of_getElem? hk) mrow (V.str.inj ey).symm
      subst erb
      walk_at "s"
      refine i_ixT0 (SqT.of hp11.tp) ?_
      walk_at "s"
      refine i_ixLe at' (SqL.of er') rfl ta1 ?_
      walk_at "s"
      refine i_ixT0 (SqT.of ta2) ?_
      walk_at "s"
      refine i_ixT0 (SqT.of hp11.tp) ?_
      walk_at "s"
      refine i_ixLe at' (SqL.of er') rfl ta1 ?_
      walk_at "s"
      refine i_ixT1 (SqT.of ta2) ?_
      walk_at "s"
      intro nb dn hnb hdn nen
      refine ⟨nb, dn, rb.1, rb.2, rfl, upd_same, fun H12 hb12 k12 => ⟨rfl, ?_⟩⟩
      have s12 := made_same hnb hdn k12
      walk_at "s"
      refine neBo T (hab.elim fun dz ez => ⟨dz, s12 _ _ ez⟩) hb12 ?_
      refine ⟨_, rfl, ?_⟩
      refine ifF rfl ?_
      have hp12 := hp11.same s12
      have hb12' := hb11.same s12
      have hys12 : Boats T.CBoat H12 ys rows := (((((hys8.same s9).same s10).mono fun a dx n b e => k11 _ _ (ne_of e ey10 (by intro z; cases z)) e).same s12))
      have eD12 := s12 _ _ (k11 _ _ nD ((s9.trans s10) _ _ eD8))
      have eB12 := s12 _ _ (k11 _ _ nB ((s9.trans s10) _ _ eB8))
      have T12 := T11.same s12
      have hp2_12 := ((hp2.same s410).keep ey10 k11 nr2 nz2).same s12
      have hbo12 := (((hbo.same s9).same s10).keep ey10 k11 nol nob).same s12
      walk_at "s"
      refine ⟨q1, r1, z1, rows, spans, rfl, hp12, hg1, fun m ml mb H13 hml hmb s13 hbm => ?_⟩
      obtain ⟨dxm, bsm, m1, m2, m3⟩ := id hbm.ex
      walk_at "s"
      refine ⟨m, dxm, _, rfl, m1, brF_mboats ml mb, ?_⟩
      walk_at "s"
      refine ⟨m, ml, mb, rows, spans, rfl, hbm, fun bl2 bs2 H14 s14 hbl2 el2 hbs2 => ?_⟩
      walk_at "s"
      have s1214 := s13.trans s14
      refine ⟨_, boats_eqB (s1214 _ _ eD12) el2 (hys12.same s1214) hbs2, fun H15 s15 => ?_⟩
      rw [decide_eq_true rfl]
      have s1215 := s1214.trans s15
      have hp15' := hp12.same s1215
      walk_at "s"
      refine i_ixT1 (SqT.of hp15'.tp) ?_
      walk_at "s"
      refine ⟨.list (spans.map PyData.int), .list (spans.map PyData.int), .lst (SqL.of (s1215 _ _ eB12)) (dp_ints _), .lst (SqL.of hp15'.sp) (dp_ints _), ke_shaped_ints _, ke_shaped_ints _, ?_⟩
      rw [eqv_ints, decide_eq_true rfl]
      walk_at "s"
      have eD15 := s1215 _ _ eD12
      have eB15 := s1215 _ _ eB12
      have nblD : bl ≠ D := fun e => by rw [e, mk1 _ _ eD6] at hbl7; cases hbl7
      have nslD : sl ≠ D := fun e => by rw [e, mk1 _ _ eD6] at hsl7; cases hsl7
      have nblB : bl ≠ Bm := fun e => by rw [e, mk1 _ _ eB] at hbl7; cases hbl7
      have nslB : sl ≠ Bm := fun e => by rw [e, mk1 _ _ eB] at hsl7; cases hsl7
      have nolD : ol ≠ D := fun e => by rw [e, s7 _ _ eD6] at hol; cases hol
      have nobD : ob ≠ D := fun e => by rw [e, s7 _ _ eD6] at hob; cases hob
      have nolB : ol ≠ Bm := fun e => by rw [e, s7 _ _ eB] at hol; cases hol
      have nobB : ob ≠ Bm := fun e => by rw [e, s7 _ _ eB] at hob; cases hob
      have nz1D : z1 ≠ D := fun e => by rw [← e, hp14.sp] at hD; cases hD
      have nr2D : r2 ≠ D := fun e => by rw [← e, hp2.rw.choose_spec.1] at hD; cases hD
      have nz2D : z2 ≠ D := fun e => by rw [← e, hp2.sp] at hD; cases hD
      have nr1B : r1 ≠ Bm := fun e => by rw [← e, s5 _ _ er] at hBm; cases hBm
      have nz1B : z1 ≠ Bm := fun e => by rw [← e, s5 _ _ hp14.sp] at hBm; cases hBm
      have nr2B : r2 ≠ Bm := fun e => by rw [← e, s5 _ _ hp2.rw.choose_spec.1] at hBm; cases hBm
      have nz2B : z2 ≠ Bm := fun e => by rw [← e, s5 _ _ hp2.sp] at hBm; cases hBm
      have nDc : D ≠ c := T4.nec hD
      have nBc : Bm ≠ c := (T4.same s5).nec hBm
      have o15 := hb12'.same s1215
      have o2_15 := hbo12.same s1215
      have p2_15 := hp2_12.same s1215
      have T15 := T12.same s1215
      refine ⟨.inl ⟨rfl, _, SqL.of eD15⟩, D, ys, rfl, rfl, eD15, ?_⟩
      have o16 := o15.updL (o := .lst ys.reverse) eD15 nblD nslD
      have o2_16 := o2_15.updL (o := .lst ys.reverse) eD15 nolD nobD
      have p16 := hp15'.updL (o := .lst ys.reverse) eD15 nr1D nz1D
      have p2_16 := p2_15.updL (o := .lst ys.reverse) eD15 nr2D nz2D
      have T16 := T15.upd (o := .lst ys.reverse) nD nDc
      have eB16 : (upd H15 D (.lst ys.reverse)) Bm = some (.lst (spans.map V.int)) := by rw [upd_ne nDB.symm]; exact eB15
      have eD16 : (upd H15 D (.lst ys.reverse)) D = some (.lst ys.reverse) := upd_same
      generalize upd H15 D (.lst ys.reverse) = H16 at o16 o2_16 p16 p2_16 T16 eB16 eD16 ⊢
      walk_at "s"
      refine ⟨.inl ⟨rfl, _, SqL.of eB16⟩, ?_⟩
      walk_at "s"
      refine ⟨Bm, _, _, rfl, rfl, eB16, lt_line (by rw [List.length_map]; omega), ?_⟩
      have o17 := o16.updL (o := .lst (spans.map V.int ++ [.int 1])) eB16 nblB nslB
      have o2_17 := o2_16.updL (o := .lst (spans.map V.int ++ [.int 1])) eB16 nolB nobB
      have p17 := p16.updL (o := .lst (spans.map V.int ++ [.int 1])) eB16 nr1B nz1B
      have p2_17 := p2_16.updL (o := .lst (spans.map V.int ++ [.int 1])) eB16 nr2B nz2B
      have T17 := T16.upd (o := .lst (spans.map V.int ++ [.int 1])) nB nBc
      have eD17 : (upd H16 Bm (.lst (spans.map V.int ++ [.int 1]))) D = some (.lst ys.reverse) := by rw [upd_ne nDB]; exact eD16
      generalize upd H16 Bm (.lst (spans.map V.int ++ [.int 1])) = H17 at o17 o2_17 p17 p2_17 T17 eD17 ⊢
      walk_at "s"
      refine ⟨x, bl, sl, q1, r1, z1, rows, spans, rfl, o17, p17, hg1, fun H18 s18 => ?_⟩
      walk_at "s"
      refine ⟨o, ol, ob, q2, r2, z2, rows2, spans2, rfl, o2_17.same s18, p2_17.same s18, hg2, fun H19 s19 => ?_⟩
      have s1719 := s18.trans s19
      have o19 := o17.same s1719
      have o2_19 := o2_17.same s1719
      have p19 := p17.same s1719
      have p2_19 := p2_17.same s1719
      have T19 := T17.same s1719
      have eD19 := s1719 _ _ eD17
      walk_at "s"
      refine ⟨_, _, parts_dp p19, parts_dp p2_19, parts_shaped fun r hr => (hn1 r hr).1, parts_shaped fun r hr => (hn2 r hr).1, ?_⟩
      rw [parts_eqv]
      have sym : (decide (rows2 = rows) && decide (spans2 = spans)) = (decide (rows = rows2) && decide (spans = spans2)) := by
        rw [decide_eq_decide.mpr (eq_comm (a := rows2)), decide_eq_decide.mpr (eq_comm (a := spans2))]
      walk_at "s"
      refine eqBr T o19 o2_19 l1 l2 fun H20 s20 => ?_
      walk_at "s"
      refine eqBr T (o2_19.same s20) (o19.same s20) l2 l1 fun H21 s21 => ?_
      rw [sym]
      have s1921 := s20.trans s21
      walk_at "s"
      refine neBr T (o19.same s1921) (o2_19.same s1921) l1 l2 fun H22 s22 => ?_
      have s1922 := s1921.trans s22
      walk_at "s"
      refine ⟨q1, r1, z1, rows, spans, rfl, p19.same s1922, hg1, fun g gl gb H23 _ _ s23 hgb => ?_⟩
      have s1923 := s1922.trans s23
      walk_at "s"
      refine eqBr T (o19.same s1923) hgb l1 l1 fun H24 s24 => ?_
      rw [decide_eq_true rfl, decide_eq_true rfl]
      have s1924 := s1923.trans s24
      generalize hbb : (decide (rows = rows2) && decide (spans = spans2)) = bb
      walk_at "s"
      intro la hla
      have u24 := same_upd (o := .lst [.bl bb, .bl bb, .bl !bb, .bl (true && true)]) hla
      walk_at "s"
      intro lb hlb
      have u25 := same_upd (o := .lst [.bl bb, .bl bb, .bl !bb, .bl true]) hlb
      have s1925 := s1924.trans (u24.trans u25)
      refine ⟨.list [.bool bb, .bool bb, .bool !bb, .bool true], .list [.bool bb, .bool bb, .bool !bb, .bool true], .lst (SqL.of (upd_at hlb upd_same)) (.cons (.bl _) (.cons (.bl _) (.cons (.bl _) (.cons (.bl _) .nil)))), .lst (SqL.of upd_same) (.cons (.bl _) (.cons (.bl _) (.cons (.bl _) (.cons (.bl _) .nil)))), by cases bb <;> decide +kernel, by cases bb <;> decide +kernel, ?_⟩
      rw [show PyData.eqv (.list [.bool bb, .bool bb, .bool !bb, .bool true]) (.list [.bool bb, .bool bb, .bool !bb, .bool true]) = true from SeqAt.eqv_refl _ (by cases bb <;> decide +kernel)]
      walk_at "s"
      generalize upd (upd H24 la (.lst [.bl bb, .bl bb, .bl !bb, .bl (true && true)])) lb (.lst [.bl bb, .bl bb, .bl !bb, .bl true]) = H25 at s1925 ⊢
      have o25 := o19.same s1925
      have p25 := p19.same s1925
      have eD25 := s1925 _ _ eD19
      obtain ⟨sp0, sps, rfl⟩ : ∃ a0 as, spans = a0 :: as := by
        cases spans with
        | nil => simp at hsl
        | cons x r => exact ⟨x, r, rfl⟩
      have nice1 : Nice rows sp0 sps := ⟨hg1, hn1, fun r hr => hb1 r hr⟩
      obtain ⟨dx25, bs25, g1, g2, g3⟩ := id o25.ex
      refine ⟨x, dx25, _, rfl, g1, x, bl, sl, rows, sp0, sps, rfl, o25, nice1, fun H26 s26 => ?_⟩
      refine ⟨_, rfl, ?_⟩
      have o26 := o25.same s26
      obtain ⟨dx26, bs26, g1', g2', g3'⟩ := id o26.ex
      walk_at "s"
      refine ⟨x, dx26, _, rfl, g1', brF_mboats bl sl, ?_⟩
      walk_at "s"
      refine ⟨x, bl, sl, rows, sp0 :: sps, rfl, o26, fun bo bs27 H27 s27 _ ebo hbo27 => ?_⟩
      walk_at "s"
      intro dk hdk
      have u28 := same_upd (o := .dK []) hdk
      have edk : (upd H27 dk (.dK [])) dk = some (.dK []) := upd_same
      generalize upd H27 dk (.dK []) = H28 at u28 edk ⊢
      have s2528 := (s26.trans s27).trans u28
      walk_at "s"
      intro lt hlt
      have u29 := same_upd (o := .lst [.str (brS rows sp0 sps), .ref q1, .ref D, .non, .ref bo, .ref dk]) hlt
      have elt : (upd H28 lt (.lst [.str (brS rows sp0 sps), .ref q1, .ref D, .non, .ref bo, .ref dk])) lt = some (.lst [.str (brS rows sp0 sps), .ref q1, .ref D, .non, .ref bo, .ref dk]) := upd_same
      have s2529 := s2528.trans u29
      have ebo29 := u29 _ _ (u28 _ _ ebo)
      have edk29 := u29 _ _ edk
      generalize upd H28 lt (.lst [.str (brS rows sp0 sps), .ref q1, .ref D, .non, .ref bo, .ref dk]) = H29 at s2529 elt ebo29 edk29 ⊢
      have o29 := o25.same s2529
      refine ⟨lt, rfl, ⟨_, SqL.of elt⟩, ?_⟩
      refine for_list (K := K) (a := lt) (xs := [.str (brS rows sp0 sps), .ref q1, .ref D, .non, .ref bo, .ref dk]) (fun j σ H' => ∃ (w11 : Option V), σ = [some (.ref a), some (.ref tp), some (.int (0 + (i : Int))), some (.ref q1), some (.ref q2), some (.ref D), some (.ref Bm), some (.ref x), some (.ref o), some (.int (at' : Int)), some (.bl bb), w11, w12, w13] ∧ Same H29 H')
        ⟨_, rfl, same_refl⟩ (fun j σ H' _ ⟨_, _, z⟩ => SqL.of (z _ _ elt)) ?_ ?_
      · rintro j y σ H30 hy ⟨w11, rfl, s30⟩
        have hoth : OthB K T.CBridge H30 y := by
          have hm := List.mem_of_getElem? hy
          simp only [List.mem_cons, List.not_mem_nil, or_false] at hm
          rcases hm with rfl | rfl | rfl | rfl | rfl | rfl
          · exact othB T (.base (.str _)) (.str _) T.kitBridge_str
          · have e := s30 _ _ (p25.same s2529).tp
            exact othB T (.base (.tup e)) (.tup e) T.kitBridge_tuple
          · have e := s30 _ _ (s2529 _ _ eD25)
            exact othB T (.base (.lst e)) (.lst e) T.kitBridge_list
          · exact othB T (.base .non) .non T.kitBridge_NoneType
          · have e := s30 _ _ ebo29
            exact othB T (.base (.lst e)) (.lst e) T.kitBridge_list
          · have e := s30 _ _ edk29
            exact othB T (.base (.dK e)) (.dK e) T.kitBridge_dict
        obtain ⟨ty, tyx, hk, hnf, hlo⟩ := hoth
        have o30 := o29.same s30
        obtain ⟨dx30, bs30, c1, c2, c3⟩ := id o30.ex
        walk_at "s"
        refine ⟨x, dx30, _, ty, rfl, c1, tyx, hnf, x, bl, sl, y, rows, _, rfl, o30, l1, .inr ⟨ty, tyx, hk, ?_⟩⟩
        refine ⟨_, rfl, ?_⟩
        refine ifF rfl ?_
        walk_at "s"
        refine .inr ⟨x, dx30, _, rfl, c1, hlo, x, bl, sl, y, rows, _, rfl, o30, l1, .inr ⟨ty, tyx, hk, ?_⟩⟩
        refine ⟨_, rfl, ?_⟩
        refine ifF rfl ?_
        exact ⟨_, rfl, s30⟩
      · rintro σ H30 ⟨w11, rfl, s30⟩
        have sz0 := (s1925.trans s2529).trans s30
        walk_at "s"
        intro lz hlz
        have uz := same_upd (o := .lst [.ref o, .ref x]) hlz
        have oz := (o19.same sz0).same uz
        have o2z := (o2_19.same sz0).same uz
        have pz := (p19.same sz0).same uz
        have Tz := (T19.same sz0).same uz
        refine ⟨.inl ⟨rfl, _, SqL.of upd_same⟩, ?_⟩
        walk_at "s"
        cases bb
        · refine ⟨lz, _, _, fun k => if k = 0 then false else true, 1, rfl, rfl, upd_same, fun k z hz => ?_, by show _ < 2; decide, by decide, rfl, fun m hm => ?_, fun H31 s31 => ?_⟩
          · match k, hz with
            | 0, hz => cases hz; exact ⟨o, ol, ob, x, bl, sl, rows2, rows, spans2, _, rfl, rfl, o2z, oz, l2, l1, by rw [sym, hbb]; rfl⟩
            | 1, hz => cases hz; exact ⟨x, bl, sl, x, bl, sl, rows, rows, _, _, rfl, rfl, oz, oz, l1, l1, by rw [decide_eq_true rfl, decide_eq_true rfl]; rfl⟩
            | k + 2, hz => cases hz
          · have hm0 : m = 0 ∨ False := by omega
            rcases hm0 with rfl | h
            · first | (exact absurd hm (Nat.lt_irrefl 0)) | rfl
            · exact h.elim
          walk_at "s"
          refine .inr ⟨_, rfl, ?_⟩
          walk_at "s"
          refine ⟨tp, c, _, x, bl, sl, q1, r1, z1, rows, _, rfl, by omega, Tz.same s31, oz.same s31, pz.same s31, hg1, hn1, hb1, nbl, nsl, nr1, nz1, fun H32 T32 _ => ?_⟩
          refine ⟨_, rfl, ?_⟩
          refine ifF rfl ?_
          exact ⟨_, _, _, _, _, _, _, _, _, _, _, _, rfl, T32.mono (by omega)⟩
        · refine ⟨lz, _, _, fun k => if k = 0 then true else true, 0, rfl, rfl, upd_same, fun k z hz => ?_, by show _ < 2; decide, by decide, rfl, fun m hm => ?_, fun H31 s31 => ?_⟩
          · match k, hz with
            | 0, hz => cases hz; exact ⟨o, ol, ob, x, bl, sl, rows2, rows, spans2, _, rfl, rfl, o2z, oz, l2, l1, by rw [sym, hbb]; rfl⟩
            | 1, hz => cases hz; exact ⟨x, bl, sl, x, bl, sl, rows, rows, _, _, rfl, rfl, oz, oz, l1, l1, by rw [decide_eq_true rfl, decide_eq_true rfl]; rfl⟩
            | k + 2, hz => cases hz
          · have hm0 : m = 0 ∨ False := by omega
            rcases hm0 with rfl | h
            · first | (exact absurd hm (Nat.lt_irrefl 0)) | rfl
            · exact h.elim
          walk_at "s"
          refine .inr ⟨_, rfl, ?_⟩
          walk_at "s"
          refine ⟨tp, c, _, x, bl, sl, q1, r1, z1, rows, _, rfl, by omega, Tz.same s31, oz.same s31, pz.same s31, hg1, hn1, hb1, nbl, nsl, nr1, nz1, fun H32 T32 _ => ?_⟩
          refine ⟨_, rfl, ?_⟩
          refine ifF rfl ?_
          exact ⟨_, _, _, _, _, _, _, _, _, _, _, _, rfl, T32.mono (by omega)⟩
    · rintro σ H2 ⟨w2, w3, w4, w5, w6, w7, w8, w9, w10, w11, w12, w13, rfl, T2⟩
      walk_at "s"
      exact q _
end
set_option maxHeartbeats 0 in
theorem all_mk {l : PySem.W.OpenLaw} {w : World} {K : PySem.W.Frag} {h : Heap} {mg : Str → Option Value} {fa f_wall fis_whole f_are_boats f_are_spans f_law_tape f_law_draw f_law_pick f_law_names f_law_odd f_law_boat_rows f_law_span_row f_law_drawn_parts f_law_made f_law_is_boat f_law_is_bridge f_law_near f_law_named f_law_names_right flaw fBoat___init__ fBoat___eq__ fBoat___str__ fBoat___repr__ fBridge___init__ fBridge___eq__ fBridge___len__ fBridge___str__ fBridge_boats fBridge_spans fBridge_boat fBridge_with_boat fNoBoat___init__ CBoat CBridge CNoBoat CNoBridge CNoSpan COverload CTaken : Addr} (X : K.In h) (G : h.Ns mainGlobals mg) (hfa : mg "law" = some (.ref fa))
    {od_wall an_wall odis_whole anis_whole od_are_boats an_are_boats od_are_spans an_are_spans od_law_tape an_law_tape od_law_draw an_law_draw od_law_pick an_law_pick od_law_names an_law_names od_law_odd an_law_odd od_law_boat_rows an_law_boat_rows od_law_span_row an_law_span_row od_law_drawn_parts an_law_drawn_parts od_law_made an_law_made od_law_is_boat an_law_is_boat od_law_is_bridge an_law_is_bridge od_law_near an_law_near od_law_named an_law_named od_law_names_right an_law_names_right odlaw anlaw odBoat___init__ anBoat___init__ odBoat___eq__ anBoat___eq__ odBoat___str__ anBoat___str__ odBoat___repr__ anBoat___repr__ odBridge___init__ anBridge___init__ odBridge___eq__ anBridge___eq__ odBridge___len__ anBridge___len__ odBridge___str__ anBridge___str__ odBridge_boats anBridge_boats odBridge_spans anBridge_spans odBridge_boat anBridge_boat odBridge_with_boat anBridge_with_boat odNoBoat___init__ anNoBoat___init__ : Option Addr} {sl_wall slis_whole sl_are_boats sl_are_spans sl_law_tape sl_law_draw sl_law_pick sl_law_names sl_law_odd sl_law_boat_rows sl_law_span_row sl_law_drawn_parts sl_law_made sl_law_is_boat sl_law_is_bridge sl_law_near sl_law_named sl_law_names_right sllaw slBoat___init__ slBoat___eq__ slBoat___str__ slBoat___repr__ slBridge___init__ slBridge___eq__ slBridge___len__ slBridge___str__ slBridge_boats slBridge_spans slBridge_boat slBridge_with_boat slNoBoat___init__ : Array (Option Value)} {oc_wall kV_wall dc_wall pm_wall cd_wall ct_wall ocis_whole kVis_whole dcis_whole pmis_whole cdis_whole ctis_whole oc_are_boats kV_are_boats dc_are_boats pm_are_boats cd_are_boats ct_are_boats oc_are_spans kV_are_spans dc_are_spans pm_are_spans cd_are_spans ct_are_spans oc_law_tape kV_law_tape dc_law_tape pm_law_tape cd_law_tape ct_law_tape oc_law_draw kV_law_draw dc_law_draw pm_law_draw cd_law_draw ct_law_draw oc_law_pick kV_law_pick dc_law_pick pm_law_pick cd_law_pick ct_law_pick oc_law_names kV_law_names dc_law_names pm_law_names cd_law_names ct_law_names oc_law_odd kV_law_odd dc_law_odd pm_law_odd cd_law_odd ct_law_odd oc_law_boat_rows kV_law_boat_rows dc_law_boat_rows pm_law_boat_rows cd_law_boat_rows ct_law_boat_rows oc_law_span_row kV_law_span_row dc_law_span_row pm_law_span_row cd_law_span_row ct_law_span_row oc_law_drawn_parts kV_law_drawn_parts dc_law_drawn_parts pm_law_drawn_parts cd_law_drawn_parts ct_law_drawn_parts oc_law_made kV_law_made dc_law_made pm_law_made cd_law_made ct_law_made oc_law_is_boat kV_law_is_boat dc_law_is_boat pm_law_is_boat cd_law_is_boat ct_law_is_boat oc_law_is_bridge kV_law_is_bridge dc_law_is_bridge pm_law_is_bridge cd_law_is_bridge ct_law_is_bridge oc_law_near kV_law_near dc_law_near pm_law_near cd_law_near ct_law_near oc_law_named kV_law_named dc_law_named pm_law_named cd_law_named ct_law_named oc_law_names_right kV_law_names_right dc_law_names_right pm_law_names_right cd_law_names_right ct_law_names_right oclaw kVlaw dclaw pmlaw cdlaw ctlaw ocBoat___init__ kVBoat___init__ dcBoat___init__ pmBoat___init__ cdBoat___init__ ctBoat___init__ ocBoat___eq__ kVBoat___eq__ dcBoat___eq__ pmBoat___eq__ cdBoat___eq__ ctBoat___eq__ ocBoat___str__ kVBoat___str__ dcBoat___str__ pmBoat___str__ cdBoat___str__ ctBoat___str__ ocBoat___repr__ kVBoat___repr__ dcBoat___repr__ pmBoat___repr__ cdBoat___repr__ ctBoat___repr__ ocBridge___init__ kVBridge___init__ dcBridge___init__ pmBridge___init__ cdBridge___init__ ctBridge___init__ ocBridge___eq__ kVBridge___eq__ dcBridge___eq__ pmBridge___eq__ cdBridge___eq__ ctBridge___eq__ ocBridge___len__ kVBridge___len__ dcBridge___len__ pmBridge___len__ cdBridge___len__ ctBridge___len__ ocBridge___str__ kVBridge___str__ dcBridge___str__ pmBridge___str__ cdBridge___str__ ctBridge___str__ ocBridge_boats kVBridge_boats dcBridge_boats pmBridge_boats cdBridge_boats ctBridge_boats ocBridge_spans kVBridge_spans dcBridge_spans pmBridge_spans cdBridge_spans ctBridge_spans ocBridge_boat kVBridge_boat dcBridge_boat pmBridge_boat cdBridge_boat ctBridge_boat ocBridge_with_boat kVBridge_with_boat dcBridge_with_boat pmBridge_with_boat cdBridge_with_boat ctBridge_with_boat ocNoBoat___init__ kVNoBoat___init__ dcNoBoat___init__ pmNoBoat___init__ cdNoBoat___init__ ctNoBoat___init__ : Value} {nmNoBoat qNoBoat : Str} {NNoBoat : Addr} {bsNoBoat : List Value} {snNoBoat : List Str} {subNoBoat : List Value} {abNoBoat : Bool} {colNoBoat : Option Bool} {ddNoBoat : Option Addr} {p0NoBoat p1NoBoat p2NoBoat p3NoBoat p5NoBoat : Option Value} {tMOST_BOATS tMOST_BORNE : Tok}
    (aNoBridge : PySem.W.nsIn K mainGlobals "NoBridge" = some (some (.ref CNoBridge))) (tyNoBridge : PySem.W.typeIn K (.ref CNoBridge) = some (.type "type")) (icNoBridge : PySem.W.isClsIn K CNoBridge = true)
    (aNoSpan : PySem.W.nsIn K mainGlobals "NoSpan" = some (some (.ref CNoSpan))) (tyNoSpan : PySem.W.typeIn K (.ref CNoSpan) = some (.type "type")) (icNoSpan : PySem.W.isClsIn K CNoSpan = true)
    (aOverload : PySem.W.nsIn K mainGlobals "Overload" = some (some (.ref COverload))) (tyOverload : PySem.W.typeIn K (.ref COverload) = some (.type "type")) (icOverload : PySem.W.isClsIn K COverload = true)
    (aTaken : PySem.W.nsIn K mainGlobals "Taken" = some (some (.ref CTaken))) (tyTaken : PySem.W.typeIn K (.ref CTaken) = some (.type "type")) (icTaken : PySem.W.isClsIn K CTaken = true)
    (aNoBoat : PySem.W.nsIn K mainGlobals "NoBoat" = some (some (.ref CNoBoat)))
    (xlNoBoat : K.lookup CNoBoat = some (excClassObj nmNoBoat qNoBoat CNoBoat NNoBoat bsNoBoat [.type "KeyError", .type "LookupError", .type "Exception", .type "BaseException", .type "object"] true snNoBoat subNoBoat abNoBoat colNoBoat ddNoBoat p0NoBoat p1NoBoat p2NoBoat p3NoBoat p5NoBoat "LookupError.__new__"))
    (hdNoBoat : PySem.W.hasDictIn K CNoBoat = true) (saNoBoat : PySem.W.findIn K (.ref CNoBoat) "__setattr__" = some (some (.builtin "object.__setattr__"))) (exNoBoat : PySem.W.subIn K (.ref CNoBoat) (.type "BaseException") = some true) (tyNoBoat : PySem.W.typeIn K (.ref CNoBoat) = some (.type "type")) (kcNoBoat : PySem.W.keepIn K (.ref CNoBoat) = true) (icNoBoat : PySem.W.isClsIn K CNoBoat = true) (seNoBoat : PySem.W.subIn K (.ref CNoBoat) (.ref CNoBoat) = some true) (upNoBoat : PySem.W.subIn K (.ref CNoBoat) (.type "KeyError") = some true)
    (gaNoBoat : PySem.W.findIn K (.ref CNoBoat) "__getattribute__" = some (some (.builtin "BaseException.__getattribute__"))) (ggNoBoat : PySem.W.findIn K (.ref CNoBoat) "__getattr__" = some none) (haNoBoat : PySem.W.findIn K (.ref CNoBoat) "__class__" = some (some (.builtin "object.__class__"))) (hnNoBoat : PySem.W.specialIn K (.builtin "object.__class__") "__get__" = some (some (.builtin "getset_descriptor.__get__"))) (htNoBoat : PySem.W.takesIn K (.builtin "object.__class__") = some true) (hmNoBoat : PySem.W.mroIn K CNoBoat (.type "object") = some true)
    (nNoBoat_name : PySem.W.findIn K (.ref CNoBoat) "name" = some none)
    (noNoBoat_NoBridge : PySem.W.subIn K (.ref CNoBoat) (.ref CNoBridge) = some false)
    (noNoBoat_NoSpan : PySem.W.subIn K (.ref CNoBoat) (.ref CNoSpan) = some false)
    (noNoBoat_Overload : PySem.W.subIn K (.ref CNoBoat) (.ref COverload) = some false)
    (noNoBoat_Taken : PySem.W.subIn K (.ref CNoBoat) (.ref CTaken) = some false)
    (aBoat : PySem.W.nsIn K mainGlobals "Boat" = some (some (.ref CBoat))) (pgBoat : PySem.W.plainGet K CBoat Str.empty = true) (hdBoat : PySem.W.hasDictIn K CBoat = true) (poBoat : PySem.W.plainOver K CBoat = true) (saBoat : PySem.W.findIn K (.ref CBoat) "__setattr__" = some (some (.builtin "object.__setattr__"))) (mkBoat : PySem.W.makesIn K CBoat = true) (kcBoat : PySem.W.keepIn K (.ref CBoat) = true)
    (haBoat : PySem.W.findIn K (.ref CBoat) "__class__" = some (some (.builtin "object.__class__"))) (hnBoat : PySem.W.specialIn K (.builtin "object.__class__") "__get__" = some (some (.builtin "getset_descriptor.__get__"))) (htBoat : PySem.W.takesIn K (.builtin "object.__class__") = some true) (hmBoat : PySem.W.mroIn K CBoat (.type "object") = some true) (nfBoat : PySem.W.notFirst K CBoat (.ref CBoat) = true)
    (nBoat_name : PySem.W.findIn K (.ref CBoat) "name" = some none)
    (nBoat_bears : PySem.W.findIn K (.ref CBoat) "bears" = some none)
    (neBoat : PySem.W.findIn K (.ref CBoat) "__ne__" = some (some (.builtin "object.__ne__"))) (icBoat : PySem.W.isClsIn K CBoat = true) (tyBoat : PySem.W.typeIn K (.ref CBoat) = some (.type "type"))
    (subBoat_NoneType : PySem.W.subIn K (.ref CBoat) (.type "NoneType") = some false) (kitBoat_NoneType : PySem.W.subIn K (.type "NoneType") (.ref CBoat) = some false) (ntBoat_NoneType : PySem.W.notFirst K CBoat (.type "NoneType") = true)
    (subBoat_int : PySem.W.subIn K (.ref CBoat) (.type "int") = some false) (kitBoat_int : PySem.W.subIn K (.type "int") (.ref CBoat) = some false) (ntBoat_int : PySem.W.notFirst K CBoat (.type "int") = true)
    (subBoat_str : PySem.W.subIn K (.ref CBoat) (.type "str") = some false) (kitBoat_str : PySem.W.subIn K (.type "str") (.ref CBoat) = some false) (ntBoat_str : PySem.W.notFirst K CBoat (.type "str") = true)
    (subBoat_list : PySem.W.subIn K (.ref CBoat) (.type "list") = some false) (kitBoat_list : PySem.W.subIn K (.type "list") (.ref CBoat) = some false) (ntBoat_list : PySem.W.notFirst K CBoat (.type "list") = true)
    (subBoat_tuple : PySem.W.subIn K (.ref CBoat) (.type "tuple") = some false) (kitBoat_tuple : PySem.W.subIn K (.type "tuple") (.ref CBoat) = some false) (ntBoat_tuple : PySem.W.notFirst K CBoat (.type "tuple") = true)
    (subBoat_dict : PySem.W.subIn K (.ref CBoat) (.type "dict") = some false) (kitBoat_dict : PySem.W.subIn K (.type "dict") (.ref CBoat) = some false) (ntBoat_dict : PySem.W.notFirst K CBoat (.type "dict") = true)
    (fmBoat : PySem.W.findIn K (.ref CBoat) "__format__" = some (some (.builtin "object.__format__")))
    (aBoat___init__ : PySem.W.findIn K (.ref CBoat) "__init__" = some (some (.ref fBoat___init__))) (iBoat___init__ : PySem.W.isFn K (.ref fBoat___init__) = true) (lBoat___init__ : K.lookup fBoat___init__ = some ⟨ocBoat___init__, odBoat___init__, .func (PySem.W.fnOf "__init__" "Boat.__init__" (defArgs sBInit) (defBody sBInit) (defScope sBInit) .none kVBoat___init__ dcBoat___init__ pmBoat___init__ anBoat___init__ cdBoat___init__ ctBoat___init__), slBoat___init__⟩) (cBoat___init__ : PySem.W.codeIn K cdBoat___init__ "Boat.__init__" = true) (kBoat___init__ : PySem.W.keepIn K (.ref fBoat___init__) = true)
    (aBoat___eq__ : PySem.W.findIn K (.ref CBoat) "__eq__" = some (some (.ref fBoat___eq__))) (iBoat___eq__ : PySem.W.isFn K (.ref fBoat___eq__) = true) (lBoat___eq__ : K.lookup fBoat___eq__ = some ⟨ocBoat___eq__, odBoat___eq__, .func (PySem.W.fnOf "__eq__" "Boat.__eq__" (defArgs sBEq) (defBody sBEq) (defScope sBEq) .none kVBoat___eq__ dcBoat___eq__ pmBoat___eq__ anBoat___eq__ cdBoat___eq__ ctBoat___eq__), slBoat___eq__⟩) (cBoat___eq__ : PySem.W.codeIn K cdBoat___eq__ "Boat.__eq__" = true) (kBoat___eq__ : PySem.W.keepIn K (.ref fBoat___eq__) = true)
    (aBoat___str__ : PySem.W.findIn K (.ref CBoat) "__str__" = some (some (.ref fBoat___str__))) (iBoat___str__ : PySem.W.isFn K (.ref fBoat___str__) = true) (lBoat___str__ : K.lookup fBoat___str__ = some ⟨ocBoat___str__, odBoat___str__, .func (PySem.W.fnOf "__str__" "Boat.__str__" (defArgs sBStr) (defBody sBStr) (defScope sBStr) .none kVBoat___str__ dcBoat___str__ pmBoat___str__ anBoat___str__ cdBoat___str__ ctBoat___str__), slBoat___str__⟩) (cBoat___str__ : PySem.W.codeIn K cdBoat___str__ "Boat.__str__" = true) (kBoat___str__ : PySem.W.keepIn K (.ref fBoat___str__) = true)
    (aBoat___repr__ : PySem.W.findIn K (.ref CBoat) "__repr__" = some (some (.ref fBoat___repr__))) (iBoat___repr__ : PySem.W.isFn K (.ref fBoat___repr__) = true) (lBoat___repr__ : K.lookup fBoat___repr__ = some ⟨ocBoat___repr__, odBoat___repr__, .func (PySem.W.fnOf "__repr__" "Boat.__repr__" (defArgs sBRepr) (defBody sBRepr) (defScope sBRepr) .none kVBoat___repr__ dcBoat___repr__ pmBoat___repr__ anBoat___repr__ cdBoat___repr__ ctBoat___repr__), slBoat___repr__⟩) (cBoat___repr__ : PySem.W.codeIn K cdBoat___repr__ "Boat.__repr__" = true) (kBoat___repr__ : PySem.W.keepIn K (.ref fBoat___repr__) = true)
    (aBridge : PySem.W.nsIn K mainGlobals "Bridge" = some (some (.ref CBridge))) (pgBridge : PySem.W.plainGet K CBridge Str.empty = true) (hdBridge : PySem.W.hasDictIn K CBridge = true) (poBridge : PySem.W.plainOver K CBridge = true) (saBridge : PySem.W.findIn K (.ref CBridge) "__setattr__" = some (some (.builtin "object.__setattr__"))) (mkBridge : PySem.W.makesIn K CBridge = true) (kcBridge : PySem.W.keepIn K (.ref CBridge) = true)
    (haBridge : PySem.W.findIn K (.ref CBridge) "__class__" = some (some (.builtin "object.__class__"))) (hnBridge : PySem.W.specialIn K (.builtin "object.__class__") "__get__" = some (some (.builtin "getset_descriptor.__get__"))) (htBridge : PySem.W.takesIn K (.builtin "object.__class__") = some true) (hmBridge : PySem.W.mroIn K CBridge (.type "object") = some true) (nfBridge : PySem.W.notFirst K CBridge (.ref CBridge) = true)
    (nBridge__boats : PySem.W.findIn K (.ref CBridge) "_boats" = some none)
    (nBridge__spans : PySem.W.findIn K (.ref CBridge) "_spans" = some none)
    (neBridge : PySem.W.findIn K (.ref CBridge) "__ne__" = some (some (.builtin "object.__ne__"))) (icBridge : PySem.W.isClsIn K CBridge = true) (tyBridge : PySem.W.typeIn K (.ref CBridge) = some (.type "type"))
    (subBridge_NoneType : PySem.W.subIn K (.ref CBridge) (.type "NoneType") = some false) (kitBridge_NoneType : PySem.W.subIn K (.type "NoneType") (.ref CBridge) = some false) (ntBridge_NoneType : PySem.W.notFirst K CBridge (.type "NoneType") = true)
    (subBridge_int : PySem.W.subIn K (.ref CBridge) (.type "int") = some false) (kitBridge_int : PySem.W.subIn K (.type "int") (.ref CBridge) = some false) (ntBridge_int : PySem.W.notFirst K CBridge (.type "int") = true)
    (subBridge_str : PySem.W.subIn K (.ref CBridge) (.type "str") = some false) (kitBridge_str : PySem.W.subIn K (.type "str") (.ref CBridge) = some false) (ntBridge_str : PySem.W.notFirst K CBridge (.type "str") = true)
    (subBridge_list : PySem.W.subIn K (.ref CBridge) (.type "list") = some false) (kitBridge_list : PySem.W.subIn K (.type "list") (.ref CBridge) = some false) (ntBridge_list : PySem.W.notFirst K CBridge (.type "list") = true)
    (subBridge_tuple : PySem.W.subIn K (.ref CBridge) (.type "tuple") = some false) (kitBridge_tuple : PySem.W.subIn K (.type "tuple") (.ref CBridge) = some false) (ntBridge_tuple : PySem.W.notFirst K CBridge (.type "tuple") = true)
    (subBridge_dict : PySem.W.subIn K (.ref CBridge) (.type "dict") = some false) (kitBridge_dict : PySem.W.subIn K (.type "dict") (.ref CBridge) = some false) (ntBridge_dict : PySem.W.notFirst K CBridge (.type "dict") = true)
    (blBridge : PySem.W.findIn K (.ref CBridge) "__bool__" = some none)
    (aBridge___init__ : PySem.W.findIn K (.ref CBridge) "__init__" = some (some (.ref fBridge___init__))) (iBridge___init__ : PySem.W.isFn K (.ref fBridge___init__) = true) (lBridge___init__ : K.lookup fBridge___init__ = some ⟨ocBridge___init__, odBridge___init__, .func (PySem.W.fnOf "__init__" "Bridge.__init__" (defArgs sBrInit) (defBody sBrInit) (defScope sBrInit) .none kVBridge___init__ dcBridge___init__ pmBridge___init__ anBridge___init__ cdBridge___init__ ctBridge___init__), slBridge___init__⟩) (cBridge___init__ : PySem.W.codeIn K cdBridge___init__ "Bridge.__init__" = true) (kBridge___init__ : PySem.W.keepIn K (.ref fBridge___init__) = true)
    (aBridge___eq__ : PySem.W.findIn K (.ref CBridge) "__eq__" = some (some (.ref fBridge___eq__))) (iBridge___eq__ : PySem.W.isFn K (.ref fBridge___eq__) = true) (lBridge___eq__ : K.lookup fBridge___eq__ = some ⟨ocBridge___eq__, odBridge___eq__, .func (PySem.W.fnOf "__eq__" "Bridge.__eq__" (defArgs sBridgeEq) (defBody sBridgeEq) (defScope sBridgeEq) .none kVBridge___eq__ dcBridge___eq__ pmBridge___eq__ anBridge___eq__ cdBridge___eq__ ctBridge___eq__), slBridge___eq__⟩) (cBridge___eq__ : PySem.W.codeIn K cdBridge___eq__ "Bridge.__eq__" = true) (kBridge___eq__ : PySem.W.keepIn K (.ref fBridge___eq__) = true)
    (aBridge___len__ : PySem.W.findIn K (.ref CBridge) "__len__" = some (some (.ref fBridge___len__))) (iBridge___len__ : PySem.W.isFn K (.ref fBridge___len__) = true) (lBridge___len__ : K.lookup fBridge___len__ = some ⟨ocBridge___len__, odBridge___len__, .func (PySem.W.fnOf "__len__" "Bridge.__len__" (defArgs sBrLen) (defBody sBrLen) (defScope sBrLen) .none kVBridge___len__ dcBridge___len__ pmBridge___len__ anBridge___len__ cdBridge___len__ ctBridge___len__), slBridge___len__⟩) (cBridge___len__ : PySem.W.codeIn K cdBridge___len__ "Bridge.__len__" = true) (kBridge___len__ : PySem.W.keepIn K (.ref fBridge___len__) = true)
    (aBridge___str__ : PySem.W.findIn K (.ref CBridge) "__str__" = some (some (.ref fBridge___str__))) (iBridge___str__ : PySem.W.isFn K (.ref fBridge___str__) = true) (lBridge___str__ : K.lookup fBridge___str__ = some ⟨ocBridge___str__, odBridge___str__, .func (PySem.W.fnOf "__str__" "Bridge.__str__" (defArgs sBridgeStr) (defBody sBridgeStr) (defScope sBridgeStr) .none kVBridge___str__ dcBridge___str__ pmBridge___str__ anBridge___str__ cdBridge___str__ ctBridge___str__), slBridge___str__⟩) (cBridge___str__ : PySem.W.codeIn K cdBridge___str__ "Bridge.__str__" = true) (kBridge___str__ : PySem.W.keepIn K (.ref fBridge___str__) = true)
    (aBridge_boats : PySem.W.findIn K (.ref CBridge) "boats" = some (some (.ref fBridge_boats))) (iBridge_boats : PySem.W.isFn K (.ref fBridge_boats) = true) (lBridge_boats : K.lookup fBridge_boats = some ⟨ocBridge_boats, odBridge_boats, .func (PySem.W.fnOf "boats" "Bridge.boats" (defArgs sBrBoats) (defBody sBrBoats) (defScope sBrBoats) .none kVBridge_boats dcBridge_boats pmBridge_boats anBridge_boats cdBridge_boats ctBridge_boats), slBridge_boats⟩) (cBridge_boats : PySem.W.codeIn K cdBridge_boats "Bridge.boats" = true) (kBridge_boats : PySem.W.keepIn K (.ref fBridge_boats) = true)
    (aBridge_spans : PySem.W.findIn K (.ref CBridge) "spans" = some (some (.ref fBridge_spans))) (iBridge_spans : PySem.W.isFn K (.ref fBridge_spans) = true) (lBridge_spans : K.lookup fBridge_spans = some ⟨ocBridge_spans, odBridge_spans, .func (PySem.W.fnOf "spans" "Bridge.spans" (defArgs sBrSpans) (defBody sBrSpans) (defScope sBrSpans) .none kVBridge_spans dcBridge_spans pmBridge_spans anBridge_spans cdBridge_spans ctBridge_spans), slBridge_spans⟩) (cBridge_spans : PySem.W.codeIn K cdBridge_spans "Bridge.spans" = true) (kBridge_spans : PySem.W.keepIn K (.ref fBridge_spans) = true)
    (aBridge_boat : PySem.W.findIn K (.ref CBridge) "boat" = some (some (.ref fBridge_boat))) (iBridge_boat : PySem.W.isFn K (.ref fBridge_boat) = true) (lBridge_boat : K.lookup fBridge_boat = some ⟨ocBridge_boat, odBridge_boat, .func (PySem.W.fnOf "boat" "Bridge.boat" (defArgs sBridgeBoat) (defBody sBridgeBoat) (defScope sBridgeBoat) .none kVBridge_boat dcBridge_boat pmBridge_boat anBridge_boat cdBridge_boat ctBridge_boat), slBridge_boat⟩) (cBridge_boat : PySem.W.codeIn K cdBridge_boat "Bridge.boat" = true) (kBridge_boat : PySem.W.keepIn K (.ref fBridge_boat) = true)
    (aBridge_with_boat : PySem.W.findIn K (.ref CBridge) "with_boat" = some (some (.ref fBridge_with_boat))) (iBridge_with_boat : PySem.W.isFn K (.ref fBridge_with_boat) = true) (lBridge_with_boat : K.lookup fBridge_with_boat = some ⟨ocBridge_with_boat, odBridge_with_boat, .func (PySem.W.fnOf "with_boat" "Bridge.with_boat" (defArgs sBridgeWithBoat) (defBody sBridgeWithBoat) (defScope sBridgeWithBoat) .none kVBridge_with_boat dcBridge_with_boat pmBridge_with_boat anBridge_with_boat cdBridge_with_boat ctBridge_with_boat), slBridge_with_boat⟩) (cBridge_with_boat : PySem.W.codeIn K cdBridge_with_boat "Bridge.with_boat" = true) (kBridge_with_boat : PySem.W.keepIn K (.ref fBridge_with_boat) = true)
    (aNoBoat___init__ : PySem.W.findIn K (.ref CNoBoat) "__init__" = some (some (.ref fNoBoat___init__))) (iNoBoat___init__ : PySem.W.isFn K (.ref fNoBoat___init__) = true) (lNoBoat___init__ : K.lookup fNoBoat___init__ = some ⟨ocNoBoat___init__, odNoBoat___init__, .func (PySem.W.fnOf "__init__" "NoBoat.__init__" (defArgs sNoBoatInit) (defBody sNoBoatInit) (defScope sNoBoatInit) .none kVNoBoat___init__ dcNoBoat___init__ pmNoBoat___init__ anNoBoat___init__ cdNoBoat___init__ ctNoBoat___init__), slNoBoat___init__⟩) (cNoBoat___init__ : PySem.W.codeIn K cdNoBoat___init__ "NoBoat.__init__" = true) (kNoBoat___init__ : PySem.W.keepIn K (.ref fNoBoat___init__) = true)
    (a_wall : PySem.W.nsIn K mainGlobals "_wall" = some (some (.ref f_wall))) (l_wall : K.lookup f_wall = some ⟨oc_wall, od_wall, .func (PySem.W.fnOf "_wall" "_wall" (defArgs sWall) (defBody sWall) (defScope sWall) .none kV_wall dc_wall pm_wall an_wall cd_wall ct_wall), sl_wall⟩) (c_wall : PySem.W.codeIn K cd_wall "_wall" = true) (k_wall : PySem.W.keepIn K (.ref f_wall) = true)
    (ais_whole : PySem.W.nsIn K mainGlobals "is_whole" = some (some (.ref fis_whole))) (lis_whole : K.lookup fis_whole = some ⟨ocis_whole, odis_whole, .func (PySem.W.fnOf "is_whole" "is_whole" (defArgs sIsW) (defBody sIsW) (defScope sIsW) .none kVis_whole dcis_whole pmis_whole anis_whole cdis_whole ctis_whole), slis_whole⟩) (cis_whole : PySem.W.codeIn K cdis_whole "is_whole" = true) (kis_whole : PySem.W.keepIn K (.ref fis_whole) = true)
    (a_are_boats : PySem.W.nsIn K mainGlobals "_are_boats" = some (some (.ref f_are_boats))) (l_are_boats : K.lookup f_are_boats = some ⟨oc_are_boats, od_are_boats, .func (PySem.W.fnOf "_are_boats" "_are_boats" (defArgs sAreB) (defBody sAreB) (defScope sAreB) .none kV_are_boats dc_are_boats pm_are_boats an_are_boats cd_are_boats ct_are_boats), sl_are_boats⟩) (c_are_boats : PySem.W.codeIn K cd_are_boats "_are_boats" = true) (k_are_boats : PySem.W.keepIn K (.ref f_are_boats) = true)
    (a_are_spans : PySem.W.nsIn K mainGlobals "_are_spans" = some (some (.ref f_are_spans))) (l_are_spans : K.lookup f_are_spans = some ⟨oc_are_spans, od_are_spans, .func (PySem.W.fnOf "_are_spans" "_are_spans" (defArgs sAreS) (defBody sAreS) (defScope sAreS) .none kV_are_spans dc_are_spans pm_are_spans an_are_spans cd_are_spans ct_are_spans), sl_are_spans⟩) (c_are_spans : PySem.W.codeIn K cd_are_spans "_are_spans" = true) (k_are_spans : PySem.W.keepIn K (.ref f_are_spans) = true)
    (a_law_tape : PySem.W.nsIn K mainGlobals "_law_tape" = some (some (.ref f_law_tape))) (l_law_tape : K.lookup f_law_tape = some ⟨oc_law_tape, od_law_tape, .func (PySem.W.fnOf "_law_tape" "_law_tape" (defArgs sTape) (defBody sTape) (defScope sTape) .none kV_law_tape dc_law_tape pm_law_tape an_law_tape cd_law_tape ct_law_tape), sl_law_tape⟩) (c_law_tape : PySem.W.codeIn K cd_law_tape "_law_tape" = true) (k_law_tape : PySem.W.keepIn K (.ref f_law_tape) = true)
    (a_law_draw : PySem.W.nsIn K mainGlobals "_law_draw" = some (some (.ref f_law_draw))) (l_law_draw : K.lookup f_law_draw = some ⟨oc_law_draw, od_law_draw, .func (PySem.W.fnOf "_law_draw" "_law_draw" (defArgs sDraw) (defBody sDraw) (defScope sDraw) .none kV_law_draw dc_law_draw pm_law_draw an_law_draw cd_law_draw ct_law_draw), sl_law_draw⟩) (c_law_draw : PySem.W.codeIn K cd_law_draw "_law_draw" = true) (k_law_draw : PySem.W.keepIn K (.ref f_law_draw) = true)
    (a_law_pick : PySem.W.nsIn K mainGlobals "_law_pick" = some (some (.ref f_law_pick))) (l_law_pick : K.lookup f_law_pick = some ⟨oc_law_pick, od_law_pick, .func (PySem.W.fnOf "_law_pick" "_law_pick" (defArgs sPick) (defBody sPick) (defScope sPick) .none kV_law_pick dc_law_pick pm_law_pick an_law_pick cd_law_pick ct_law_pick), sl_law_pick⟩) (c_law_pick : PySem.W.codeIn K cd_law_pick "_law_pick" = true) (k_law_pick : PySem.W.keepIn K (.ref f_law_pick) = true)
    (a_law_names : PySem.W.nsIn K mainGlobals "_law_names" = some (some (.ref f_law_names))) (l_law_names : K.lookup f_law_names = some ⟨oc_law_names, od_law_names, .func (PySem.W.fnOf "_law_names" "_law_names" (defArgs sNames) (defBody sNames) (defScope sNames) .none kV_law_names dc_law_names pm_law_names an_law_names cd_law_names ct_law_names), sl_law_names⟩) (c_law_names : PySem.W.codeIn K cd_law_names "_law_names" = true) (k_law_names : PySem.W.keepIn K (.ref f_law_names) = true)
    (a_law_odd : PySem.W.nsIn K mainGlobals "_law_odd" = some (some (.ref f_law_odd))) (l_law_odd : K.lookup f_law_odd = some ⟨oc_law_odd, od_law_odd, .func (PySem.W.fnOf "_law_odd" "_law_odd" (defArgs sOdd) (defBody sOdd) (defScope sOdd) .none kV_law_odd dc_law_odd pm_law_odd an_law_odd cd_law_odd ct_law_odd), sl_law_odd⟩) (c_law_odd : PySem.W.codeIn K cd_law_odd "_law_odd" = true) (k_law_odd : PySem.W.keepIn K (.ref f_law_odd) = true)
    (a_law_boat_rows : PySem.W.nsIn K mainGlobals "_law_boat_rows" = some (some (.ref f_law_boat_rows))) (l_law_boat_rows : K.lookup f_law_boat_rows = some ⟨oc_law_boat_rows, od_law_boat_rows, .func (PySem.W.fnOf "_law_boat_rows" "_law_boat_rows" (defArgs sBRows) (defBody sBRows) (defScope sBRows) .none kV_law_boat_rows dc_law_boat_rows pm_law_boat_rows an_law_boat_rows cd_law_boat_rows ct_law_boat_rows), sl_law_boat_rows⟩) (c_law_boat_rows : PySem.W.codeIn K cd_law_boat_rows "_law_boat_rows" = true) (k_law_boat_rows : PySem.W.keepIn K (.ref f_law_boat_rows) = true)
    (a_law_span_row : PySem.W.nsIn K mainGlobals "_law_span_row" = some (some (.ref f_law_span_row))) (l_law_span_row : K.lookup f_law_span_row = some ⟨oc_law_span_row, od_law_span_row, .func (PySem.W.fnOf "_law_span_row" "_law_span_row" (defArgs sSRow) (defBody sSRow) (defScope sSRow) .none kV_law_span_row dc_law_span_row pm_law_span_row an_law_span_row cd_law_span_row ct_law_span_row), sl_law_span_row⟩) (c_law_span_row : PySem.W.codeIn K cd_law_span_row "_law_span_row" = true) (k_law_span_row : PySem.W.keepIn K (.ref f_law_span_row) = true)
    (a_law_drawn_parts : PySem.W.nsIn K mainGlobals "_law_drawn_parts" = some (some (.ref f_law_drawn_parts))) (l_law_drawn_parts : K.lookup f_law_drawn_parts = some ⟨oc_law_drawn_parts, od_law_drawn_parts, .func (PySem.W.fnOf "_law_drawn_parts" "_law_drawn_parts" (defArgs sDParts) (defBody sDParts) (defScope sDParts) .none kV_law_drawn_parts dc_law_drawn_parts pm_law_drawn_parts an_law_drawn_parts cd_law_drawn_parts ct_law_drawn_parts), sl_law_drawn_parts⟩) (c_law_drawn_parts : PySem.W.codeIn K cd_law_drawn_parts "_law_drawn_parts" = true) (k_law_drawn_parts : PySem.W.keepIn K (.ref f_law_drawn_parts) = true)
    (a_law_made : PySem.W.nsIn K mainGlobals "_law_made" = some (some (.ref f_law_made))) (l_law_made : K.lookup f_law_made = some ⟨oc_law_made, od_law_made, .func (PySem.W.fnOf "_law_made" "_law_made" (defArgs sMade) (defBody sMade) (defScope sMade) .none kV_law_made dc_law_made pm_law_made an_law_made cd_law_made ct_law_made), sl_law_made⟩) (c_law_made : PySem.W.codeIn K cd_law_made "_law_made" = true) (k_law_made : PySem.W.keepIn K (.ref f_law_made) = true)
    (a_law_is_boat : PySem.W.nsIn K mainGlobals "_law_is_boat" = some (some (.ref f_law_is_boat))) (l_law_is_boat : K.lookup f_law_is_boat = some ⟨oc_law_is_boat, od_law_is_boat, .func (PySem.W.fnOf "_law_is_boat" "_law_is_boat" (defArgs sLBoat) (defBody sLBoat) (defScope sLBoat) .none kV_law_is_boat dc_law_is_boat pm_law_is_boat an_law_is_boat cd_law_is_boat ct_law_is_boat), sl_law_is_boat⟩) (c_law_is_boat : PySem.W.codeIn K cd_law_is_boat "_law_is_boat" = true) (k_law_is_boat : PySem.W.keepIn K (.ref f_law_is_boat) = true)
    (a_law_is_bridge : PySem.W.nsIn K mainGlobals "_law_is_bridge" = some (some (.ref f_law_is_bridge))) (l_law_is_bridge : K.lookup f_law_is_bridge = some ⟨oc_law_is_bridge, od_law_is_bridge, .func (PySem.W.fnOf "_law_is_bridge" "_law_is_bridge" (defArgs sLBridge) (defBody sLBridge) (defScope sLBridge) .none kV_law_is_bridge dc_law_is_bridge pm_law_is_bridge an_law_is_bridge cd_law_is_bridge ct_law_is_bridge), sl_law_is_bridge⟩) (c_law_is_bridge : PySem.W.codeIn K cd_law_is_bridge "_law_is_bridge" = true) (k_law_is_bridge : PySem.W.keepIn K (.ref f_law_is_bridge) = true)
    (a_law_near : PySem.W.nsIn K mainGlobals "_law_near" = some (some (.ref f_law_near))) (l_law_near : K.lookup f_law_near = some ⟨oc_law_near, od_law_near, .func (PySem.W.fnOf "_law_near" "_law_near" (defArgs sLNear) (defBody sLNear) (defScope sLNear) .none kV_law_near dc_law_near pm_law_near an_law_near cd_law_near ct_law_near), sl_law_near⟩) (c_law_near : PySem.W.codeIn K cd_law_near "_law_near" = true) (k_law_near : PySem.W.keepIn K (.ref f_law_near) = true)
    (a_law_named : PySem.W.nsIn K mainGlobals "_law_named" = some (some (.ref f_law_named))) (l_law_named : K.lookup f_law_named = some ⟨oc_law_named, od_law_named, .func (PySem.W.fnOf "_law_named" "_law_named" (defArgs sNamed) (defBody sNamed) (defScope sNamed) .none kV_law_named dc_law_named pm_law_named an_law_named cd_law_named ct_law_named), sl_law_named⟩) (c_law_named : PySem.W.codeIn K cd_law_named "_law_named" = true) (k_law_named : PySem.W.keepIn K (.ref f_law_named) = true)
    (a_law_names_right : PySem.W.nsIn K mainGlobals "_law_names_right" = some (some (.ref f_law_names_right))) (l_law_names_right : K.lookup f_law_names_right = some ⟨oc_law_names_right, od_law_names_right, .func (PySem.W.fnOf "_law_names_right" "_law_names_right" (defArgs sNamesRight) (defBody sNamesRight) (defScope sNamesRight) .none kV_law_names_right dc_law_names_right pm_law_names_right an_law_names_right cd_law_names_right ct_law_names_right), sl_law_names_right⟩) (c_law_names_right : PySem.W.codeIn K cd_law_names_right "_law_names_right" = true) (k_law_names_right : PySem.W.keepIn K (.ref f_law_names_right) = true)
    (alaw : PySem.W.nsIn K mainGlobals "law" = some (some (.ref flaw))) (llaw : K.lookup flaw = some ⟨oclaw, odlaw, .func (PySem.W.fnOf "law" "law" (defArgs sLaw) (defBody sLaw) (defScope sLaw) .none kVlaw dclaw pmlaw anlaw cdlaw ctlaw), sllaw⟩) (claw : PySem.W.codeIn K cdlaw "law" = true) (klaw : PySem.W.keepIn K (.ref flaw) = true)
    (aMOST_BOATS : PySem.W.nsIn K mainGlobals "MOST_BOATS" = some (some (.int 10 tMOST_BOATS)))
    (aMOST_BORNE : PySem.W.nsIn K mainGlobals "MOST_BORNE" = some (some (.int 1000000 tMOST_BORNE)))
    (zIndexError : PySem.W.nsIn K mainGlobals "IndexError" = some none)
    (zKeyError : PySem.W.nsIn K mainGlobals "KeyError" = some none)
    (zOverflowError : PySem.W.nsIn K mainGlobals "OverflowError" = some none)
    (zValueError : PySem.W.nsIn K mainGlobals "ValueError" = some none)
    (zall : PySem.W.nsIn K mainGlobals "all" = some none)
    (zbool : PySem.W.nsIn K mainGlobals "bool" = some none)
    (zint : PySem.W.nsIn K mainGlobals "int" = some none)
    (zisinstance : PySem.W.nsIn K mainGlobals "isinstance" = some none)
    (zlen : PySem.W.nsIn K mainGlobals "len" = some none)
    (zlist : PySem.W.nsIn K mainGlobals "list" = some none)
    (zmax : PySem.W.nsIn K mainGlobals "max" = some none)
    (zmin : PySem.W.nsIn K mainGlobals "min" = some none)
    (zrange : PySem.W.nsIn K mainGlobals "range" = some none)
    (zrepr : PySem.W.nsIn K mainGlobals "repr" = some none)
    (zset : PySem.W.nsIn K mainGlobals "set" = some none)
    (zstr : PySem.W.nsIn K mainGlobals "str" = some none)
    (zzip : PySem.W.nsIn K mainGlobals "zip" = some none)
    : ∃ fd : FuncData, (∀ (s : Shared) (v : Value), BindsTo s fd ⟨[v], []⟩ [("_law_script", v)]) ∧ ∀ base : Heap, K.In base → base.Ns mainGlobals mg → FnOkG l.prog w K mg base CX0 14 fa fd ["_law_script"] (spLaw K) := by
  have e := hfa.symm.trans (PySem.W.mg_of X G alaw)
  cases e
  have g_wall := PySem.W.mg_of X G a_wall
  have F_wall := fun_mk (st := sWall) l_wall c_wall k_wall
  have b_wall := F_wall.binds (ps := ["k"]) fun _ _ _ _ _ _ us hl => match us, hl with | [_], _ => rfl
  have gis_whole := PySem.W.mg_of X G ais_whole
  have Fis_whole := fun_mk (st := sIsW) lis_whole cis_whole kis_whole
  have bis_whole := Fis_whole.binds (ps := ["thing", "least", "most"]) fun _ _ _ _ _ _ us hl => match us, hl with | [_, _, _], _ => rfl
  have g_are_boats := PySem.W.mg_of X G a_are_boats
  have F_are_boats := fun_mk (st := sAreB) l_are_boats c_are_boats k_are_boats
  have b_are_boats := F_are_boats.binds (ps := ["thing"]) fun _ _ _ _ _ _ us hl => match us, hl with | [_], _ => rfl
  have g_are_spans := PySem.W.mg_of X G a_are_spans
  have F_are_spans := fun_mk (st := sAreS) l_are_spans c_are_spans k_are_spans
  have b_are_spans := F_are_spans.binds (ps := ["thing"]) fun _ _ _ _ _ _ us hl => match us, hl with | [_], _ => rfl
  have g_law_tape := PySem.W.mg_of X G a_law_tape
  have F_law_tape := fun_mk (st := sTape) l_law_tape c_law_tape k_law_tape
  have b_law_tape := F_law_tape.binds (ps := ["_law_script"]) fun _ _ _ _ _ _ us hl => match us, hl with | [_], _ => rfl
  have g_law_draw := PySem.W.mg_of X G a_law_draw
  have F_law_draw := fun_mk (st := sDraw) l_law_draw c_law_draw k_law_draw
  have b_law_draw := F_law_draw.binds (ps := ["_law_tape_here", "_law_many"]) fun _ _ _ _ _ _ us hl => match us, hl with | [_, _], _ => rfl
  have g_law_pick := PySem.W.mg_of X G a_law_pick
  have F_law_pick := fun_mk (st := sPick) l_law_pick c_law_pick k_law_pick
  have b_law_pick := F_law_pick.binds (ps := ["_law_tape_here", "_law_some"]) fun _ _ _ _ _ _ us hl => match us, hl with | [_, _], _ => rfl
  have g_law_names := PySem.W.mg_of X G a_law_names
  have F_law_names := fun_mk (st := sNames) l_law_names c_law_names k_law_names
  have b_law_names := F_law_names.binds (ps := ["_law_tape_here", "_law_many"]) fun _ _ _ _ _ _ us hl => match us, hl with | [_, _], _ => rfl
  have g_law_odd := PySem.W.mg_of X G a_law_odd
  have F_law_odd := fun_mk (st := sOdd) l_law_odd c_law_odd k_law_odd
  have b_law_odd := F_law_odd.binds (ps := ["_law_tape_here"]) fun _ _ _ _ _ _ us hl => match us, hl with | [_], _ => rfl
  have g_law_boat_rows := PySem.W.mg_of X G a_law_boat_rows
  have F_law_boat_rows := fun_mk (st := sBRows) l_law_boat_rows c_law_boat_rows k_law_boat_rows
  have b_law_boat_rows := F_law_boat_rows.binds (ps := ["_law_tape_here", "_law_names_here"]) fun _ _ _ _ _ _ us hl => match us, hl with | [_, _], _ => rfl
  have g_law_span_row := PySem.W.mg_of X G a_law_span_row
  have F_law_span_row := fun_mk (st := sSRow) l_law_span_row c_law_span_row k_law_span_row
  have b_law_span_row := F_law_span_row.binds (ps := ["_law_tape_here", "_law_many"]) fun _ _ _ _ _ _ us hl => match us, hl with | [_, _], _ => rfl
  have g_law_drawn_parts := PySem.W.mg_of X G a_law_drawn_parts
  have F_law_drawn_parts := fun_mk (st := sDParts) l_law_drawn_parts c_law_drawn_parts k_law_drawn_parts
  have b_law_drawn_parts := F_law_drawn_parts.binds (ps := ["_law_tape_here"]) fun _ _ _ _ _ _ us hl => match us, hl with | [_], _ => rfl
  have g_law_made := PySem.W.mg_of X G a_law_made
  have F_law_made := fun_mk (st := sMade) l_law_made c_law_made k_law_made
  have b_law_made := F_law_made.binds (ps := ["_law_parts"]) fun _ _ _ _ _ _ us hl => match us, hl with | [_], _ => rfl
  have g_law_is_boat := PySem.W.mg_of X G a_law_is_boat
  have F_law_is_boat := fun_mk (st := sLBoat) l_law_is_boat c_law_is_boat k_law_is_boat
  have b_law_is_boat := F_law_is_boat.binds (ps := ["_law_one", "_law_who", "_law_bears"]) fun _ _ _ _ _ _ us hl => match us, hl with | [_, _, _], _ => rfl
  have g_law_is_bridge := PySem.W.mg_of X G a_law_is_bridge
  have F_law_is_bridge := fun_mk (st := sLBridge) l_law_is_bridge c_law_is_bridge k_law_is_bridge
  have b_law_is_bridge := F_law_is_bridge.binds (ps := ["_law_bridge", "_law_parts"]) fun _ _ _ _ _ _ us hl => match us, hl with | [_, _], _ => rfl
  have g_law_near := PySem.W.mg_of X G a_law_near
  have F_law_near := fun_mk (st := sLNear) l_law_near c_law_near k_law_near
  have b_law_near := F_law_near.binds (ps := ["_law_tape_here", "_law_parts"]) fun _ _ _ _ _ _ us hl => match us, hl with | [_, _], _ => rfl
  have g_law_named := PySem.W.mg_of X G a_law_named
  have F_law_named := fun_mk (st := sNamed) l_law_named c_law_named k_law_named
  have b_law_named := F_law_named.binds (ps := ["_law_bridge", "_law_thing"]) fun _ _ _ _ _ _ us hl => match us, hl with | [_, _], _ => rfl
  have g_law_names_right := PySem.W.mg_of X G a_law_names_right
  have F_law_names_right := fun_mk (st := sNamesRight) l_law_names_right c_law_names_right k_law_names_right
  have b_law_names_right := F_law_names_right.binds (ps := ["_law_tape_here", "_law_bridge", "_law_parts"]) fun _ _ _ _ _ _ us hl => match us, hl with | [_, _, _], _ => rfl
  have glaw := PySem.W.mg_of X G alaw
  have Flaw := fun_mk (st := sLaw) llaw claw klaw
  have blaw := Flaw.binds (ps := ["_law_script"]) fun _ _ _ _ _ _ us hl => match us, hl with | [_], _ => rfl
  have gCNoBridge := PySem.W.mg_of X G aNoBridge
  have gCNoSpan := PySem.W.mg_of X G aNoSpan
  have gCOverload := PySem.W.mg_of X G aOverload
  have gCTaken := PySem.W.mg_of X G aTaken
  have oxNoBoat := oex_key xlNoBoat hdNoBoat saNoBoat exNoBoat tyNoBoat kcNoBoat
  have gCBoat := PySem.W.mg_of X G aBoat
  have FBoat___init__ := fun_mk (st := sBInit) lBoat___init__ cBoat___init__ kBoat___init__
  have bBoat___init__ := FBoat___init__.binds (ps := ["self", "name", "bears"]) fun _ _ _ _ _ _ us hl => match us, hl with | [_, _, _], _ => rfl
  have FBoat___eq__ := fun_mk (st := sBEq) lBoat___eq__ cBoat___eq__ kBoat___eq__
  have bBoat___eq__ := FBoat___eq__.binds (ps := ["self", "other"]) fun _ _ _ _ _ _ us hl => match us, hl with | [_, _], _ => rfl
  have FBoat___str__ := fun_mk (st := sBStr) lBoat___str__ cBoat___str__ kBoat___str__
  have bBoat___str__ := FBoat___str__.binds (ps := ["self"]) fun _ _ _ _ _ _ us hl => match us, hl with | [_], _ => rfl
  have FBoat___repr__ := fun_mk (st := sBRepr) lBoat___repr__ cBoat___repr__ kBoat___repr__
  have bBoat___repr__ := FBoat___repr__.binds (ps := ["self"]) fun _ _ _ _ _ _ us hl => match us, hl with | [_], _ => rfl
  have gCBridge := PySem.W.mg_of X G aBridge
  have FBridge___init__ := fun_mk (st := sBrInit) lBridge___init__ cBridge___init__ kBridge___init__
  have bBridge___init__ := FBridge___init__.binds (ps := ["self", "boats", "spans"]) fun _ _ _ _ _ _ us hl => match us, hl with | [_, _, _], _ => rfl
  have FBridge___eq__ := fun_mk (st := sBridgeEq) lBridge___eq__ cBridge___eq__ kBridge___eq__
  have bBridge___eq__ := FBridge___eq__.binds (ps := ["self", "other"]) fun _ _ _ _ _ _ us hl => match us, hl with | [_, _], _ => rfl
  have FBridge___len__ := fun_mk (st := sBrLen) lBridge___len__ cBridge___len__ kBridge___len__
  have bBridge___len__ := FBridge___len__.binds (ps := ["self"]) fun _ _ _ _ _ _ us hl => match us, hl with | [_], _ => rfl
  have FBridge___str__ := fun_mk (st := sBridgeStr) lBridge___str__ cBridge___str__ kBridge___str__
  have bBridge___str__ := FBridge___str__.binds (ps := ["self"]) fun _ _ _ _ _ _ us hl => match us, hl with | [_], _ => rfl
  have FBridge_boats := fun_mk (st := sBrBoats) lBridge_boats cBridge_boats kBridge_boats
  have bBridge_boats := FBridge_boats.binds (ps := ["self"]) fun _ _ _ _ _ _ us hl => match us, hl with | [_], _ => rfl
  have FBridge_spans := fun_mk (st := sBrSpans) lBridge_spans cBridge_spans kBridge_spans
  have bBridge_spans := FBridge_spans.binds (ps := ["self"]) fun _ _ _ _ _ _ us hl => match us, hl with | [_], _ => rfl
  have FBridge_boat := fun_mk (st := sBridgeBoat) lBridge_boat cBridge_boat kBridge_boat
  have bBridge_boat := FBridge_boat.binds (ps := ["self", "name"]) fun _ _ _ _ _ _ us hl => match us, hl with | [_, _], _ => rfl
  have FBridge_with_boat := fun_mk (st := sBridgeWithBoat) lBridge_with_boat cBridge_with_boat kBridge_with_boat
  have bBridge_with_boat := FBridge_with_boat.binds (ps := ["self", "at", "boat"]) fun _ _ _ _ _ _ us hl => match us, hl with | [_, _, _], _ => rfl
  have gCNoBoat := PySem.W.mg_of X G aNoBoat
  have FNoBoat___init__ := fun_mk (st := sNoBoatInit) lNoBoat___init__ cNoBoat___init__ kNoBoat___init__
  have bNoBoat___init__ := FNoBoat___init__.binds (ps := ["self", "name"]) fun _ _ _ _ _ _ us hl => match us, hl with | [_, _], _ => rfl
  have mMOST_BOATS := PySem.W.mg_of X G aMOST_BOATS
  have mMOST_BORNE := PySem.W.mg_of X G aMOST_BORNE
  have mIndexError := PySem.W.mg_none_of X G zIndexError
  have mKeyError := PySem.W.mg_none_of X G zKeyError
  have mOverflowError := PySem.W.mg_none_of X G zOverflowError
  have mValueError := PySem.W.mg_none_of X G zValueError
  have mall := PySem.W.mg_none_of X G zall
  have mbool := PySem.W.mg_none_of X G zbool
  have mint := PySem.W.mg_none_of X G zint
  have misinstance := PySem.W.mg_none_of X G zisinstance
  have mlen := PySem.W.mg_none_of X G zlen
  have mlist := PySem.W.mg_none_of X G zlist
  have mmax := PySem.W.mg_none_of X G zmax
  have mmin := PySem.W.mg_none_of X G zmin
  have mrange := PySem.W.mg_none_of X G zrange
  have mrepr := PySem.W.mg_none_of X G zrepr
  have mset := PySem.W.mg_none_of X G zset
  have mstr := PySem.W.mg_none_of X G zstr
  have mzip := PySem.W.mg_none_of X G zzip
  exact ⟨_, fun s v => .of_eq rfl, fun base _ _ => ok_law ({ f_wall := _, fd_wall := _, F_wall := F_wall, b_wall := b_wall, g_wall := g_wall, fis_whole := _, fdis_whole := _, Fis_whole := Fis_whole, bis_whole := bis_whole, gis_whole := gis_whole, f_are_boats := _, fd_are_boats := _, F_are_boats := F_are_boats, b_are_boats := b_are_boats, g_are_boats := g_are_boats, f_are_spans := _, fd_are_spans := _, F_are_spans := F_are_spans, b_are_spans := b_are_spans, g_are_spans := g_are_spans, f_law_tape := _, fd_law_tape := _, F_law_tape := F_law_tape, b_law_tape := b_law_tape, g_law_tape := g_law_tape, f_law_draw := _, fd_law_draw := _, F_law_draw := F_law_draw, b_law_draw := b_law_draw, g_law_draw := g_law_draw, f_law_pick := _, fd_law_pick := _, F_law_pick := F_law_pick, b_law_pick := b_law_pick, g_law_pick := g_law_pick, f_law_names := _, fd_law_names := _, F_law_names := F_law_names, b_law_names := b_law_names, g_law_names := g_law_names, f_law_odd := _, fd_law_odd := _, F_law_odd := F_law_odd, b_law_odd := b_law_odd, g_law_odd := g_law_odd, f_law_boat_rows := _, fd_law_boat_rows := _, F_law_boat_rows := F_law_boat_rows, b_law_boat_rows := b_law_boat_rows, g_law_boat_rows := g_law_boat_rows, f_law_span_row := _, fd_law_span_row := _, F_law_span_row := F_law_span_row, b_law_span_row := b_law_span_row, g_law_span_row := g_law_span_row, f_law_drawn_parts := _, fd_law_drawn_parts := _, F_law_drawn_parts := F_law_drawn_parts, b_law_drawn_parts := b_law_drawn_parts, g_law_drawn_parts := g_law_drawn_parts, f_law_made := _, fd_law_made := _, F_law_made := F_law_made, b_law_made := b_law_made, g_law_made := g_law_made, f_law_is_boat := _, fd_law_is_boat := _, F_law_is_boat := F_law_is_boat, b_law_is_boat := b_law_is_boat, g_law_is_boat := g_law_is_boat, f_law_is_bridge := _, fd_law_is_bridge := _, F_law_is_bridge := F_law_is_bridge, b_law_is_bridge := b_law_is_bridge, g_law_is_bridge := g_law_is_bridge, f_law_near := _, fd_law_near := _, F_law_near := F_law_near, b_law_near := b_law_near, g_law_near := g_law_near, f_law_named := _, fd_law_named := _, F_law_named := F_law_named, b_law_named := b_law_named, g_law_named := g_law_named, f_law_names_right := _, fd_law_names_right := _, F_law_names_right := F_law_names_right, b_law_names_right := b_law_names_right, g_law_names_right := g_law_names_right, flaw := _, fdlaw := _, Flaw := Flaw, blaw := blaw, glaw := glaw, fBoat___init__ := _, fdBoat___init__ := _, FBoat___init__ := FBoat___init__, bBoat___init__ := bBoat___init__, fBoat___eq__ := _, fdBoat___eq__ := _, FBoat___eq__ := FBoat___eq__, bBoat___eq__ := bBoat___eq__, fBoat___str__ := _, fdBoat___str__ := _, FBoat___str__ := FBoat___str__, bBoat___str__ := bBoat___str__, fBoat___repr__ := _, fdBoat___repr__ := _, FBoat___repr__ := FBoat___repr__, bBoat___repr__ := bBoat___repr__, fBridge___init__ := _, fdBridge___init__ := _, FBridge___init__ := FBridge___init__, bBridge___init__ := bBridge___init__, fBridge___eq__ := _, fdBridge___eq__ := _, FBridge___eq__ := FBridge___eq__, bBridge___eq__ := bBridge___eq__, fBridge___len__ := _, fdBridge___len__ := _, FBridge___len__ := FBridge___len__, bBridge___len__ := bBridge___len__, fBridge___str__ := _, fdBridge___str__ := _, FBridge___str__ := FBridge___str__, bBridge___str__ := bBridge___str__, fBridge_boats := _, fdBridge_boats := _, FBridge_boats := FBridge_boats, bBridge_boats := bBridge_boats, fBridge_spans := _, fdBridge_spans := _, FBridge_spans := FBridge_spans, bBridge_spans := bBridge_spans, fBridge_boat := _, fdBridge_boat := _, FBridge_boat := FBridge_boat, bBridge_boat := bBridge_boat, fBridge_with_boat := _, fdBridge_with_boat := _, FBridge_with_boat := FBridge_with_boat, bBridge_with_boat := bBridge_with_boat, fNoBoat___init__ := _, fdNoBoat___init__ := _, FNoBoat___init__ := FNoBoat___init__, bNoBoat___init__ := bNoBoat___init__, tMOST_BOATS := _, mMOST_BOATS := mMOST_BOATS, tMOST_BORNE := _, mMOST_BORNE := mMOST_BORNE, mIndexError := mIndexError, mKeyError := mKeyError, mOverflowError := mOverflowError, mValueError := mValueError, mall := mall, mbool := mbool, mint := mint, misinstance := misinstance, mlen := mlen, mlist := mlist, mmax := mmax, mmin := mmin, mrange := mrange, mrepr := mrepr, mset := mset, mstr := mstr, mzip := mzip, CNoBridge := _, gCNoBridge := gCNoBridge, tyNoBridge := tyNoBridge, icNoBridge := icNoBridge, CNoSpan := _, gCNoSpan := gCNoSpan, tyNoSpan := tyNoSpan, icNoSpan := icNoSpan, COverload := _, gCOverload := gCOverload, tyOverload := tyOverload, icOverload := icOverload, CTaken := _, gCTaken := gCTaken, tyTaken := tyTaken, icTaken := icTaken, CBoat := _, CBridge := _, CNoBoat := _, gCNoBoat := gCNoBoat, oxNoBoat := oxNoBoat, exNoBoat := exNoBoat, hdNoBoat := hdNoBoat, tyNoBoat := tyNoBoat, icNoBoat := icNoBoat, seNoBoat := seNoBoat, upNoBoat := upNoBoat, gaNoBoat := gaNoBoat, ggNoBoat := ggNoBoat, haNoBoat := haNoBoat, hnNoBoat := hnNoBoat, htNoBoat := htNoBoat, hmNoBoat := hmNoBoat, nNoBoat_name := nNoBoat_name, noNoBoat_NoBridge := noNoBoat_NoBridge, noNoBoat_NoSpan := noNoBoat_NoSpan, noNoBoat_Overload := noNoBoat_Overload, noNoBoat_Taken := noNoBoat_Taken, aNoBoat___init__ := aNoBoat___init__, iNoBoat___init__ := iNoBoat___init__, kNoBoat___init__ := kNoBoat___init__, gCBoat := gCBoat, pgBoat := pgBoat, hdBoat := hdBoat, poBoat := poBoat, saBoat := saBoat, mkBoat := mkBoat, kcBoat := kcBoat, haBoat := haBoat, hnBoat := hnBoat, htBoat := htBoat, hmBoat := hmBoat, nfBoat := nfBoat, nBoat_name := nBoat_name, nBoat_bears := nBoat_bears, neBoat := neBoat, icBoat := icBoat, tyBoat := tyBoat, subBoat_NoneType := subBoat_NoneType, kitBoat_NoneType := kitBoat_NoneType, ntBoat_NoneType := ntBoat_NoneType, subBoat_int := subBoat_int, kitBoat_int := kitBoat_int, ntBoat_int := ntBoat_int, subBoat_str := subBoat_str, kitBoat_str := kitBoat_str, ntBoat_str := ntBoat_str, subBoat_list := subBoat_list, kitBoat_list := kitBoat_list, ntBoat_list := ntBoat_list, subBoat_tuple := subBoat_tuple, kitBoat_tuple := kitBoat_tuple, ntBoat_tuple := ntBoat_tuple, subBoat_dict := subBoat_dict, kitBoat_dict := kitBoat_dict, ntBoat_dict := ntBoat_dict, fmBoat := fmBoat, aBoat___init__ := aBoat___init__, iBoat___init__ := iBoat___init__, kBoat___init__ := kBoat___init__, aBoat___eq__ := aBoat___eq__, iBoat___eq__ := iBoat___eq__, kBoat___eq__ := kBoat___eq__, aBoat___str__ := aBoat___str__, iBoat___str__ := iBoat___str__, kBoat___str__ := kBoat___str__, aBoat___repr__ := aBoat___repr__, iBoat___repr__ := iBoat___repr__, kBoat___repr__ := kBoat___repr__, gCBridge := gCBridge, pgBridge := pgBridge, hdBridge := hdBridge, poBridge := poBridge, saBridge := saBridge, mkBridge := mkBridge, kcBridge := kcBridge, haBridge := haBridge, hnBridge := hnBridge, htBridge := htBridge, hmBridge := hmBridge, nfBridge := nfBridge, nBridge__boats := nBridge__boats, nBridge__spans := nBridge__spans, neBridge := neBridge, icBridge := icBridge, tyBridge := tyBridge, subBridge_NoneType := subBridge_NoneType, kitBridge_NoneType := kitBridge_NoneType, ntBridge_NoneType := ntBridge_NoneType, subBridge_int := subBridge_int, kitBridge_int := kitBridge_int, ntBridge_int := ntBridge_int, subBridge_str := subBridge_str, kitBridge_str := kitBridge_str, ntBridge_str := ntBridge_str, subBridge_list := subBridge_list, kitBridge_list := kitBridge_list, ntBridge_list := ntBridge_list, subBridge_tuple := subBridge_tuple, kitBridge_tuple := kitBridge_tuple, ntBridge_tuple := ntBridge_tuple, subBridge_dict := subBridge_dict, kitBridge_dict := kitBridge_dict, ntBridge_dict := ntBridge_dict, blBridge := blBridge, aBridge___init__ := aBridge___init__, iBridge___init__ := iBridge___init__, kBridge___init__ := kBridge___init__, aBridge___eq__ := aBridge___eq__, iBridge___eq__ := iBridge___eq__, kBridge___eq__ := kBridge___eq__, aBridge___len__ := aBridge___len__, iBridge___len__ := iBridge___len__, kBridge___len__ := kBridge___len__, aBridge___str__ := aBridge___str__, iBridge___str__ := iBridge___str__, kBridge___str__ := kBridge___str__, aBridge_boats := aBridge_boats, iBridge_boats := iBridge_boats, kBridge_boats := kBridge_boats, aBridge_spans := aBridge_spans, iBridge_spans := iBridge_spans, kBridge_spans := kBridge_spans, aBridge_boat := aBridge_boat, iBridge_boat := iBridge_boat, kBridge_boat := kBridge_boat, aBridge_with_boat := aBridge_with_boat, iBridge_with_boat := iBridge_with_boat, kBridge_with_boat := kBridge_with_boat } : Ev K mg)⟩
end Bb
open PySem PySem.W PyProof.Rows
set_option maxHeartbeats 0 in
theorem PySem.Challenge.cw_boatbridge_k09_bridges_as_objects_holds : PySem.Challenge.rw_boatbridge_k09_bridges_as_objects.Holds := by
  w_on; o_law; k_head; (case hw => w_witness2)
  k_fill
  refine Bb.walkG (l := PySem.Challenge.rw_boatbridge_k09_bridges_as_objects) (n := 63) (k := 14) (x := "_law_script") (sp := fun w => Bb.spLaw _) rfl (by decide) rfl ⟨rfl, by decide, by decide⟩ (fun w h Y => PySem.W.kIn_of Y) ?F (fun _ _ a ns hl _ hS => ⟨a, ns, rfl, hS, hl, fun _ => rfl⟩)
  case F =>
    intro w mg fa h KX G hmg
    refine' Bb.all_mk KX G hmg ?aNoBridge ?tyNoBridge ?icNoBridge ?aNoSpan ?tyNoSpan ?icNoSpan ?aOverload ?tyOverload ?icOverload ?aTaken ?tyTaken ?icTaken ?aNoBoat ?xlNoBoat ?hdNoBoat ?saNoBoat ?exNoBoat ?tyNoBoat ?kcNoBoat ?icNoBoat ?seNoBoat ?upNoBoat ?gaNoBoat ?ggNoBoat ?haNoBoat ?hnNoBoat ?htNoBoat ?hmNoBoat ?nNoBoat_name ?noNoBoat_NoBridge ?noNoBoat_NoSpan ?noNoBoat_Overload ?noNoBoat_Taken ?aBoat ?pgBoat ?hdBoat ?poBoat ?saBoat ?mkBoat ?kcBoat ?haBoat ?hnBoat ?htBoat ?hmBoat ?nfBoat ?nBoat_name ?nBoat_bears ?neBoat ?icBoat ?tyBoat ?subBoat_NoneType ?kitBoat_NoneType ?ntBoat_NoneType ?subBoat_int ?kitBoat_int ?ntBoat_int ?subBoat_str ?kitBoat_str ?ntBoat_str ?subBoat_list ?kitBoat_list ?ntBoat_list ?subBoat_tuple ?kitBoat_tuple ?ntBoat_tuple ?subBoat_dict ?kitBoat_dict ?ntBoat_dict ?fmBoat ?aBoat___init__ ?iBoat___init__ ?lBoat___init__ ?cBoat___init__ ?kBoat___init__ ?aBoat___eq__ ?iBoat___eq__ ?lBoat___eq__ ?cBoat___eq__ ?kBoat___eq__ ?aBoat___str__ ?iBoat___str__ ?lBoat___str__ ?cBoat___str__ ?kBoat___str__ ?aBoat___repr__ ?iBoat___repr__ ?lBoat___repr__ ?cBoat___repr__ ?kBoat___repr__ ?aBridge ?pgBridge ?hdBridge ?poBridge ?saBridge ?mkBridge ?kcBridge ?haBridge ?hnBridge ?htBridge ?hmBridge ?nfBridge ?nBridge__boats ?nBridge__spans ?neBridge ?icBridge ?tyBridge ?subBridge_NoneType ?kitBridge_NoneType ?ntBridge_NoneType ?subBridge_int ?kitBridge_int ?ntBridge_int ?subBridge_str ?kitBridge_str ?ntBridge_str ?subBridge_list ?kitBridge_list ?ntBridge_list ?subBridge_tuple ?kitBridge_tuple ?ntBridge_tuple ?subBridge_dict ?kitBridge_dict ?ntBridge_dict ?blBridge ?aBridge___init__ ?iBridge___init__ ?lBridge___init__ ?cBridge___init__ ?kBridge___init__ ?aBridge___eq__ ?iBridge___eq__ ?lBridge___eq__ ?cBridge___eq__ ?kBridge___eq__ ?aBridge___len__ ?iBridge___len__ ?lBridge___len__ ?cBridge___len__ ?kBridge___len__ ?aBridge___str__ ?iBridge___str__ ?lBridge___str__ ?cBridge___str__ ?kBridge___str__ ?aBridge_boats ?iBridge_boats ?lBridge_boats ?cBridge_boats ?kBridge_boats ?aBridge_spans ?iBridge_spans ?lBridge_spans ?cBridge_spans ?kBridge_spans ?aBridge_boat ?iBridge_boat ?lBridge_boat ?cBridge_boat ?kBridge_boat ?aBridge_with_boat ?iBridge_with_boat ?lBridge_with_boat ?cBridge_with_boat ?kBridge_with_boat ?aNoBoat___init__ ?iNoBoat___init__ ?lNoBoat___init__ ?cNoBoat___init__ ?kNoBoat___init__ ?a_wall ?l_wall ?c_wall ?k_wall ?ais_whole ?lis_whole ?cis_whole ?kis_whole ?a_are_boats ?l_are_boats ?c_are_boats ?k_are_boats ?a_are_spans ?l_are_spans ?c_are_spans ?k_are_spans ?a_law_tape ?l_law_tape ?c_law_tape ?k_law_tape ?a_law_draw ?l_law_draw ?c_law_draw ?k_law_draw ?a_law_pick ?l_law_pick ?c_law_pick ?k_law_pick ?a_law_names ?l_law_names ?c_law_names ?k_law_names ?a_law_odd ?l_law_odd ?c_law_odd ?k_law_odd ?a_law_boat_rows ?l_law_boat_rows ?c_law_boat_rows ?k_law_boat_rows ?a_law_span_row ?l_law_span_row ?c_law_span_row ?k_law_span_row ?a_law_drawn_parts ?l_law_drawn_parts ?c_law_drawn_parts ?k_law_drawn_parts ?a_law_made ?l_law_made ?c_law_made ?k_law_made ?a_law_is_boat ?l_law_is_boat ?c_law_is_boat ?k_law_is_boat ?a_law_is_bridge ?l_law_is_bridge ?c_law_is_bridge ?k_law_is_bridge ?a_law_near ?l_law_near ?c_law_near ?k_law_near ?a_law_named ?l_law_named ?c_law_named ?k_law_named ?a_law_names_right ?l_law_names_right ?c_law_names_right ?k_law_names_right ?alaw ?llaw ?claw ?klaw ?aMOST_BOATS ?aMOST_BORNE ?zIndexError ?zKeyError ?zOverflowError ?zValueError ?zall ?zbool ?zint ?zisinstance ?zlen ?zlist ?zmax ?zmin ?zrange ?zrepr ?zset ?zstr ?zzip
    (case aNoBridge => k_is)
    (case tyNoBridge => k_is)
    (case icNoBridge => k_is)
    (case aNoSpan => k_is)
    (case tyNoSpan => k_is)
    (case icNoSpan => k_is)
    (case aOverload => k_is)
    (case tyOverload => k_is)
    (case icOverload => k_is)
    (case aTaken => k_is)
    (case tyTaken => k_is)
    (case icTaken => k_is)
    (case aNoBoat => k_is)
    (case xlNoBoat => k_is)
    (case hdNoBoat => k_is)
    (case saNoBoat => k_is)
    (case exNoBoat => k_is)
    (case tyNoBoat => k_is)
    (case kcNoBoat => k_is)
    (case icNoBoat => k_is)
    (case seNoBoat => k_is)
    (case upNoBoat => k_is)
    (case gaNoBoat => k_is)
    (case ggNoBoat => k_is)
    (case haNoBoat => k_is)
    (case hnNoBoat => k_is)
    (case htNoBoat => k_is)
    (case hmNoBoat => k_is)
    (case nNoBoat_name => k_is)
    (case noNoBoat_NoBridge => k_is)
    (case noNoBoat_NoSpan => k_is)
    (case noNoBoat_Overload => k_is)
    (case noNoBoat_Taken => k_is)
    (case aBoat => k_is)
    (case pgBoat => k_is)
    (case hdBoat => k_is)
    (case poBoat => k_is)
    (case saBoat => k_is)
    (case mkBoat => k_is)
    (case kcBoat => k_is)
    (case haBoat => k_is)
    (case hnBoat => k_is)
    (case htBoat => k_is)
    (case hmBoat => k_is)
    (case nfBoat => k_is)
    (case nBoat_name => k_is)
    (case nBoat_bears => k_is)
    (case neBoat => k_is)
    (case icBoat => k_is)
    (case tyBoat => k_is)
    (case subBoat_NoneType => k_is)
    (case kitBoat_NoneType => k_is)
    (case ntBoat_NoneType => k_is)
    (case subBoat_int => k_is)
    (case kitBoat_int => k_is)
    (case ntBoat_int => k_is)
    (case subBoat_str => k_is)
    (case kitBoat_str => k_is)
    (case ntBoat_str => k_is)
    (case subBoat_list => k_is)
    (case kitBoat_list => k_is)
    (case ntBoat_list => k_is)
    (case subBoat_tuple => k_is)
    (case kitBoat_tuple => k_is)
    (case ntBoat_tuple => k_is)
    (case subBoat_dict => k_is)
    (case kitBoat_dict => k_is)
    (case ntBoat_dict => k_is)
    (case fmBoat => k_is)
    (case aBoat___init__ => k_is)
    (case iBoat___init__ => k_is)
    (case lBoat___init__ => k_is)
    (case cBoat___init__ => k_is)
    (case kBoat___init__ => k_is)
    (case aBoat___eq__ => k_is)
    (case iBoat___eq__ => k_is)
    (case lBoat___eq__ => k_is)
    (case cBoat___eq__ => k_is)
    (case kBoat___eq__ => k_is)
    (case aBoat___str__ => k_is)
    (case iBoat___str__ => k_is)
    (case lBoat___str__ => k_is)
    (case cBoat___str__ => k_is)
    (case kBoat___str__ => k_is)
    (case aBoat___repr__ => k_is)
    (case iBoat___repr__ => k_is)
    (case lBoat___repr__ => k_is)
    (case cBoat___repr__ => k_is)
    (case kBoat___repr__ => k_is)
    (case aBridge => k_is)
    (case pgBridge => k_is)
    (case hdBridge => k_is)
    (case poBridge => k_is)
    (case saBridge => k_is)
    (case mkBridge => k_is)
    (case kcBridge => k_is)
    (case haBridge => k_is)
    (case hnBridge => k_is)
    (case htBridge => k_is)
    (case hmBridge => k_is)
    (case nfBridge => k_is)
    (case nBridge__boats => k_is)
    (case nBridge__spans => k_is)
    (case neBridge => k_is)
    (case icBridge => k_is)
    (case tyBridge => k_is)
    (case subBridge_NoneType => k_is)
    (case kitBridge_NoneType => k_is)
    (case ntBridge_NoneType => k_is)
    (case subBridge_int => k_is)
    (case kitBridge_int => k_is)
    (case ntBridge_int => k_is)
    (case subBridge_str => k_is)
    (case kitBridge_str => k_is)
    (case ntBridge_str => k_is)
    (case subBridge_list => k_is)
    (case kitBridge_list => k_is)
    (case ntBridge_list => k_is)
    (case subBridge_tuple => k_is)
    (case kitBridge_tuple => k_is)
    (case ntBridge_tuple => k_is)
    (case subBridge_dict => k_is)
    (case kitBridge_dict => k_is)
    (case ntBridge_dict => k_is)
    (case blBridge => k_is)
    (case aBridge___init__ => k_is)
    (case iBridge___init__ => k_is)
    (case lBridge___init__ => k_is)
    (case cBridge___init__ => k_is)
    (case kBridge___init__ => k_is)
    (case aBridge___eq__ => k_is)
    (case iBridge___eq__ => k_is)
    (case lBridge___eq__ => k_is)
    (case cBridge___eq__ => k_is)
    (case kBridge___eq__ => k_is)
    (case aBridge___len__ => k_is)
    (case iBridge___len__ => k_is)
    (case lBridge___len__ => k_is)
    (case cBridge___len__ => k_is)
    (case kBridge___len__ => k_is)
    (case aBridge___str__ => k_is)
    (case iBridge___str__ => k_is)
    (case lBridge___str__ => k_is)
    (case cBridge___str__ => k_is)
    (case kBridge___str__ => k_is)
    (case aBridge_boats => k_is)
    (case iBridge_boats => k_is)
    (case lBridge_boats => k_is)
    (case cBridge_boats => k_is)
    (case kBridge_boats => k_is)
    (case aBridge_spans => k_is)
    (case iBridge_spans => k_is)
    (case lBridge_spans => k_is)
    (case cBridge_spans => k_is)
    (case kBridge_spans => k_is)
    (case aBridge_boat => k_is)
    (case iBridge_boat => k_is)
    (case lBridge_boat => k_is)
    (case cBridge_boat => k_is)
    (case kBridge_boat => k_is)
    (case aBridge_with_boat => k_is)
    (case iBridge_with_boat => k_is)
    (case lBridge_with_boat => k_is)
    (case cBridge_with_boat => k_is)
    (case kBridge_with_boat => k_is)
    (case aNoBoat___init__ => k_is)
    (case iNoBoat___init__ => k_is)
    (case lNoBoat___init__ => k_is)
    (case cNoBoat___init__ => k_is)
    (case kNoBoat___init__ => k_is)
    (case a_wall => k_is)
    (case l_wall => k_is)
    (case c_wall => k_is)
    (case k_wall => k_is)
    (case ais_whole => k_is)
    (case lis_whole => k_is)
    (case cis_whole => k_is)
    (case kis_whole => k_is)
    (case a_are_boats => k_is)
    (case l_are_boats => k_is)
    (case c_are_boats => k_is)
    (case k_are_boats => k_is)
    (case a_are_spans => k_is)
    (case l_are_spans => k_is)
    (case c_are_spans => k_is)
    (case k_are_spans => k_is)
    (case a_law_tape => k_is)
    (case l_law_tape => k_is)
    (case c_law_tape => k_is)
    (case k_law_tape => k_is)
    (case a_law_draw => k_is)
    (case l_law_draw => k_is)
    (case c_law_draw => k_is)
    (case k_law_draw => k_is)
    (case a_law_pick => k_is)
    (case l_law_pick => k_is)
    (case c_law_pick => k_is)
    (case k_law_pick => k_is)
    (case a_law_names => k_is)
    (case l_law_names => k_is)
    (case c_law_names => k_is)
    (case k_law_names => k_is)
    (case a_law_odd => k_is)
    (case l_law_odd => k_is)
    (case c_law_odd => k_is)
    (case k_law_odd => k_is)
    (case a_law_boat_rows => k_is)
    (case l_law_boat_rows => k_is)
    (case c_law_boat_rows => k_is)
    (case k_law_boat_rows => k_is)
    (case a_law_span_row => k_is)
    (case l_law_span_row => k_is)
    (case c_law_span_row => k_is)
    (case k_law_span_row => k_is)
    (case a_law_drawn_parts => k_is)
    (case l_law_drawn_parts => k_is)
    (case c_law_drawn_parts => k_is)
    (case k_law_drawn_parts => k_is)
    (case a_law_made => k_is)
    (case l_law_made => k_is)
    (case c_law_made => k_is)
    (case k_law_made => k_is)
    (case a_law_is_boat => k_is)
    (case l_law_is_boat => k_is)
    (case c_law_is_boat => k_is)
    (case k_law_is_boat => k_is)
    (case a_law_is_bridge => k_is)
    (case l_law_is_bridge => k_is)
    (case c_law_is_bridge => k_is)
    (case k_law_is_bridge => k_is)
    (case a_law_near => k_is)
    (case l_law_near => k_is)
    (case c_law_near => k_is)
    (case k_law_near => k_is)
    (case a_law_named => k_is)
    (case l_law_named => k_is)
    (case c_law_named => k_is)
    (case k_law_named => k_is)
    (case a_law_names_right => k_is)
    (case l_law_names_right => k_is)
    (case c_law_names_right => k_is)
    (case k_law_names_right => k_is)
    (case alaw => k_is)
    (case llaw => k_is)
    (case claw => k_is)
    (case klaw => k_is)
    (case aMOST_BOATS => k_is)
    (case aMOST_BORNE => k_is)
    (case zIndexError => k_is)
    (case zKeyError => k_is)
    (case zOverflowError => k_is)
    (case zValueError => k_is)
    (case zall => k_is)
    (case zbool => k_is)
    (case zint => k_is)
    (case zisinstance => k_is)
    (case zlen => k_is)
    (case zlist => k_is)
    (case zmax => k_is)
    (case zmin => k_is)
    (case zrange => k_is)
    (case zrepr => k_is)
    (case zset => k_is)
    (case zstr => k_is)
    (case zzip => k_is)
