import PyProof.Rows.All
import Wide.All
import OpenK.AllK
import Wide.FinOn
import PyProof.FString3
import PyProof.InstNe
import HandS.ForMost
import HandS.FStr
import HandS.StrMore
import HandS.IsInst
import HandS.Codes
import HandS.TryOnly
import HandS.SlotsOwn
import HandS.Defaults
import HandS.MakeKw
import HandS.MakeKwOnly
import HandS.OwnEq
import KE.KCallOwn
import KE.KFmtOwn
import HandS.ExcInit
import HandS.ExcIs
import HandS.ExcField
import HandS.ExcValue
import KE.KExcIs
import KE.KExcInit
import HandS.Conv
import OpenK.KOps
import PyProof.Rows.Range3
import PyProof.ListRange
import HandS.Style
import PyProof.ReprRoads
import PyProof.ExcBaseAll.LookupError
import PyProof.ExcBaseAll.IndexError
import HandS.SortInts
import HandS.SortKw
import HandS.Star
import HandS.Flow
import HandS.WordsExc
import HandS.FStrTup
import HandS.CallSlots
import HandS.Zip
import HandS.Lambda
import HandS.EndTab
import HandS.More
import HandS.List
import KE.KxIndex
import PyProof.Rows.StrRev
import KE.IntTextLaws
import KE.IntTextText
import HandS.SetFor
import HandS.Strs
import HandS.SortInts
import HandS.IntHex
import KE.KUnpackStar
import KE.GoesEnumKw
import PySem.Challenge.RW_boatbridge_k68_books_as_objects
set_option Elab.async false
set_option linter.all false
set_option maxRecDepth 100000
namespace Bb
open PySem PySem.Spec PyProof.Rows L2 PySem.W
open C8 (pss_cut)
open TL (tl ext_tl partition_app partition_none)
/-! ### a call with keywords alone -/
section
variable {X : Cx} {CX : CXT} {k : Nat} {f : Addr} {fd : FuncData} {ps ks : List Str} {sp : Sp} {E : XK} {x : Str} {p pos : Pos} {kws : List Keyword} {tk : TA} {g : List Value → List Value → List Value} {gV : List V → List V → List V}
theorem pe_callK0 (F : FnOk X.prog X.w X.K X.mg X.base CX k f fd ps sp) (hr : Room k X.A) (hg : Gl X x) (hm : X.mg x = some (.ref f)) (hk : PySem.W.keepIn X.K (.ref f) = true) (hb : KBinds X.K fd ps ks g gV) (hx : Passes CX X E)
    (hkw : PK X kws tk) (hall : (backToKw pos (keywordEach kws X.env)).all (·.1.isSome) = true := by rfl) (hks : (backToKw pos (keywordEach kws X.env)).filterMap (·.1) = ks := by rfl)
    (hdb : (x == ("__debug__" : Str)) = false := by decide)
    (hpl : ((backTo pos (starEach [] X.env)).any (·.1) || (backToKw pos (keywordEach kws X.env)).any (·.1.isNone)) = false := by rfl) :
    PE X (.Call (.Name x p) [] kws pos) (tCallK sp gV E tNil tk) := by
  refine ⟨fun pins s σ H Q I h => ?_⟩
  refine wpAny_Call_Name_kw (ld_glob I hg hm ?_ hdb)
  refine PySem.W.callWith_KW0 (h₀ := X.base) I.ok.mod.kin hk hall ?_ hpl
  refine thn (hkw.run pos pins s σ H _ I h) fun ws s2 ⟨zs, H2, I2, rz, q2⟩ => ⟨I2.kIn, ?_⟩
  rw [hks]
  exact run_fnk F hr hb hx I2 .nil rz q2
/-- keywords in the parameters' own order -/
theorem fun_kbinds {K : Frag} {x qual : Str} {st : Stmt} {f : Addr} {fd : FuncData} {ps ks : List Str} (F : Fun K x qual st f fd)
    (h : ∀ (kV doc pm : Value) (an : Option Addr) (cdv ct : Value) (us ws : List Value), (us ++ ws).length = ps.length → bindArgs (PySem.W.fnOf x qual (defArgs st) (defBody st) (defScope st) .none kV doc pm an cdv ct) ⟨us, ks.zip ws⟩ = pure (ps.zip (us ++ ws))) :
    KBinds K fd ps ks (· ++ ·) (· ++ ·) := by
  obtain ⟨oc, od, kV, doc, pm, an, cdv, ct, osl, rfl, lk, hcd⟩ := F.ex
  exact ⟨fun s us ws _ hl => .of_eq (h kV doc pm an cdv ct us ws hl), fun a b => a.append b⟩
theorem vals_rev : ∀ {zs : List V} {ws : List Value}, Vals zs ws → Vals zs.reverse ws.reverse
  | _, _, .nil => .nil
  | _, _, .cons r t => by
    rw [List.reverse_cons, List.reverse_cons]
    exact (vals_rev t).append (.cons r .nil)
/-- all by keywords -/
def kwAll {α : Type} (n : Nat) (us ws : List α) : List α := if us.length = 0 ∧ ws.length = n then ws else []
theorem kwAll_vals {n : Nat} {vs zs : List V} {us ws : List Value} (a : Vals vs us) (b : Vals zs ws) : Vals (kwAll n vs zs) (kwAll n us ws) := by
  unfold kwAll
  rw [a.length, b.length]
  split
  · exact b
  · exact .nil
theorem fun_kbindsA {K : Frag} {x qual : Str} {st : Stmt} {f : Addr} {fd : FuncData} {ps ks : List Str} (F : Fun K x qual st f fd) (hn : ps ≠ [])
    (h : ∀ (kV doc pm : Value) (an : Option Addr) (cdv ct : Value) (ws : List Value), ws.length = ps.length → bindArgs (PySem.W.fnOf x qual (defArgs st) (defBody st) (defScope st) .none kV doc pm an cdv ct) ⟨[], ks.zip ws⟩ = pure (ps.zip ws)) :
    KBinds K fd ps ks (kwAll ps.length) (kwAll ps.length) := by
  obtain ⟨oc, od, kV, doc, pm, an, cdv, ct, osl, rfl, lk, hcd⟩ := F.ex
  refine ⟨fun s us ws _ hl => ?_, kwAll_vals⟩
  unfold kwAll at hl ⊢
  split at hl
  · rename_i c
    rw [if_pos c, List.eq_nil_of_length_eq_zero c.1]
    exact .of_eq (h kV doc pm an cdv ct ws c.2)
  · exact absurd (List.eq_nil_of_length_eq_zero hl.symm) hn
/-- all by keywords, in the parameters' order turned about -/
theorem fun_kbindsR {K : Frag} {x qual : Str} {st : Stmt} {f : Addr} {fd : FuncData} {ps ks : List Str} (F : Fun K x qual st f fd) (hn : ps ≠ [])
    (h : ∀ (kV doc pm : Value) (an : Option Addr) (cdv ct : Value) (ws : List Value), ws.length = ps.length → bindArgs (PySem.W.fnOf x qual (defArgs st) (defBody st) (defScope st) .none kV doc pm an cdv ct) ⟨[], ks.zip ws⟩ = pure (ps.zip ws.reverse)) :
    KBinds K fd ps ks (fun us ws => (kwAll ps.length us ws).reverse) (fun us ws => (kwAll ps.length us ws).reverse) := by
  obtain ⟨oc, od, kV, doc, pm, an, cdv, ct, osl, rfl, lk, hcd⟩ := F.ex
  refine ⟨fun s us ws _ hl => ?_, fun a b => vals_rev (kwAll_vals a b)⟩
  rw [List.length_reverse] at hl
  unfold kwAll at hl ⊢
  split at hl
  · rename_i c
    rw [if_pos c, List.eq_nil_of_length_eq_zero c.1]
    exact .of_eq (h kV doc pm an cdv ct ws c.2)
  · exact absurd (List.eq_nil_of_length_eq_zero hl.symm) hn
end
/-! ### defs that are called where no repr is under way (so that repr of lists and tuples is known) -/
structure FnOkG (P : Program) (w : World) (K : PySem.W.Frag) (mg : Str → Option Value) (base : Heap) (CX : CXT) (k : Nat) (f : Addr) (fd : FuncData) (ps : List Str) (sp : Sp) : Prop where
  many : ∀ vs H Q E, sp vs H Q E → vs.length = ps.length
  goes : ∀ (A : Around) (outer : List Env) (s : Shared) (H : Hp) (args : Args) (us : List Value) (vs : List V) (Q : VK) (E : XK), A.guards = some [] → Room k A → Env0 P w K mg base A outer s H → BindsTo s fd args (ps.zip us) → Vals vs us → sp vs H Q E →
    codeAny (model P w) A (.call (.ref f) args) (CR CX outer P w H s Q E) s
theorem FnOk.g {P : Program} {w : World} {K : PySem.W.Frag} {mg : Str → Option Value} {base : Heap} {CX : CXT} {k : Nat} {f : Addr} {fd : FuncData} {ps : List Str} {sp : Sp} (F : FnOk P w K mg base CX k f fd ps sp) : FnOkG P w K mg base CX k f fd ps sp :=
  ⟨F.len, fun A o s H a us vs Q E _ => F.run A o s H a us vs Q E⟩
section
variable {P : Program} {w : World} {K : PySem.W.Frag} {mg : Str → Option Value} {base : Heap}
theorem okG {x qual : Str} {st : Stmt} {f : Addr} {fd : FuncData} {N ps : List Str} {k : Nat} {sp : Sp} (F : Fun K x qual st f fd) (S : FnScope N ps (defScope st)) (hn : ∀ vs H Q E, sp vs H Q E → vs.length = ps.length)
    (hb : ∀ (cdv : Value) (A : Around) (outer : List Env) (s : Shared) (H : Hp) (vs : List V) (Q : VK) (E : XK), A.guards = some [] → Room k (A.deeper (envOfC qual (defScope st) s.heap.objs.size f cdv)) → sp vs H Q E →
      ∃ t, PSs (cxOf CX0 P w K mg base N qual (defScope st) f cdv A outer s H E).nox (defBody st) t ∧ t { nx := fun _ H' => Q .non H', rt := Q } (start N vs) H) : FnOkG P w K mg base CX0 (k + 1) f fd ps sp := by
  obtain ⟨oc, od, kV, doc, pm, an, cdv, ct, osl, rfl, lk, hcd⟩ := F.ex
  constructor
  · exact hn
  intro A outer s H args us vs Q E gd hr env bnd rel want
  have olds : ∀ z y, base.get? z = some y → s.heap.get? z = some y := fun z y e => (env.bs z y e).1
  have inK : K.In s.heap := env.mod.kin.keeps olds
  have vis : ∀ q ∈ ps.zip us, (defScope st).names.lookup q.1 = some .local ∨ ((defScope st).names.lookup q.1 = some .cell ∧ ((cellsFrom (s.heap.objs.size + 1) (defScope st).names []).lookup q.1).isSome = true) := by
    intro q hq
    obtain ⟨n, v⟩ := q
    exact (S.par n (List.of_mem_zip hq).1).elim Or.inl fun c => Or.inr ⟨c, PySem.W.cellsFrom_some _ _ _ (Or.inl c)⟩
  apply codeAny_call_function hr.depth (inK _ _ lk) rfl S.co S.gen rfl (PySem.W.codeRec_of inK hcd)
  apply bnd
  refine wpAny_newFunctionEnv_cells S.kind vis fun env' he s1 x => ?_
  cases he
  refine ⟨(env.mod.nolimit.keeps olds).keeps x.toInCall.keep, codeAny_func ?_⟩
  obtain ⟨t, ht, hq⟩ := hb cdv A outer s H vs Q E gd (hr.deeper _) want
  have ht := ht.nox
  have J0 : L2.Inv (cxOf CX0 P w K mg base N qual (defScope st) f cdv A outer s H E) [] (start N vs) H s1 := inv_start S hr.hd env (hn _ _ _ _ want) rel x
  refine wpAny_mono (ht.run [] s1 (start N vs) H _ J0 hq) (fun fl s' z => ?_) fun _ _ z => z
  match fl, z with
  | .ret u, ⟨v, σ', H', J, rv, q⟩ => exact ⟨v, H', J.os, J.bare, J.base, J.hok, rv, q⟩
  | .next, ⟨σ', H', J, q⟩ => exact ⟨V.non, H', J.os, J.bare, J.base, J.hok, rfl, q⟩
  | .brk, ⟨_, _, _, q⟩ => exact q.elim
  | .cont, ⟨_, _, _, q⟩ => exact q.elim
end
section
variable {X : Cx} {CX : CXT} {k : Nat} {f : Addr} {fd : FuncData} {ps : List Str} {sp : Sp} {dvs : List V} {ds : List Value} {E : XK} {x : Str} {p pos : Pos} {e : Expr} {es : List Expr} {t : TA}
/-- f(e, ..), f such a def -/
theorem pe_callG (F : FnOkG X.prog X.w X.K X.mg X.base CX k f fd ps sp) (gd : X.A.guards = some []) (hr : Room k X.A) (hg : Gl X x) (hm : X.mg x = some (.ref f)) (hk : PySem.W.keepIn X.K (.ref f) = true) (hb : L2.Binds X.K fd ps ds) (hd : Vals dvs ds) (hx : Passes CX X E)
    (ha : PA X (e :: es) t) (n1 : (x == ("__debug__" : Str)) = false := by decide) (n2 : starEach (e :: es) X.env = (false, eval e X.env) :: starEach es X.env := by rfl) (n3 : (backTo pos (starEach es X.env)).any (·.1) = false := by rfl) :
    PE X (.Call (.Name x p) (e :: es) [] pos) (tCall sp dvs E t) := by
  constructor
  intro pins s σ H Q I h
  apply wpAny_Call_Name_kw (ld_glob I hg hm ?_ n1)
  refine PySem.W.callWith_K (h₀ := X.base) I.ok.mod.kin hk (thn (ha.run pos pins s σ H _ I h) ?_) n2 n3
  rintro us s1 ⟨vs, H1, I1, r, q⟩
  refine ⟨I1.kIn, ?_⟩
  have rr : Vals (vs ++ dvs) (us ++ ds) := r.append hd
  have ll : (us ++ ds).length = ps.length := rr.length.symm.trans (F.many _ _ _ _ q)
  refine wpAny_call (codeAny_mono (F.goes X.A X.stack s1 H1 ⟨us, []⟩ (us ++ ds) (vs ++ dvs) Q E gd hr I1.env0 (hb s1 us I1.kIn ll) rr q) fun z s' hz => ?_)
  match z, hz with
  | .error er, hz => exact hx pins σ H1 s1 er s' I1 hz
  | .ok (.ret u), hz => exact I1.after hz
  | .ok .next, hz => exact (show False from hz).elim
  | .ok .brk, hz => exact (show False from hz).elim
  | .ok .cont, hz => exact (show False from hz).elim
/-- repr(x) of data -/
def rReprD (K : PySem.W.Frag) : List V → Hp → VK → Prop := fun xs H Q => ∃ x d, xs = [x] ∧ Dp K H x d ∧ SeqAt.shaped d = true ∧ d.showable = true ∧ d.shown.length ≤ sizeLine ∧ Q (.str d.shown) H
theorem call_reprD (gd : X.A.guards = some []) (hr : Room k X.A) : CallR X (.builtin "repr") (rReprD X.K) := by
  intro pins s σ H xs us Q I r h
  obtain ⟨y, d, rfl, hd, sh, sw, sz, q⟩ := h
  obtain ⟨u, rfl, ru⟩ := Vals.one r
  have dd := SeqAt.depth_of_shaped sh
  have un := hr.un
  have nd : d.hasDict = true → sysModules ∉ ([] : List Addr) := fun z => by rw [PyData.hasDict_of_canLay d (SeqAt.canLay_of_shaped sh)] at z; cases z
  cases hd with
  | non =>
    cases (show u = Value.none from ru)
    exact P.repr_of_none ⟨V.str "None", H, I.tok _, ⟨_, rfl⟩, by rw [PyData.shown] at q; exact q⟩
  | bl b =>
    cases (show u = Value.bool b from ru)
    exact P.repr_of_bool ⟨V.str (if b then "True" else "False"), H, I.tok _, ⟨_, rfl⟩, by rw [PyData.shown] at q; exact q⟩
  | int i =>
    obtain ⟨t, rfl⟩ := (show ∃ t, u = Value.int i t from ru)
    refine P.repr_of_int (of_decide_eq_true (by rw [PyData.showable] at sw; exact sw)) ⟨V.str (toString i), H, I.tok _, ⟨_, rfl⟩, by rw [PyData.shown] at q; exact q⟩
  | str z =>
    obtain ⟨t, rfl⟩ := (show ∃ t, u = Value.str z t from ru)
    exact P.repr_of_str ⟨V.str (reprText z), H, I.tok _, ⟨_, rfl⟩, by rw [PyData.shown] at q; exact q⟩ (by rw [PyData.shown] at sz; exact sz)
  | lst a b =>
    obtain ⟨as, rd⟩ := Dp.reads I _ _ u (.lst a b) ru
    cases ru
    exact repr_of_reads' rd sw (fun z => by rw [PyData.hasDict_of_canLay _ (SeqAt.canLay_of_shaped sh)] at z; cases z) gd (by omega) (fun _ _ z => z) (fun h' t' tk hk => ⟨V.str (PyData.shown _), H, I.kept hk, ⟨_, rfl⟩, q⟩) sz
  | tup a b =>
    obtain ⟨as, rd⟩ := Dp.reads I _ _ u (.tup a b) ru
    cases ru
    exact repr_of_reads' rd sw (fun z => by rw [PyData.hasDict_of_canLay _ (SeqAt.canLay_of_shaped sh)] at z; cases z) gd (by omega) (fun _ _ z => z) (fun h' t' tk hk => ⟨V.str (PyData.shown _), H, I.kept hk, ⟨_, rfl⟩, q⟩) sz
end
/-! ### the law's end, for such a law -/
section
variable {P : Program} {w : World} {K : PySem.W.Frag} {mg mb : Str → Option Value} {k : Nat} {fa a : Addr} {fd : FuncData} {x : Str} {sp : Sp} {s₁ : Shared} {vs : List Value} {ns : List Int}
/-- from a heap in which nothing but the script may stand -/
theorem lawG0 (KX : K.In s₁.heap) (g1 : s₁.heap.Ns mainGlobals mg) (g2 : s₁.heap.Ns builtinsNs mb) (g3 : ∀ x : Str, x ≠ "__name__" → mb x = bootBuiltins x) (g4 : s₁.heap.NoLimit) (g5 : s₁.gens = #[])
    (ha : s₁.heap.get? a = some { cls := .type "list", data := .seq vs.toArray }) (hr : Room k callerA)
    (F : ∀ base : Heap, K.In base → base.Ns mainGlobals mg → FnOkG P w K mg base CX0 k fa fd [x] sp) (bd : ∀ (s : Shared) (u : Value), BindsTo s fd ⟨[u], []⟩ [(x, u)])
    (H : Hp) (hO : Only H) (want : sp [.ref a] H (fun v _ => v = .bl true) fun _ _ _ => False) (ok : HOk P w H s₁.heap) (hA : ∀ b, H b ≠ none → b = a) (hK : H a ≠ none → K.lookup a = none) :
    codeAny (model P w) callerA (.call (.ref fa) ⟨[.ref a], []⟩) (fun r s' => r = .ok (.ret (.bool true)) ∧ OldK s₁.heap s'.heap ∧ s'.os = s₁.os ∧ AllBare s'.gens) s₁ := by
  have noA : ∀ {b : Addr} {o : Obj} {es : Array DictEntry} {ep : Nat}, s₁.heap.get? b = some o → o.data = .dict es ep → H b = none := by
    intro b o es ep e d
    apply Classical.byContradiction
    intro z
    have e2 := e
    rw [hA b z, ha] at e2
    cases e2
    exact nomatch (show Data.seq vs.toArray _ = Data.dict es ep from d)
  have nsK : ∀ {b : Addr} {m : Str → Option Value}, s₁.heap.Ns b m → (hidT s₁.heap H).Ns b m := by
    rintro b m ⟨o, es, ep, e, d, r⟩
    exact ⟨o, es, ep, hidT_get e (noA e d), d, r⟩
  have kb : K.In (hidT s₁.heap H) := by
    intro b o e
    refine hidT_get (KX b o e) (Classical.byContradiction fun z => ?_)
    have eb := hA b z
    subst eb
    rw [hK z] at e
    cases e
  have M : Mod K mg (hidT s₁.heap H) := by
    obtain ⟨mc, h1, h2⟩ := g4
    exact ⟨kb, nsK g1, ⟨mb, nsK g2, g3⟩, ⟨mc, nsK h1, h2⟩⟩
  have e0 : Env0 P w K mg (hidT s₁.heap H) callerA [] s₁ H :=
    { frames := rfl, mod := M, bs := fun b o e => of_hidT e, bsz := Nat.le_of_eq (hidT_size _ _), funs := trivial, frf := fun b z => absurd (show b ∈ ([] : List Addr) from z) (by simp), hok := ok, bare := .of_eq g5 }
  have run := (F _ kb (nsK g1)).goes callerA [] s₁ H ⟨[.ref a], []⟩ [.ref a] [.ref a] _ _ rfl hr e0 (bd s₁ (.ref a)) (.cons rfl .nil) want
  refine codeAny_mono run fun r s' h => ?_
  match r, h with
  | .error e, h => exact (show False from h).elim
  | .ok .next, h => exact (show False from h).elim
  | .ok .brk, h => exact (show False from h).elim
  | .ok .cont, h => exact (show False from h).elim
  | .ok (.ret u), ⟨v, H', os, bare, un, ok', rv, (qv : v = .bl true)⟩ =>
    cases qv
    cases (show u = Value.bool true from rv)
    refine ⟨rfl, OldK.of_keep fun b o e => ?_, os, bare⟩
    cases q : H b with
    | none => exact un.keep b o e q (fun z => absurd (show b ∈ ([] : List Addr) from z) (by simp)) (by simp)
    | some y =>
      rcases hO b with z | ⟨ob, xs, z⟩
      · rw [z] at q; cases q
      · have f1 := (ok b _ z).1
        have f2 := (ok' b _ (un.frzs b ob _ z)).1
        rw [f1] at e
        cases e
        exact f2
theorem lawG (KX : K.In s₁.heap) (g1 : s₁.heap.Ns mainGlobals mg) (g2 : s₁.heap.Ns builtinsNs mb) (g3 : ∀ x : Str, x ≠ "__name__" → mb x = bootBuiltins x) (g4 : s₁.heap.NoLimit) (g5 : s₁.gens = #[])
    (ha : s₁.heap.get? a = some { cls := .type "list", data := .seq vs.toArray }) (hi : IntsAre vs ns) (hl : ns.length ≤ sizeLine) (hr : Room k callerA)
    (F : ∀ base : Heap, K.In base → base.Ns mainGlobals mg → FnOkG P w K mg base CX0 k fa fd [x] sp) (bd : ∀ (s : Shared) (u : Value), BindsTo s fd ⟨[u], []⟩ [(x, u)])
    (want : ∀ H : Hp, Only H → SqL K H a (ns.map V.int) → sp [.ref a] H (fun v _ => v = .bl true) fun _ _ _ => False) :
    codeAny (model P w) callerA (.call (.ref fa) ⟨[.ref a], []⟩) (fun r s' => r = .ok (.ret (.bool true)) ∧ OldK s₁.heap s'.heap ∧ s'.os = s₁.os ∧ AllBare s'.gens) s₁ := by
  have rv := vals_ints hi
  rcases hk : K.lookup a with _ | o
  · let H : Hp := fun b => if b = a then some (.frz { cls := .type "list", data := .seq vs.toArray } (.lst (ns.map V.int))) else none
    have Ha : H a = some (.frz { cls := .type "list", data := .seq vs.toArray } (.lst (ns.map V.int))) := if_pos rfl
    have Hn : ∀ b, b ≠ a → H b = none := fun b n => if_neg n
    have hO : Only H := fun b => (Classical.em (b = a)).elim (fun e => .inr ⟨_, _, e ▸ Ha⟩) fun n => .inl (Hn b n)
    have hA : ∀ b, H b ≠ none → b = a := fun b z => Classical.byContradiction fun n => z (Hn b n)
    refine lawG0 KX g1 g2 g3 g4 g5 ha hr F bd H hO (want H hO (.inl (.inr ⟨_, Ha⟩))) (fun b u z => ?_) hA fun _ => hk
    have e := hA b (by rw [z]; intro y; cases y)
    subst e
    rw [Ha] at z
    cases z
    exact ⟨ha, by rw [List.length_map]; exact hl, vs, _, rv, ha⟩
  · have e := KX a o hk
    rw [ha] at e
    cases e
    refine lawG0 KX g1 g2 g3 g4 g5 ha hr F bd (fun _ => none) (fun _ => .inl rfl) (want _ (fun _ => .inl rfl) (.inr ⟨_, vs.toArray, _, hk, rfl, rfl, rfl, by rw [List.size_toArray, hi.length]; exact hl, by simpa using rv⟩)) (fun b u z => nomatch (show (none : Option HO) = some u from z)) (fun b z => absurd rfl z) fun z => absurd rfl z
end
theorem walkG {l : PySem.W.OpenLaw} {n k : Nat} {q : Program} {loose : List Str} {XP : (Str → Option Value) → Heap → Prop} {YP : World → Heap → Prop} {d : DefRec} {K : Params → PySem.W.Frag} {sp : World → Sp} {x : Str}
    (hn : l.most = some n) (hn2 : n ≤ sizeLine) (hdf : d.params.defaults = []) (hr : Room k callerA) (hY : ∀ (w : World) (h : Heap), YP w h → (K w.params).In h)
    (F : ∀ (w : World) (mg : Str → Option Value) (fa : Addr) (h : Heap), (K w.params).In h → h.Ns mainGlobals mg → mg d.name = some (.ref fa) →
      ∃ fd : FuncData, (∀ (s : Shared) (u : Value), BindsTo s fd ⟨[u], []⟩ [(x, u)]) ∧ ∀ base : Heap, (K w.params).In base → base.Ns mainGlobals mg → FnOkG l.prog w (K w.params) mg base CX0 k fa fd [x] (sp w))
    (want : ∀ (w : World) (H : Hp) (a : Addr) (ns : List Int), ns.length ≤ n → Only H → SqL (K w.params) H a (ns.map V.int) → sp w [.ref a] H (fun v _ => v = .bl true) fun _ _ _ => False) :
    PySem.W.WalkO q loose XP YP l.row.toRowW d [] (fun f vs => PySem.call f vs) := by
  apply Att.attach_call hn hdf
  intro w s₀ s₁ mg mb fa o pm cd doc a vs ns G Y ho hd hcd hmg hobj hints hlen hg
  have KX := hY w _ Y
  obtain ⟨fd, bd, hF⟩ := F w mg fa _ KX G.T.g hmg
  exact lawG KX G.T.g G.T.b G.T.builtins G.T.nolimit hg hobj hints (Nat.le_trans hlen hn2) hr hF bd fun H hO hS => want w H a ns hlen hO hS
/-! ### an exception that is kept past its clause -/
/-- at a: an exception object of the class cls, its own dict at d -/
def keptX (cls : Value) (d : Option Addr) (a : Addr) : HO := .ext fun h => ∃ (oe : Obj) (vs : Array Value), h.get? a = some oe ∧ Zc cls d oe ∧ oe.data = .fields vs
theorem keptX_ok {P : Program} {w : World} {H : Hp} {h : Heap} {cls : Value} {d : Option Addr} {a : Addr} {oe : Obj} {vs : Array Value} (g : h.get? a = some oe) (z : Zc cls d oe) (f : oe.data = .fields vs) : ObjOk P w H h a (keptX cls d a) :=
  ⟨⟨oe, vs, g, z, f⟩, ⟨oe, g⟩, fun _ _ ⟨o, v, q, r⟩ k => ⟨o, v, k o q, r⟩⟩
theorem keptX_at {P : Program} {w : World} {H : Hp} {h : Heap} {cls : Value} {d : Option Addr} {a : Addr} (hok : HOk P w H h) (e : H a = some (keptX cls d a)) : ∃ (oe : Obj) (vs : Array Value), h.get? a = some oe ∧ Zc cls d oe ∧ oe.data = .fields vs := by
  have x : ObjOk P w H h a (.ext fun h => ∃ (oe : Obj) (vs : Array Value), h.get? a = some oe ∧ Zc cls d oe ∧ oe.data = .fields vs) := hok a _ e
  exact x.1
section
variable {X : Cx} {pins : List (Addr × Obj)} {σ : L2.St} {H : Hp} {s sI : Shared}
/-- the caught object is told to the ledger: it is none of the objects of the state sI ahead of it -/
theorem inv_keep (J : Inv X pins σ H sI) (ge : sI.heap.get? a = none) (I : Inv X pins σ H s) (hx : X.ex = []) {oe : Obj} {vs : Array Value} {cls : Value} {d : Option Addr} (ha : s.heap.get? a = some oe) (hz : Zc cls d oe) (hd : oe.data = .fields vs) (na : H a = none) :
    Inv X pins σ (upd H a (keptX cls d a)) s := by
  have ne : ∀ {b : Addr} {o : Obj}, sI.heap.get? b = some o → b ≠ a := by
    intro b o e z
    rw [z, ge] at e
    cases e
  have n0 : ∀ {b : Addr} {o : Obj}, X.s_0.heap.get? b = some o → b ≠ a := by
    intro b o e
    obtain ⟨o', e'⟩ := J.base.there b o e (by rw [hx]; exact fun z => nomatch z)
    exact ne e'
  have bs : Un X.fs X.ex X.H_0 (upd H a (keptX cls d a)) X.s_0.heap s.heap := {
    keep := I.base.keep
    slot := I.base.slot
    there := I.base.there
    free := by
      intro b o e n q
      rw [upd_ne (n0 e)]
      exact I.base.free b o e n q
    tups := by
      intro b xs e
      have z := I.base.tups b xs e
      rw [upd_ne (ne_of_none z na)]
      exact z
    frzs := by
      intro b o u e
      have z := I.base.frzs b o u e
      rw [upd_ne (ne_of_none z na)]
      exact z
    tbls := by
      intro b ps e
      obtain ⟨m, z⟩ := I.base.tbls b ps e
      exact ⟨m, by rw [upd_ne (ne_of_none z na)]; exact z⟩ }
  have fr : X.env.locals ≠ a := by
    obtain ⟨m, ⟨o, es, ep, ho, _⟩, _⟩ := J.loc
    exact ne ho
  refine ⟨I.ok, I.os, I.bare, bs, I.loc, I.cell, ?_, ?_, ?_, ?_, I.len⟩
  · rw [upd_ne fr]
    exact I.free
  · intro x c e
    obtain ⟨v, o, ho, _⟩ := J.cell x c e
    rw [upd_ne (ne ho)]
    exact I.freeC x c e
  · intro p hp
    obtain ⟨e, n, r⟩ := I.pin p hp
    refine ⟨e, ?_, r⟩
    rw [upd_ne (ne (J.pin p hp).1)]
    exact n
  · intro b o e
    by_cases hb : b = a
    · subst hb
      rw [upd_same] at e
      cases e
      exact keptX_ok ha hz hd
    · rw [upd_ne hb] at e
      refine (I.hok b o e).stay (fun c v _ q => q) (fun c q => ?_) (fun c xs q => ?_)
      · rw [upd_ne (ne_of_none q na)]
        exact q
      · rw [upd_ne (ne_of_none q na)]
        exact q
/-- into the clause's suite, no object pinned -/
theorem inv_into (I : Inv X pins σ H s) (a : Addr) : Inv (X.suite a (X.pn ++ pins)) [] σ H s where
  ok := I.ok.suite a _
  os := I.os
  bare := I.bare
  base := I.base
  loc := I.loc
  cell := I.cell
  free := I.free
  freeC := I.freeC
  pin := by
    intro p hp
    rw [List.append_nil] at hp
    exact I.pin p hp
  hok := I.hok
  len := I.len
/-- and out of it -/
theorem inv_outof {a : Addr} {pn : List (Addr × Obj)} (I : Inv (X.suite a (X.pn ++ pins)) pn σ H s) (ok : X.Ok) : Inv X pins σ H s where
  ok := ok
  os := I.os
  bare := I.bare
  base := I.base
  loc := I.loc
  cell := I.cell
  free := I.free
  freeC := I.freeC
  pin := fun p hp => I.pin p (List.mem_append_left _ hp)
  hok := I.hok
  len := I.len
end
/-- what the clause leaves: its own name is gone -/
def goneE (i : Nat) (D : Ends) : Ends where
  nx := fun σ H => D.nx (σ.set i none) H
  rt := D.rt
  bk := fun σ H => D.bk (σ.set i none) H
  ct := fun σ H => D.ct (σ.set i none) H
/-- what the clause wishes of the body's exceptions: each is caught, and stays -/
def wKeep (K : PySem.W.Frag) (c : Value) (i : Nat) (ts : Addr → Value → Option Addr → TS) (D : Ends) : WX := fun cls d σ H =>
  PySem.W.exmOne K cls c = some true ∧ ∀ a, H a = none → ts a cls d (goneE i D) (σ.set i (some (.ref a))) (upd H a (keptX cls d a))
section
variable {X : Cx} {x n : Str} {c : Value} {i : Nat} {body suite : List Stmt} {b₀ : Stmt} {np pos pos' : Pos} {tb : WX → TS} {ts : Addr → Value → Option Addr → TS}
theorem ps_try_keep (hs : X.stack = X.env :: X.outer) (hf : X.env.frame = some X.env.locals) (hex : X.ex = []) (hN : X.N.Nodup) (hi : X.N[i]? = some n) (hln : X.env.kindOf n = some .local) (hc : Names X x c)
    (hb : ∀ (W : WX) (pn : List (Addr × Obj)) (xe : Value → Shared → Prop), Takes (X.tr pn xe) W → PassesOwn (model X.prog X.w) X.A X.env xe → PSs (X.tr pn xe) body (tb W))
    (hsu : ∀ (a : Addr) (cls : Value) (d : Option Addr) (pn : List (Addr × Obj)), PSs (X.suite a pn) (b₀ :: suite) (ts a cls d)) :
    PS X (.Try body [.ExceptHandler (some (.Name x np)) (some n) (b₀ :: suite) pos'] [] [] pos) (fun D σ H => tb (wKeep X.K c i ts D) D σ H) := by
  constructor
  intro pins s σ H D I h
  have ok := I.ok
  have fr0 : X.A.frames = some (X.env :: X.outer) := by
    rw [ok.frames, hs]
  refine wpAny_Try_except ?_
  let xe' : Value → Shared → Prop := fun e s₁ => wpAny (model X.prog X.w) X.A (noteFrame e X.env) (fun _ s₂ => wpAny (model X.prog X.w) X.A (setFlight e none) (fun _ s₃ =>
    wpAny (model X.prog X.w) X.A (handleBy e X.env [.ExceptHandler (some (.Name x np)) (some n) (b₀ :: suite) pos']) (SP X pins D) X.xe s₃) X.xe s₂) X.xe s₁
  have catches : Takes (X.tr (X.pn ++ pins) xe') (wKeep X.K c i ts D) := by
    rintro u s' ⟨a, B, sI, pins', σ', H', cls, d, rfl, J', nb, up, sky, na, os, ag, hm, hyes⟩
    have J : Inv X pins σ' H' sI := J'.ofTry ok
    rw [show (X.tr (X.pn ++ pins) xe').stack = X.env :: X.outer from hs] at sky
    show wpAny (model X.prog X.w) X.A (noteFrame (.ref a) X.env) _ _ _
    refine Sky.land Zc.steady fr0 hf sky ?_
    intro h3 fl3 up3
    have J3 : Inv X pins σ' H' { s' with heap := h3 } := J.landed nb fl3.1 (up.trans up3) os ag
    refine wpAny_handleBy_cons (codeAny_handlers_test ?_) (fun q => nomatch q)
    -- the class is looked up and held against
    have look : PySem.W.Looks (model X.prog X.w) h3 (typeOf (.ref a)) cls := by
      obtain ⟨o3, v3, e3, z3, d3⟩ := fl3.there
      intro A Q E s k q
      refine wpAny_typeOf_ref (k _ _ e3) ?_
      rw [z3.1]
      exact q
    have hit := PySem.W.exm_one (M := model X.prog X.w) J3.kIn look hm
    have named : ∀ {Q : Value → Shared → Prop} {E : Value → Shared → Prop}, Q c { s' with heap := h3 } → wpAny (model X.prog X.w) (X.A.mark (some (.ref a))) (eval (.Name x np) X.env) Q E { s' with heap := h3 } := by
      intro Q E q
      have S3 := inv_into J3 a
      obtain ⟨hg, hdb, hv⟩ := hc
      rcases hv with hv | ⟨hv, hw, hn⟩
      · exact ld_glob (X := X.suite a (X.pn ++ pins)) S3 hg hv q hdb
      · exact ld_blt (X := X.suite a (X.pn ++ pins)) S3 hg hv hw q hn hdb
    refine named (hit.here (codeAny_handlers_suite_as (HandSPX.lands_againZ fl3 ?_)))
    intro h4 fl4 up4
    have J4 : Inv X pins σ' H' { s' with heap := h4 } := J.landed nb fl4.1 ((up.trans up3).trans up4) os ag
    obtain ⟨o4, v4, e4, z4, d4⟩ := fl4.there
    have ge : sI.heap.get? a = none := by
      cases q : sI.heap.get? a with
      | none => rfl
      | some o =>
        exfalso
        by_cases hm' : a ∈ frs (X.env :: X.outer)
        · obtain ⟨_, o', q', nf⟩ := fl4.2.2.1.mem hm'
          rw [e4] at q'
          cases q'
          exact nf _ d4
        · have z := nb a o q (by rw [show (X.tr (X.pn ++ pins) xe').stack = X.env :: X.outer from hs]; exact hm')
          rw [fl4.2.1] at z
          cases z
    have S4 := inv_into (inv_keep J ge J4 hex e4 z4 d4 na) a
    refine store_ok (X := X.suite a (X.pn ++ pins)) (v := .ref a) S4 hN hi (.inl hln) rfl ?_ (.inr hln)
    intro s5 S5
    refine wpAny_mono ((hsu a cls d (X.pn ++ pins)).run [] s5 _ _ (goneE i D) S5 (hyes a na)) ?_ (fun _ _ z => False.elim z)
    intro f s6 sp
    have out : ∀ {σ6 : L2.St} {H6 : Hp} {Q : Shared → Prop}, Inv (X.suite a (X.pn ++ pins)) [] σ6 H6 s6 → (∀ s7, Inv X pins (σ6.set i none) H6 s7 → Q s7) →
        wpAny (model X.prog X.w) X.A (do bindName X.env n .none; unbindBehindTheSuite X.env n pos') (fun _ s7 => Q s7) X.xe s6 := by
      intro σ6 H6 Q S6 hq
      exact gone_ok (inv_outof S6 ok) hN hi hln hq
    match f, sp with
    | .next, ⟨_, _, S6, q⟩ => exact out S6 fun s7 J7 => ⟨_, _, J7, q⟩
    | .brk, ⟨_, _, S6, q⟩ => exact out S6 fun s7 J7 => ⟨_, _, J7, q⟩
    | .cont, ⟨_, _, S6, q⟩ => exact out S6 fun s7 J7 => ⟨_, _, J7, q⟩
    | .ret u, ⟨_, _, _, S6, r, q⟩ => exact out S6 fun s7 J7 => ⟨_, _, _, J7, r, q⟩
  refine wpAny_mono ((hb (wKeep X.K c i ts D) (X.pn ++ pins) xe' catches PassesOwn.looking).run [] s σ H D (I.toTry _) h) ?_ (fun _ _ z => z)
  intro f s1 sp
  match f, sp with
  | .next, ⟨σ', H', J, q⟩ => exact wpAny_execs_nil ⟨σ', H', J.ofTry ok, q⟩
  | .brk, ⟨σ', H', J, q⟩ => exact ⟨σ', H', J.ofTry ok, q⟩
  | .cont, ⟨σ', H', J, q⟩ => exact ⟨σ', H', J.ofTry ok, q⟩
  | .ret u, ⟨v, σ', H', J, r, q⟩ => exact ⟨v, σ', H', J.ofTry ok, r, q⟩
end
/-! ### own exceptions under a class that is made by another's __new__ (KeyError, by LookupError's) -/
section
open Builtin Builtin.ObjectAttr
variable {prog : Program} {w : World} {M : Model} {A : Around} {E : Value → Shared → Prop} {R : Result → Shared → Prop} {h : Heap} {g : Array GenState} {d : Drawn} {t : Nat} {os : OsState}
variable {nm q : Str} {C N : Addr} {bs bm bmB : List Value} {hdct : Bool} {sn : List Str} {sub : List Value} {ab : Bool} {col : Option Bool} {dd : Option Addr} {k0 k1 k2 k3 k5 : Option Value} {B newId initId : String}
/-- what is asked of the classes above -/
structure Above (B : String) (bm : List Value) : Prop where
  is : bm.contains (.type B) = true
  noA : bm.contains (.type "AttributeError") = false
  noN : bm.contains (.type "NameError") = false
theorem mk_check (F : ExcBaseFacts B newId initId bmB) (T : Above B bm) {rest : List Value} {Q : Unit → Shared → Prop}
    (hC : h.get? C = some (excClassObj nm q C N bs bm hdct sn sub ab col dd k0 k1 k2 k3 k5 newId)) (hq : Q () ⟨h, g, d, t, os⟩) : wpAny M A (checkBuiltinCall newId ⟨.ref C :: rest, []⟩) Q E ⟨h, g, d, t, os⟩ := by
  have c1 : (Value.ref C :: bm).contains (.type B) = true := by
    rw [List.contains_cons, T.is, Bool.or_true]
  have c2 := F.noStar
  simp only [F.newKind, F.newSplit, F.newRow, checkBuiltinCall]
  repeat (first
    | refine wpAny_loadPart_at hC ?_
    | (refine wpAny_isSubtype_exc hC ?_; rw [c1])
    | refine wpAny_staticBase_exc hC ?_
    | refine wpAny_madeBy_exc hC ?_
    | simp only [bne_self_eq_false, Bool.false_eq_true, if_false]
    | wp_step)
  exact hq
theorem mk_new (F : ExcBaseFacts B newId initId bmB) (T : Above B bm) {rest : List Value}
    (hC : h.get? C = some (excClassObj nm q C N bs bm hdct sn sub ab col dd k0 k1 k2 k3 k5 newId)) (hz : rest.length ≤ sizeLine)
    (hq : R (.ok (.ret (.ref (h.objs.size + 1)))) ⟨(h.push (PySem.W.kdv_tup rest)).push (PySem.HandSPX.excO C h.objs.size), g, d, t, os⟩) :
    codeAny (model prog w) A (.builtin newId ⟨.ref C :: rest, []⟩) R ⟨h, g, d, t, os⟩ := by
  have ends := F.ends
  have c1 : (Value.ref C :: bm).contains (.type B) = true := by
    rw [List.contains_cons, T.is, Bool.or_true]
  have c2 : (Value.ref C :: bm).contains (.type "AttributeError") = false := by
    rw [List.contains_cons, T.noA]
    rfl
  have c3 : (Value.ref C :: bm).contains (.type "NameError") = false := by
    rw [List.contains_cons, T.noN]
    rfl
  refine PySem.codeAny_builtinAt F.entry ?_
  unfold Builtin.«BaseException.__new__»
  refine PySem.wpAt_bind ?_
  show PySem.wpAt _ _ _ (stack >>= _) _ _ _
  refine PySem.wpAt_bind (PySem.wpAt_stack ?_)
  intro p below
  refine PySem.wpAt_of_wpAny ?_
  wp_walk
  refine PySem.wpAt_of_wpAny ?_
  rw [F.owner]
  repeat (first
    | with_reducible refine wpAny_madeHere_exc F.canon hC ?_
    | with_reducible refine wpAny_loadPart_at hC ?_
    | (with_reducible refine wpAny_isSubtype_exc hC ?_; first | rw [c1] | rw [c2] | rw [c3])
    | wp_step)
  show R _ _
  rw [Heap.size_push]
  exact hq
theorem mk_type (F : ExcBaseFacts B newId initId bmB) (T : Above B bm) {rest : List Value} {fI : Addr} {Q : Fin → Shared → Prop}
    (hC : h.get? C = some (excClassObj nm q C N bs bm hdct sn sub ab col dd k0 k1 k2 k3 k5 newId)) (hi : PySem.W.Looks (model prog w) h (typeLookup (.ref C) "__init__") (some (.ref fI)))
    (hb : ∀ self, PySem.W.Looks (model prog w) h (bindSpecial (.ref fI) self) (.ref fI, [self])) (hz : rest.length ≤ sizeLine)
    (hq : codeAny (model prog w) A (.call (.ref fI) ⟨.ref (h.objs.size + 1) :: rest, []⟩) (fun r s' => match r with | .ok (.ret v) => v = .none ∧ Q (.done (.ret (.ref (h.objs.size + 1)))) s' | .ok _ => False | .error e => E e s')
      ⟨(h.push (PySem.W.kdv_tup rest)).push (PySem.HandSPX.excO C h.objs.size), g, d, t, os⟩) :
    wpAny (model prog w) A (Builtin.«type.__call__» ⟨.ref C :: rest, []⟩) Q E ⟨h, g, d, t, os⟩ := by
  have k : ∀ b o, h.get? b = some o → ((h.push (PySem.W.kdv_tup rest)).push (PySem.HandSPX.excO C h.objs.size)).get? b = some o := by
    intro b o e
    exact Heap.get?_push_of_some _ (Heap.get?_push_of_some _ e)
  have hC1 := k _ _ hC
  have got : ((h.push (PySem.W.kdv_tup rest)).push (PySem.HandSPX.excO C h.objs.size)).get? (h.objs.size + 1) = some (PySem.HandSPX.excO C h.objs.size) := by heap_get
  have self : (Value.ref C :: bm).contains (.ref C) = true := by simp
  repeat (first
    | with_reducible refine wpAny_loadPart_at hC ?_
    | with_reducible refine wpAny_madeBy_exc hC ?_
    | wp_step)
  refine codeAny_call_builtin_code (Code.quiet_builtin _ F.quiet) (mk_check F T hC (mk_new F T hC hz ?_))
  show wpAny _ _ _ _ _ _
  have look := hi.keeps k
  have bind := (hb (.ref (h.objs.size + 1))).keeps k
  unfold isInstance
  repeat (first
    | with_reducible refine wpAny_loadPart_at got ?_
    | (with_reducible refine wpAny_isSubtype_exc hC1 ?_; rw [self])
    | wp_step)
  show wpAny _ _ (typeLookup (.ref C) _) _ _ _
  refine look.at (wpAny_holding (wpAny_bind (bind.at (wpAny_bind (wpAny_call (codeAny_mono hq ?_))))))
  intro r s' z
  match r, z with
  | .error e, z => exact z
  | .ok (.ret v), ⟨e, z⟩ =>
    subst e
    first
      | exact wpAny_pure (wpAny_pure z)
      | (wp_walk; exact z)
theorem mk_call (F : ExcBaseFacts B newId initId bmB) (T : Above B bm) {rest : List Value} {fI : Addr}
    (hC : h.get? C = some (excClassObj nm q C N bs bm hdct sn sub ab col dd k0 k1 k2 k3 k5 newId)) (hi : PySem.W.Looks (model prog w) h (typeLookup (.ref C) "__init__") (some (.ref fI)))
    (hb : ∀ self, PySem.W.Looks (model prog w) h (bindSpecial (.ref fI) self) (.ref fI, [self])) (hz : rest.length ≤ sizeLine)
    (hq : codeAny (model prog w) (A.under (.builtin "type.__call__" ⟨.ref C :: rest, []⟩)) (.call (.ref fI) ⟨.ref (h.objs.size + 1) :: rest, []⟩) (PySem.W.InitBack (h.objs.size + 1) R)
      ⟨(h.push (PySem.W.kdv_tup rest)).push (PySem.HandSPX.excO C h.objs.size), g, d, t, os⟩) : codeAny (model prog w) A (.call (.ref C) ⟨rest, []⟩) R ⟨h, g, d, t, os⟩ := by
  have l1 := tc_lookup
  have l2 := tc_bind (.ref C)
  have ty : (⟨h, g, d, t, os⟩ : Shared).TypeIs (.ref C) "type" := ⟨_, hC, rfl⟩
  refine codeAny_of_tree ?_
  show wpAny _ _ (callAny (.ref C) _) _ _ _
  repeat (any_goals (first
    | assumption
    | with_reducible refine wpAny_loadPart_at hC ?_
    | wp_step))
  refine ⟨rfl, codeAny_call_builtin_at (Code.quiet_builtin _ (by decide +kernel)) entry_typeCall (wpAny_check_type_call_sub hC (mk_type F T hC hi hb hz (codeAny_mono hq ?_)))⟩
  intro r s' z
  rcases r with e | (v | _ | _ | _) <;> exact z
end
/-! ### own exceptions over any built-in class, with fields -/
section
open Builtin Builtin.ObjectAttr
/-- what the written part says of such a class -/
structure OexB (K : PySem.W.Frag) (C : Addr) : Prop where
  made : ∃ (B newId initId : String) (bmB bm : List Value) (nm q : Str) (N : Addr) (bs : List Value) (hdct : Bool) (sn : List Str) (sub : List Value) (ab : Bool) (col : Option Bool) (dd : Option Addr) (k0 k1 k2 k3 k5 : Option Value),
    PySem.ExcBaseFacts B newId initId bmB ∧ Above B bm ∧ K.lookup C = some (excClassObj nm q C N bs bm hdct sn sub ab col dd k0 k1 k2 k3 k5 newId)
  st : ∃ (T : String) (bmT : List Value), PySem.StoreFacts T bmT "object.__setattr__" "object" ∧ PySem.W.excOver K C bmT = true
  hd : PySem.W.hasDictIn K C = true
  sa : PySem.W.findIn K (.ref C) "__setattr__" = some (some (.builtin "object.__setattr__"))
  exC : PySem.W.subIn K (.ref C) (.type "BaseException") = some true
  tyC : PySem.W.typeIn K (.ref C) = some (.type "type")
  kC : PySem.W.keepIn K (.ref C) = true
theorem OexB.cd {K : PySem.W.Frag} {C : Addr} (T : OexB K C) : ∃ cd, PySem.W.clsIn K C = some cd ∧ cd.hasDict = true := PySem.W.any_some T.hd
theorem taker_none {K : PySem.W.Frag} {C : Addr} {f : Str} (h : PySem.W.findIn K (.ref C) f = some none) : PySem.W.takerIn K C f = some none := by
  unfold PySem.W.takerIn
  rw [h]
  rfl
variable {prog : Program} {w : World} {A : Around} {R : Result → Shared → Prop} {hp : Heap} {g : Array GenState} {d : Drawn} {t : Nat} {os : OsState} {K : PySem.W.Frag} {name : Str} {tk : Tok} {v : Value} {x C : Addr} {fv : Array Value}
theorem sa_first (T : OexB K C) (X : K.In hp) (hx : hp.get? x = some { cls := .ref C, data := .fields fv }) (ha : PySem.W.findIn K (.ref C) name = some none)
    (hq : ∀ h' tk' dx, (∀ b o, b ≠ x → hp.get? b = some o → h'.get? b = some o) → hp.objs.size ≤ dx → dx ≠ x → h'.get? x = some { cls := .ref C, dict := some dx, data := .fields fv } → h'.Ns1 dx (fun y => if y = name then some v else none) → R (.ok (.ret .none)) ⟨h', g, d, tk', os⟩) :
    codeAny (model prog w) A (.call (.builtin "object.__setattr__") ⟨[.ref x, .str name tk, v], []⟩) R ⟨hp, g, d, t, os⟩ := by
  obtain ⟨TT, bmT, SF, ov⟩ := T.st
  obtain ⟨cd, hcd, hdd⟩ := T.cd
  have I : PySem.W.InstAt hp x { cls := .ref C, data := .fields fv } C none := ⟨hx, rfl, rfl, trivial⟩
  have hxs : x ≠ hp.objs.size := Nat.ne_of_lt (Heap.lt_size hx)
  refine PySem.W.osa_openX SF X I ov (taker_none ha) (fun b => ?_)
  have lc : PySem.W.Looks (model prog w) hp (classData C) cd := PySem.W.looks_clsIn X hcd
  obtain ⟨z1, z2, z3, z4, z5, z6, z7, z8, z9, z10, z11⟩ := cd
  dsimp only at hdd
  subst hdd
  show wpAny _ _ (storeInOwnDict (.ref x) (.ref C) (.str name tk) name v b) _ _ _
  unfold storeInOwnDict ownDictForStores
  cases b <;>
  · repeat (first | with_reducible refine PySem.HandSPX.store_in_new ?_ ?_ | with_reducible refine wpAny_loadPart_at hx ?_ | with_reducible refine lc.at ?_ | wp_step)
    · exact ⟨_, #[], _, (Heap.get?_update_ne _ _ _ _ hxs.symm).trans (Heap.get?_push_at rfl rfl), rfl, fun e he => absurd he (by simp), fun _ => rfl⟩
    · intro h' tk' hn' hs
      have hx1 : (hp.push { cls := .type "dict", data := .dict #[] }).get? x = some { cls := .ref C, data := .fields fv } := Heap.get?_push_of_some _ hx
      refine hq h' tk' hp.objs.size ?_ (Nat.le_refl _) hxs.symm ?_ hn'
      · intro b o hb ho
        have e1 := hs.2 b (Nat.ne_of_lt (Heap.lt_size ho))
        rw [e1, Heap.get?_update_ne _ _ _ _ hb]
        exact Heap.get?_push_of_some _ ho
      · rw [hs.2 x hxs]
        exact Heap.get?_update_self _ hx1 rfl
theorem sa_further {dx : Addr} {m0 : Str → Option Value} {nl : List Str} (T : OexB K C) (X : K.In hp) (hx : hp.get? x = some { cls := .ref C, dict := some dx, data := .fields fv }) (hns : hp.Ns1 dx m0) (hw : Within m0 nl) (hz : nl.length ≤ 1000) (ha : PySem.W.findIn K (.ref C) name = some none)
    (hq : ∀ h' tk', (∀ b o, b ≠ dx → hp.get? b = some o → h'.get? b = some o) → h'.Ns1 dx (fun y => if y = name then some v else m0 y) → R (.ok (.ret .none)) ⟨h', g, d, tk', os⟩) :
    codeAny (model prog w) A (.call (.builtin "object.__setattr__") ⟨[.ref x, .str name tk, v], []⟩) R ⟨hp, g, d, t, os⟩ := by
  obtain ⟨TT, bmT, SF, ov⟩ := T.st
  obtain ⟨cd, hcd, hdd⟩ := T.cd
  obtain ⟨oD, _, _, hoD, _, _⟩ := hns.count hw
  have I : PySem.W.InstAt hp x { cls := .ref C, dict := some dx, data := .fields fv } C (some oD) := ⟨hx, rfl, rfl, hoD⟩
  refine PySem.W.osa_openX SF X I ov (taker_none ha) (fun b => ?_)
  have lc : PySem.W.Looks (model prog w) hp (classData C) cd := PySem.W.looks_clsIn X hcd
  obtain ⟨z1, z2, z3, z4, z5, z6, z7, z8, z9, z10, z11⟩ := cd
  dsimp only at hdd
  subst hdd
  show wpAny _ _ (storeInOwnDict (.ref x) (.ref C) (.str name tk) name v b) _ _ _
  unfold storeInOwnDict ownDictForStores
  cases b <;>
  · repeat (first | with_reducible refine PySem.OEX.store_in_old hns hw hz ?_ | with_reducible refine wpAny_loadPart_at hx ?_ | with_reducible refine lc.at ?_ | wp_step)
    intro h' tk' hn' hs
    exact hq h' tk' (fun b o hb ho => (hs.2 b hb).trans ho) hn'
end
section
variable {X : Cx} {pins : List (Addr × Obj)} {σ : L2.St} {H : Hp} {s : Shared} {a C dx : Addr} {f : Str} {y : V} {u : Value} {fs : List (Str × V)} {Q : Unit → Shared → Prop} {E : Value → Shared → Prop} {A : Around}
theorem put_first (T : OexB X.K C) (I : Inv X pins σ H s) (e : H a = some (exo a C none)) (hno : PySem.W.findIn X.K (.ref C) f = some none) (ry : RelV y u)
    (h : ∀ dx s', H dx = none → dx ≠ a → Inv X pins σ (upd (upd H dx (exd dx [(f, y)])) a (exo a C (some dx))) s' → Q () s') : wpAny (model X.prog X.w) A (setAttr (.ref a) f u) Q E s := by
  obtain ⟨t1, ho⟩ := exo_at I.hok e
  obtain ⟨hp, g, d, t, os⟩ := s
  refine PySem.W.set_plain I.kIn (od := none) ⟨ho, rfl, rfl, trivial⟩ T.sa (sa_first T I.kIn ho hno ?_)
  intro h' tk' dx k big ne hx hn
  have fresh : H dx = none := I.hok.fresh big
  have notd : ∀ {b : Addr} {o : Obj}, hp.get? b = some o → b ≠ dx := by
    intro b o q
    exact Nat.ne_of_lt (Nat.lt_of_lt_of_le (Heap.lt_size q) big)
  have nota : ∀ {b : Addr}, H b = none → b ≠ a := by
    intro b n z
    rw [z, e] at n
    cases n
  have step : Un X.fs [] H (upd (upd H dx (exd dx [(f, y)])) a (exo a C (some dx))) hp h' := by
    constructor
    case keep => exact fun b o q n _ _ => k b o (nota n) q
    case slot => exact fun b o q n _ _ => ⟨o.slots, k b o (nota n) q⟩
    case free =>
      intro b o q n _
      rw [upd_ne (nota n), upd_ne (notd q)]
      exact n
    case there =>
      intro b o q _
      by_cases hb : b = a
      · subst hb
        exact ⟨_, hx⟩
      · exact ⟨o, k b o hb q⟩
    case tups =>
      intro b xs q
      rw [upd_ne (at_ne e q exo_tup), upd_ne (ne_of_none q fresh)]
      exact q
    case frzs =>
      intro b o v q
      rw [upd_ne (at_ne e q exo_frz), upd_ne (ne_of_none q fresh)]
      exact q
    case tbls =>
      intro b ps q
      refine ⟨#[], ?_⟩
      rw [upd_ne (at_ne e q exo_tbl), upd_ne (ne_of_none q fresh), q]
      simp
  refine h dx _ fresh ne (I.un (t' := tk') step ?_)
  intro b o q
  by_cases hb : b = a
  · subst hb
    rw [upd_same] at q
    cases q
    exact exo_ok hx
  rw [upd_ne hb] at q
  by_cases hd : b = dx
  · subst hd
    rw [upd_same] at q
    cases q
    exact exd_ok hn (relO_put (fs := []) ry fun _ => True.intro)
  rw [upd_ne hd] at q
  refine (I.hok b o q).stay (fun c v hc z => k c v ?_ z) (fun c hc => ?_) (fun c xs hc => ?_)
  · rcases hc with rfl | hc
    · exact hb
    · exact at_ne e hc exo_own
  · rw [upd_ne (at_ne e hc exo_own), upd_ne (ne_of_none hc fresh)]
    exact hc
  · rw [upd_ne (at_ne e hc exo_tup), upd_ne (ne_of_none hc fresh)]
    exact hc
theorem put_further (T : OexB X.K C) (I : Inv X pins σ H s) (e : H a = some (exo a C (some dx))) (ed : H dx = some (exd dx fs)) (hl : fs.length ≤ 900) (hno : PySem.W.findIn X.K (.ref C) f = some none) (ry : RelV y u)
    (h : ∀ s', Inv X pins σ (upd H dx (exd dx ((f, y) :: fs))) s' → Q () s') : wpAny (model X.prog X.w) A (setAttr (.ref a) f u) Q E s := by
  obtain ⟨t1, ho⟩ := exo_at I.hok e
  obtain ⟨mA, hns, rel⟩ := exd_at I.hok ed
  have hw := within_of rel
  obtain ⟨hp, g, d, t, os⟩ := s
  obtain ⟨oD, _, _, hoD, _, _⟩ := hns.count hw
  refine PySem.W.set_plain I.kIn (od := some oD) ⟨ho, rfl, rfl, hoD⟩ T.sa (sa_further T I.kIn ho hns hw ?_ hno ?_)
  · rw [List.length_map]
    omega
  · intro h' tk' k hn
    have there : ∃ o, h'.get? dx = some o := by
      obtain ⟨o, _, _, e', _⟩ := hn
      exact ⟨o, e'⟩
    refine h _ (I.write (t' := tk') (x := dx) (e := dx) (o := exd dx ((f, y) :: fs)) ?_ (.inl rfl) k there (exd_ok hn (relO_put ry rel)))
    rw [ed]
    exact True.intro
end
/-- self.f = y in the __init__ of an exception -/
def tPut (K : PySem.W.Frag) (f : Str) (to te : TE) : TS := fun D σ H => te σ H fun y H1 => to σ H1 fun x H2 => ∃ a C : Addr, x = .ref a ∧ OexB K C ∧ PySem.W.findIn K (.ref C) f = some none ∧
  ((H2 a = some (exo a C none) ∧ ∀ dx, H2 dx = none → dx ≠ a → D.nx σ (upd (upd H2 dx (exd dx [(f, y)])) a (exo a C (some dx)))) ∨
    ∃ (dx : Addr) (fs : List (Str × V)), H2 a = some (exo a C (some dx)) ∧ H2 dx = some (exd dx fs) ∧ fs.length ≤ 900 ∧ D.nx σ (upd H2 dx (exd dx ((f, y) :: fs))))
section
variable {X : Cx} {o e : Expr} {es : List Expr} {to te : TE} {ta : TA} {f : Str} {p p' pos : Pos}
theorem ps_put (ho : PE X o to) (he : PE X e te) (hs : swapsWith e (some (.Attribute o f p')) pos.line X.env = pure false := by rfl) : PS X (.Assign [.Attribute o f p'] e pos) (tPut X.K f to te) := by
  constructor
  intro pins s σ H D I h
  refine plainObj_wpAny_Assign_Attribute (thn (he.run pins s σ H _ I h) ?_) hs
  rintro v s1 ⟨y, H1, I1, r1, q1⟩
  refine thn (ho.run pins s1 σ H1 _ I1 q1) ?_
  rintro u s2 ⟨x, H2, I2, r2, a, C, rfl, T, hno, q⟩
  obtain rfl : u = Value.ref a := r2
  rcases q with ⟨ea, q⟩ | ⟨dx, fs, ea, ed, hl, q⟩
  · exact put_first T I2 ea hno r1 fun dx s' n ne J => ⟨σ, _, J, q dx n ne⟩
  · exact put_further T I2 ea ed hl hno r1 fun s' J => ⟨σ, _, J, q⟩
/-- C(e, ..) of such a class, to be raised -/
theorem pmk_oexB {CX : CXT} {x : Str} {C fI : Addr} {k : Nat} {fd : FuncData} {ps : List Str} {sp : Sp} (T : OexB X.K C) (iC : PySem.W.findIn X.K (.ref C) "__init__" = some (some (.ref fI))) (tI : PySem.W.typeIn X.K (.ref fI) = some (.type "function"))
    (G : FnOk X.prog X.w X.K X.mg X.base CX k fI fd ps sp) (hr : Room (k + 1) X.A) (hb : Binds X.K fd ps []) (hx : Passes CX X (fun _ _ _ => False)) (hg : Gl X x) (hm : X.mg x = some (.ref C)) (ha : PA X (e :: es) ta)
    (hdb : (x == ("__debug__" : Str)) = false := by decide) (he : starEach (e :: es) X.env = (false, eval e X.env) :: starEach es X.env := by rfl) (hpl : (backTo pos (starEach es X.env)).any (·.1) = false := by rfl) :
    PMk X (.Call (.Name x p) (e :: es) [] pos) (tMkO C sp [] ta) := by
  intro pins s σ H Q I h
  obtain ⟨B, newId, initId, bmB, bm, nm, qn, N, bs, hdct, sn, sub, ab, col, dd, k0, k1, k2, k3, k5, FB, hT, hC0⟩ := T.made
  refine wpAny_Call_Name_kw (ld_glob I hg hm ?_ hdb)
  refine PySem.W.callWith_K (h₀ := X.base) I.ok.mod.kin T.kC (thn (ha.run pos pins s σ H _ I h) ?_) he hpl
  rintro us s1 ⟨vs, H1, I1, r1, hz, q1⟩
  refine ⟨I1.kIn, ?_⟩
  show wpAny _ _ (call (.ref C) us) _ _ _
  obtain ⟨hp, g, dr, tk, os⟩ := s1
  have hC := I1.kIn _ _ hC0
  let A1 := hp.objs.size + 1
  let hp2 := (hp.push (PySem.W.kdv_tup us)).push (PySem.HandSPX.excO C hp.objs.size)
  have big : hp.objs.size ≤ A1 := Nat.le_succ _
  have q2 := q1 A1 (I1.hok.fresh big)
  have kk : ∀ b o, hp.get? b = some o → hp2.get? b = some o := fun b o e => Heap.get?_push_of_some _ (Heap.get?_push_of_some _ e)
  have got : hp2.get? A1 = some (PySem.HandSPX.excO C hp.objs.size) := by
    show ((hp.push (PySem.W.kdv_tup us)).push (PySem.HandSPX.excO C hp.objs.size)).get? (hp.objs.size + 1) = _
    heap_get
  have I2 : Inv X pins σ (upd H1 A1 (exo A1 C none)) ⟨hp2, g, dr, tk, os⟩ := I1.laid (t' := tk) (a := A1) (o := exo A1 C none) (h' := hp2) kk big (exo_ok got)
  have r2 : Vals (V.ref A1 :: (vs ++ [])) (Value.ref A1 :: us) := by
    rw [List.append_nil]
    exact .cons rfl r1
  have hlen : (Value.ref A1 :: us).length = ps.length := by
    rw [← r2.length]
    exact G.len _ _ _ _ q2
  have hus : us.length ≤ sizeLine := by
    rw [← Paired.length r1, sizeLine_eq]
    omega
  have bd := hb ⟨hp2, g, dr, tk, os⟩ (Value.ref A1 :: us) I2.kIn (by rw [List.append_nil]; exact hlen)
  rw [List.append_nil] at bd
  refine wpAny_call (mk_call FB hT hC (PySem.W.looks_findIn I1.kIn iC) (fun self => PySem.W.bind_fn I1.kIn self tI) hus ?_)
  refine codeAny_mono (G.run _ X.stack _ _ ⟨Value.ref A1 :: us, []⟩ (Value.ref A1 :: us) _ _ (fun _ _ _ => False) (hr.make C us []) (I2.env0.make C us []) bd r2 q2) ?_
  intro r s' hq'
  match r, hq' with
  | .error er, hq' => exact hx pins σ _ _ er s' I2 hq'
  | .ok (.ret u), ⟨v, H2, os2, bare2, un2, hok2, rv, ev, d, fs, ea, ed, hd1, q3⟩ =>
    subst ev
    obtain ⟨h2, g2, d2, t2, os'⟩ := s'
    exact ⟨rv, mk_end (raises_own T.exC T.tyC) I1 big kk un2 hok2 os2 bare2 ea ed hd1 q3⟩
end
/-! ### a kept exception, looked at -/
/-- at a stands a kept exception of the class C with these fields -/
def KeptE (H : Hp) (a C : Addr) (fs : List (Str × V)) : Prop := ∃ dd : Addr, H a = some (keptX (.ref C) (some dd) a) ∧ H dd = some (.xd fs)
theorem keptE_inst {X : Cx} {pins : List (Addr × Obj)} {σ : L2.St} {H : Hp} {s : Shared} {a C : Addr} {fs : List (Str × V)} (I : Inv X pins σ H s) (h : KeptE H a C fs) : ∃ (ox od : Obj), PySem.W.InstAt s.heap a ox C (some od) ∧
    ∀ f, ∃ u, RelO (fs.lookup f) u ∧ PySem.W.lookIn f od = some u := by
  obtain ⟨dd, ea, ed⟩ := h
  obtain ⟨oe, vs, ho, hz, hd⟩ := keptX_at I.hok ea
  have hx : ObjOk X.prog X.w H s.heap dd (.xd fs) := I.hok dd _ ed
  obtain ⟨mA, hns, hr⟩ := hx
  obtain ⟨od, h1, hl⟩ := lookIn_ns hns
  refine ⟨oe, od, ⟨ho, hz.1, ?_, ?_⟩, fun f => ⟨mA f, hr f, hl f⟩⟩
  · unfold PySem.W.notCls
    rw [hd] <;> rfl
  · rw [hz.2]
    exact h1
/-- e.f, e a kept exception -/
def tFldX (K : PySem.W.Frag) (f : Str) (te : TE) : TE := fun σ H Q => te σ H fun x H1 => ∃ (a C : Addr) (fs : List (Str × V)) (v : V), x = .ref a ∧ XfC K C ∧ PySem.W.findIn K (.ref C) f = some none ∧ KeptE H1 a C fs ∧ fs.lookup f = some v ∧ Q v H1
theorem pe_fldX {X : Cx} {e : Expr} {te : TE} {pos : Pos} {n : Str} (he : PE X e te) (hb : attributeBase e n X.env (eval e X.env) = eval e X.env := by rfl) : PE X (.Attribute e n pos) (tFldX X.K n te) := by
  constructor
  intro pins s σ H Q I h
  refine attr_of hb (thn (he.run pins s σ H _ I h) ?_)
  rintro u s1 ⟨x, H1, I1, rx, a, C, fs, v, rfl, T, hno, hk, l, q⟩
  obtain rfl : u = Value.ref a := rx
  obtain ⟨ox, od, J, look⟩ := keptE_inst I1 hk
  obtain ⟨m, r, hl⟩ := look n
  obtain ⟨u, hu, ru⟩ := RelO.some_of (v := v) (o := m) (by rw [← l]; exact r)
  exact HandSPX.exc_get I1.kIn J T.ga T.gg T.exC (PySem.W.findObj_own T.hdC hno rfl (by rw [hl, hu])) (handed_of ru) ⟨v, H1, I1.tok _, ru, q⟩
theorem keptE_kit {K : PySem.W.Frag} {a C : Addr} {od : Option Obj} {ox : Obj} (T : ExcC K C) : PySem.W.KitX K (.ref a) (.ref C) (fun h => PySem.W.InstAt h a ox C od) := by
  obtain ⟨cd, hc, _⟩ := PySem.W.any_some T.hd
  exact PySem.W.kitx_exc (by rw [hc]; rfl) T.hg T.hk T.hs T.ha T.hn T.ht T.hm
/-- isinstance(e, c) of a kept exception, or of what the layer knows already -/
def rIsO (K : PySem.W.Frag) : List V → Hp → VK → Prop := fun xs H Q => rIsi K xs H Q ∨ ∃ (a C : Addr) (fs : List (Str × V)) (c : V) (u : Value) (b : Bool), xs = [.ref a, c] ∧ KeptE H a C fs ∧ ExcC K C ∧ ClsV c u ∧ PySem.W.kitOne K (.ref C) u = some b ∧ Q (.bl b) H
theorem call_isO {X : Cx} : CallR X (.builtin "isinstance") (rIsO X.K) := by
  intro pins s σ H xs us Q I r h
  rcases h with h | ⟨a, C, fs, c, u, b, rfl, hk, T, k, e, q⟩
  · exact call_isi pins s σ H xs us Q I r h
  obtain ⟨u1, u2, rfl, r1, r2⟩ := vals2 r
  obtain rfl : u1 = Value.ref a := r1
  have e2 := k.eq r2
  subst e2
  obtain ⟨ox, od, J, _⟩ := keptE_inst I hk
  exact PySem.W.kia_one (keptE_kit T) I.kIn J e (fun z => nomatch z) fun tk => ⟨.bl b, H, I.tok tk, rfl, q⟩
/-- isinstance(e, (c1, c2, ..)) of a kept exception, or of what the layer knows already -/
def rIsOT (K : PySem.W.Frag) : List V → Hp → VK → Prop := fun xs H Q => rIsiT K xs H Q ∨ ∃ (a C : Addr) (fs : List (Str × V)) (tp : Addr) (cs : List V) (us : List Value) (b : Bool), xs = [.ref a, .ref tp] ∧ KeptE H a C fs ∧ ExcC K C ∧ H tp = some (.tup cs) ∧ Paired ClsV cs us ∧
  PySem.W.kitAny K (.ref C) us = some b ∧ Q (.bl b) H
theorem call_isOT {X : Cx} : CallR X (.builtin "isinstance") (rIsOT X.K) := by
  intro pins s σ H xs us Q I r h
  rcases h with h | ⟨a, C, fs, tp, cs, ws, b, rfl, hk, T, hT, k, e, q⟩
  · exact call_isiT pins s σ H xs us Q I r h
  obtain ⟨u1, u2, rfl, r1, r2⟩ := vals2 r
  obtain rfl : u1 = Value.ref a := r1
  obtain rfl : u2 = Value.ref tp := r2
  obtain ⟨ox, od, J, _⟩ := keptE_inst I hk
  have ht : ObjOk X.prog X.w H s.heap tp (.tup cs) := I.hok tp _ hT
  obtain ⟨_, its, rv, o, h1, h2, n, h3⟩ := ht
  have e3 := ClsV.all k rv
  subst e3
  obtain ⟨oc, od', dt, sl⟩ := o
  simp only at h2 h3
  subst h2 h3
  exact PySem.W.kia_tup (keptE_kit T) I.kIn J h1 e (fun z => nomatch z) fun tk => ⟨.bl b, H, I.tok tk, rfl, q⟩
/-! ### an object made that may refuse -/
section
variable {X : Cx} {CX : CXT} {k : Nat} {f C : Addr} {fd : FuncData} {ps : List Str} {sp : Sp} {dvs : List V} {ds : List Value} {E : L2.St → XK} {x : Str} {p pos : Pos} {e : Expr} {es : List Expr} {t : TA}
def tMakeS (C : Addr) (sp : Sp) (dvs : List V) (E : L2.St → XK) (t : TA) : TE := fun σ H Q => t σ H fun vs H1 => ∀ x dx, H1 x = none → H1 dx = none → dx ≠ x → sp (.ref x :: (vs ++ dvs)) (upd (upd H1 dx (.own x)) x (.ins C dx [])) (fun v H2 => v = .non ∧ Q (.ref x) H2) (E σ)
theorem pe_makeS (M : Mk X.K C f) (G : FnOk X.prog X.w X.K X.mg X.base CX k f fd ps sp) (hr : Room (k + 1) X.A) (hg : Gl X x) (hm : X.mg x = some (.ref C)) (hb : Binds X.K fd ps ds) (hd : Vals dvs ds) (hx : ∀ σ, PassesAt CX X σ (E σ))
    (ha : PA X (e :: es) t) (hdb : (x == ("__debug__" : Str)) = false := by decide) (he : starEach (e :: es) X.env = (false, eval e X.env) :: starEach es X.env := by rfl) (hpl : (backTo pos (starEach es X.env)).any (·.1) = false := by rfl) :
    PE X (.Call (.Name x p) (e :: es) [] pos) (tMakeS C sp dvs E t) := by
  constructor
  intro pins s σ H Q I h
  refine wpAny_Call_Name_kw (ld_glob I hg hm ?_ hdb)
  refine PySem.W.callWith_K (h₀ := X.base) I.ok.mod.kin M.kp (thn (ha.run pos pins s σ H _ I h) ?_) he hpl
  rintro us s1 ⟨vs, H1, I1, r, q⟩
  refine ⟨I1.kIn, ?_⟩
  have q2 := q (s1.heap.objs.size + 1) s1.heap.objs.size (I1.hok.fresh (Nat.le_succ _)) (I1.hok.fresh (Nat.le_refl _)) (Nat.ne_of_lt (Nat.lt_succ_self _))
  have J := Inv.made (C := C) I1
  have r2 : Vals (V.ref (s1.heap.objs.size + 1) :: (vs ++ dvs)) (Value.ref (s1.heap.objs.size + 1) :: (us ++ ds)) := .cons rfl (r.append hd)
  have hl : (Value.ref (s1.heap.objs.size + 1) :: us ++ ds).length = ps.length := by
    have e := r2.length
    rw [G.len _ _ _ _ q2] at e
    exact e.symm
  refine wpAny_call (make_map (f := f) I1.kIn M.makes M.init (beq_iff_eq.mp M.fn) (codeAny_mono (G.run _ X.stack _ _ ⟨Value.ref (s1.heap.objs.size + 1) :: us, []⟩ (Value.ref (s1.heap.objs.size + 1) :: (us ++ ds)) _ _ (E σ) (hr.make C us [])
    (J.env0.make C us []) (hb _ (Value.ref (s1.heap.objs.size + 1) :: us) J.kIn hl) r2 q2) ?_))
  intro r s' hq
  match r, hq with
  | .error er, hq => exact hx σ pins _ _ er s' J hq
  | .ok (.ret u), hq =>
    obtain ⟨v, H', I3, rv, ev, q3⟩ := J.after hq
    subst ev
    exact ⟨rv, ⟨V.ref (s1.heap.objs.size + 1), H', I3, rfl, q3⟩⟩
end
theorem oex_of {K : PySem.W.Frag} {B newId initId : String} {nm q : Str} {C N : Addr} {bs bm : List Value} {sn : List Str} {sub : List Value} {ab : Bool} {col : Option Bool} {dd : Option Addr} {m0 m1 m2 m3 m5 : Option Value}
    (FB : PySem.ExcBaseFacts B newId initId bm) (SF : PySem.StoreFacts B bm "object.__setattr__" "object") (xL : K.lookup C = some (excClassObj nm q C N bs bm true sn sub ab col dd m0 m1 m2 m3 m5 newId)) (ht : PySem.W.excTail bm bm = true)
    (hd : PySem.W.hasDictIn K C = true) (sa : PySem.W.findIn K (.ref C) "__setattr__" = some (some (.builtin "object.__setattr__"))) (exC : PySem.W.subIn K (.ref C) (.type "BaseException") = some true) (tyC : PySem.W.typeIn K (.ref C) = some (.type "type")) (kC : PySem.W.keepIn K (.ref C) = true) : OexB K C := by
  refine ⟨⟨B, newId, initId, bm, bm, nm, q, N, bs, true, sn, sub, ab, col, dd, m0, m1, m2, m3, m5, FB, ⟨FB.hasB, FB.noAttr, FB.noName⟩, xL⟩, ⟨B, bm, SF, ?_⟩, hd, sa, exC, tyC, kC⟩
  unfold PySem.W.excOver PySem.W.clsIn
  rw [xL]
  simp [excClassObj, ht]
/-- KeyError: stores by its own facts, made by LookupError's __new__ -/
abbrev keyTail : List Value := [.type "KeyError", .type "LookupError", .type "Exception", .type "BaseException", .type "object"]
theorem store_KeyError : PySem.StoreFacts "KeyError" keyTail "object.__setattr__" "object" :=
  ⟨by kernel_rfl, .of (n := "__setattr__") (owner := "object") (by rw [typeLookup_type, builtinLookup_eq_fast]; kernel_rfl) (by decide +kernel) (by decide +kernel) (by decide +kernel) (.inl (by decide +kernel)) (by rw [isSubtype_type]; kernel_rfl),
    PySem.F.entry_object_sa, by decide +kernel, by decide +kernel, by decide +kernel, fun a b c => by unfold argsOk; kernel_rfl, fun self => by kernel_rfl⟩
theorem oex_key {K : PySem.W.Frag} {nm q : Str} {C N : Addr} {bs : List Value} {sn : List Str} {sub : List Value} {ab : Bool} {col : Option Bool} {dd : Option Addr} {m0 m1 m2 m3 m5 : Option Value}
    (xL : K.lookup C = some (excClassObj nm q C N bs keyTail true sn sub ab col dd m0 m1 m2 m3 m5 "LookupError.__new__"))
    (hd : PySem.W.hasDictIn K C = true) (sa : PySem.W.findIn K (.ref C) "__setattr__" = some (some (.builtin "object.__setattr__"))) (exC : PySem.W.subIn K (.ref C) (.type "BaseException") = some true) (tyC : PySem.W.typeIn K (.ref C) = some (.type "type")) (kC : PySem.W.keepIn K (.ref C) = true) : OexB K C := by
  refine ⟨⟨"LookupError", _, _, _, keyTail, nm, q, N, bs, true, sn, sub, ab, col, dd, m0, m1, m2, m3, m5, PySem.F.excBase_LookupError, ⟨by decide +kernel, by decide +kernel, by decide +kernel⟩, xL⟩, ⟨"KeyError", keyTail, store_KeyError, ?_⟩, hd, sa, exC, tyC, kC⟩
  unfold PySem.W.excOver PySem.W.clsIn
  rw [xL]
  simp [excClassObj, show PySem.W.excTail keyTail keyTail = true by decide +kernel]
theorem kit_up {K : PySem.W.Frag} {C : Addr} {T : String} (m : PySem.W.kitMeta T = true) (s : PySem.W.subIn K (.ref C) (.type T) = some true) : PySem.W.kitOne K (.ref C) (.type T) = some true := by
  show (if (Value.ref C == Value.type T) = true then some true else if PySem.W.kitMeta T = true then PySem.W.subIn K (.ref C) (.type T) else none) = some true
  rw [if_neg (by intro z; cases z), if_pos m]
  exact s
theorem kit_cls2 {K : PySem.W.Frag} {C D : Addr} {b : Bool} (ic : PySem.W.isClsIn K D = true) (ty : PySem.W.typeIn K (.ref D) = some (.type "type")) (s : PySem.W.subIn K (.ref C) (.ref D) = some b) : PySem.W.kitCls K (.ref C) (.ref D) = some b := by
  have ic' : (PySem.W.clsIn K D).isSome = true := ic
  have e : ((PySem.W.clsIn K D).isSome && PySem.W.typeIn K (.ref D) == some (.type "type")) = true := by rw [ic', ty]; rfl
  show (if ((PySem.W.clsIn K D).isSome && PySem.W.typeIn K (.ref D) == some (.type "type")) = true then PySem.W.subIn K (.ref C) (.ref D) else none) = some b
  rw [if_pos e]
  exact s
theorem kit_other {K : PySem.W.Frag} {C D : Addr} (self : PySem.W.subIn K (.ref C) (.ref C) = some true) (ic : PySem.W.isClsIn K D = true) (ty : PySem.W.typeIn K (.ref D) = some (.type "type")) (s : PySem.W.subIn K (.ref C) (.ref D) = some false) : PySem.W.kitOne K (.ref C) (.ref D) = some false := by
  have ne : ¬ (Value.ref C == Value.ref D) = true := by
    intro z
    have e := eq_of_beq z
    injection e with e
    subst e
    rw [self] at s
    cases s
  show (if (Value.ref C == Value.ref D) = true then some true else PySem.W.kitCls K (.ref C) (.ref D)) = some false
  rw [if_neg ne]
  exact kit_cls2 ic ty s
theorem exm_hit {K : PySem.W.Frag} {C : Addr} (ex : PySem.W.subIn K (.ref C) (.type "BaseException") = some true) (ic : PySem.W.isClsIn K C = true) (ty : PySem.W.typeIn K (.ref C) = some (.type "type")) (s : PySem.W.subIn K (.ref C) (.ref C) = some true) : PySem.W.exmOne K (.ref C) (.ref C) = some true := by
  show (if (PySem.W.subIn K (.ref C) (.type "BaseException") == some true) = true then PySem.W.kitCls K (.ref C) (.ref C) else none) = some true
  rw [if_pos (by rw [ex]; rfl)]
  exact kit_cls2 ic ty s
theorem any_no {K : PySem.W.Frag} {t c : Value} {cs : List Value} (h : PySem.W.kitOne K t c = some false) (r : PySem.W.kitAny K t cs = some false) : PySem.W.kitAny K t (c :: cs) = some false := kitAny_cons h (fun _ => r) (fun z => nomatch z)
/-! ### a block by a reading of one's own -/
theorem pss_imp {X : Cx} {b : List Stmt} {t t' : TS} (h : PSs X b t) (i : ∀ D σ H, t' D σ H → t D σ H) : PSs X b t' := ⟨fun pins s σ H D I z => h.run pins s σ H D I (i _ _ _ z)⟩
/-! ### o.m(e, .., k = v, ..), what is raised wished for at the caller's slots -/
section
variable {X : Cx} {CX : CXT} {k n : Nat} {f C : Addr} {fd : FuncData} {ps ks : List Str} {sp : Sp} {E : L2.St → XK} {m : Str} {apos pos : Pos} {o e : Expr} {es : List Expr} {kws : List Keyword} {ta : TE} {t tk : TA} {g : List Value → List Value → List Value} {gV : List V → List V → List V}
theorem passNo {P : Program} {w : World} {σ : L2.St} (hP : X.prog = P) (hw : X.w = w) : PassesAt (L2.CX P w) X σ E0 := by
  intro pins H s e s' I h
  obtain ⟨_, _, _, _, _, _, _, _, _, _, _, _, z⟩ := h
  exact (show False from z).elim
theorem run_kbn {pins : List (Addr × Obj)} {σ : L2.St} {H : Hp} {s : Shared} {Q : VK} {us ws : List Value} {vs zs : List V} (F : FnOk X.prog X.w X.K X.mg X.base CX k f fd ps sp) (hr : Room k X.A) (hb : KBn X.K fd ps n ks g gV) (hx : PassesAt CX X σ (E σ))
    (I : L2.Inv X pins σ H s) (r : Vals vs us) (rz : Vals zs ws) (l1 : vs.length = n) (l2 : zs.length = ks.length) (h : sp (gV vs zs) H Q (E σ)) : wpAny (model X.prog X.w) X.A (call (.ref f) us (ks.zip ws)) (EP X pins σ Q) X.xe s := by
  have bd := hb.to s us ws I.kIn (r.length.symm.trans l1) (rz.length.symm.trans l2)
  refine wpAny_call (codeAny_mono (F.run X.A X.stack s H ⟨us, ks.zip ws⟩ (g us ws) (gV vs zs) Q (E σ) hr I.env0 bd (hb.rel r rz) h) fun z s' hz => ?_)
  match z, hz with
  | .error er, hz => exact hx pins H s er s' I hz
  | .ok (.ret u), hz => exact I.after hz
  | .ok .next, hz => exact (show False from hz).elim
  | .ok .brk, hz => exact (show False from hz).elim
  | .ok .cont, hz => exact (show False from hz).elim
def tMethA (C : Addr) (m : Str) (n nk : Nat) (sp : Sp) (gV : List V → List V → List V) (E : L2.St → XK) (ta : TE) (t tk : TA) : TE := fun σ H Q => ta σ H fun x H1 => ∃ a dx fs, x = .ref a ∧ H1 a = some (.ins C dx fs) ∧ fs.lookup m = none ∧
  t σ H1 fun vs H2 => tk σ H2 fun zs H3 => vs.length = n ∧ zs.length = nk ∧ sp (gV (.ref a :: vs) zs) H3 Q (E σ)
theorem pe_methA {pl : Sem Bool} (he : PE X o ta) (c : Cls X.K C) (hm : Meth X.K C m f) (F : FnOk X.prog X.w X.K X.mg X.base CX k f fd ps sp) (hr : Room k X.A) (hb : KBn X.K fd ps (n + 1) ks g gV) (hx : ∀ σ, PassesAt CX X σ (E σ))
    (ha : PA X (e :: es) t) (hkw : PK X kws tk) (n1 : (backToKw pos (keywordEach kws X.env)).all (·.1.isSome) = true := by rfl) (n2 : (backToKw pos (keywordEach kws X.env)).filterMap (·.1) = ks := by rfl)
    (n3 : starEach (e :: es) X.env = (false, eval e X.env) :: starEach es X.env := by rfl) (n4 : ((backTo pos (starEach (e :: es) X.env)).any (·.1) || (backToKw pos (keywordEach kws X.env)).any (·.1.isNone)) = false := by rfl)
    (n5 : eval (.Call (.Attribute o m apos) (e :: es) kws pos) X.env = (do
      let ov ← eval o X.env
      standAt apos.atName
      let (f, first) ← holding [ov] (getMethod ov m pl)
      callWith pos f first (backTo pos (starEach (e :: es) X.env)) (backToKw pos (keywordEach kws X.env))) := by rfl) :
    PE X (.Call (.Attribute o m apos) (e :: es) kws pos) (tMethA C m n ks.length sp gV E ta t tk) := by
  constructor
  intro pins s σ H Q I h
  refine PySem.W.methodCall_KW (pl := pl) (thn (he.run pins s σ H _ I h) ?_) n5
  rintro u s1 ⟨x, H1, I1, rx, a, dx, fs, rfl, ea, l, q⟩
  cases (show u = Value.ref a from rx)
  refine getmeth_ok I1 ea c hm l ?_
  refine PySem.W.callWith_KW (first := [.ref a]) (h₀ := X.base) I.ok.mod.kin hm.kp n1 (thn (ha.run pos pins s1 σ H1 _ I1 q) ?_) n4 n3
  rintro us s2 ⟨vs, H2, I2, r, q2⟩
  refine thn (hkw.run pos pins s2 σ H2 _ I2 q2) ?_
  rintro ws s3 ⟨zs, H3, I3, rz, l1, l2, q3⟩
  refine ⟨I3.kIn, ?_⟩
  rw [n2]
  exact run_kbn (us := .ref a :: us) (vs := .ref a :: vs) F hr hb (hx σ) I3 (.cons rfl r) rz (congrArg Nat.succ l1) l2 q3
/-- o.m(k = v, ..) -/
theorem pe_methA0 {pl : Sem Bool} (he : PE X o ta) (c : Cls X.K C) (hm : Meth X.K C m f) (F : FnOk X.prog X.w X.K X.mg X.base CX k f fd ps sp) (hr : Room k X.A) (hb : KBn X.K fd ps 1 ks g gV) (hx : ∀ σ, PassesAt CX X σ (E σ))
    (hkw : PK X kws tk) (n1 : (backToKw pos (keywordEach kws X.env)).all (·.1.isSome) = true := by rfl) (n2 : (backToKw pos (keywordEach kws X.env)).filterMap (·.1) = ks := by rfl)
    (n4 : ((backTo pos (starEach [] X.env)).any (·.1) || (backToKw pos (keywordEach kws X.env)).any (·.1.isNone)) = false := by rfl)
    (n5 : eval (.Call (.Attribute o m apos) [] kws pos) X.env = (do
      let ov ← eval o X.env
      standAt apos.atName
      let (f, first) ← holding [ov] (getMethod ov m pl)
      callWith pos f first (backTo pos (starEach [] X.env)) (backToKw pos (keywordEach kws X.env))) := by rfl) :
    PE X (.Call (.Attribute o m apos) [] kws pos) (tMethA C m 0 ks.length sp gV E ta tNil tk) := by
  constructor
  intro pins s σ H Q I h
  refine PySem.W.methodCall_KW (pl := pl) (thn (he.run pins s σ H _ I h) ?_) n5
  rintro u s1 ⟨x, H1, I1, rx, a, dx, fs, rfl, ea, l, q⟩
  cases (show u = Value.ref a from rx)
  refine getmeth_ok I1 ea c hm l ?_
  refine PySem.W.callWith_KW0 (first := [.ref a]) (h₀ := X.base) I.ok.mod.kin hm.kp n1 ?_ n4
  refine thn (hkw.run pos pins s1 σ H1 _ I1 q) ?_
  rintro ws s3 ⟨zs, H3, I3, rz, l1, l2, q3⟩
  refine ⟨I3.kIn, ?_⟩
  rw [n2]
  exact run_kbn (us := [.ref a]) (vs := [.ref a]) F hr hb (hx σ) I3 (.cons rfl .nil) rz rfl l2 q3
/-- places alone, as a case of both -/
theorem kbn_of {K : Frag} {ds : List Value} {dvs : List V} (hb : L2.Binds K fd ps ds) (hd : Vals dvs ds) (hn : n + ds.length = ps.length) : KBn K fd ps n [] (fun us _ => us ++ ds) (fun vs _ => vs ++ dvs) :=
  ⟨fun s us ws X l1 l2 => hb s us X (by rw [List.length_append, l1, hn]), fun a _ => a.append hd⟩
end
/-! ### max(xs, default=d) of a list of ints -/
section
variable {prog : Program} {w : World} {A : Around} {R : Result → Shared → Prop} {I : Addr} {fp wr : List Addr} {n : Nat} {Pi : Nat → Value → Prop} {St : Nat → Heap → Prop}
theorem max_turns (W : Walks prog w A.in1 I fp wr n Pi St) (bt : Nat → Nat → Bool) (cm : CmpOf prog w A.in1 .Gt Pi bt) (S : Addr) (out : S ∉ fp) (kw : List (Str × Value)) : ∀ (k j : Nat) (s : Shared) (vb : Value) (c : Nat), n - (j + 1) = k → j + 1 ≤ n → St (j + 1) s.heap → Pi (argBest bt j) vb →
    s.heap.get? S = some { cls := .type "list", dict := none, data := .seq #[vb, vb] c, slots := #[] } →
    (∀ v h' tk, Pi (argBest bt (n - 1)) v → (∀ b o, b ∉ wr → b ≠ S → s.heap.get? b = some o → h'.get? b = some o) → R (.ok (.ret v)) { s with heap := h', toks := tk }) → codeAny (model prog w) A (.builtin "max.loop" ⟨[.ref I, .none, .ref S], kw⟩) R s := by
  have outW : S ∉ wr := fun z => out (W.sub _ z)
  have nm : (toString "max" ++ toString ".loop" : String) = "max.loop" := by decide
  intro k
  induction k with
  | zero =>
    intro j s vb c hk hj st hP hS q
    have last : j + 1 = n := by omega
    refine codeAny_builtin PySem.F.entry_max_loop ?_; rw [Around.under_plainId PySem.F.plain_max_loop _]
    show wpAny _ A.in1 (seqItems? (.ref S) >>= _) _ _ s; refine wpAny_bind (wpAny_seqItems hS rfl ?_)
    show wpAny _ A.in1 (tryCatch (pyNext (.ref I)) _ >>= _) _ _ s; refine wpAny_bind (wpAny_tryCatch (W.done s _ _ (last ▸ st) fun h' tk kk => ?_))
    have hS2 := kk S _ outW hS
    show wpAny _ A.in1 (updateSeq S (fun _ => #[]) >>= _) _ _ _; refine wpAny_bind (wpAny_updateSeq hS2 rfl (wpAny_bind (wpAny_letGo (wpAny_pure ?_))))
    exact q vb _ tk (by rw [← last]; exact hP) fun b o nb nS e => (Heap.get?_update_other _ _ (Ne.symm nS)).trans (kk b o nb e)
  | succ k ih =>
    intro j s vb c hk hj st hP hS q
    have more : j + 1 < n := by omega
    refine codeAny_builtin PySem.F.entry_max_loop ?_; rw [Around.under_plainId PySem.F.plain_max_loop _]
    show wpAny _ A.in1 (seqItems? (.ref S) >>= _) _ _ s; refine wpAny_bind (wpAny_seqItems hS rfl ?_)
    show wpAny _ A.in1 (tryCatch (pyNext (.ref I)) _ >>= _) _ _ s; refine wpAny_bind (wpAny_tryCatch (W.item (j + 1) s _ _ more st fun v h' tk hv st2 kk => ?_))
    have hS2 := kk S _ outW hS
    show wpAny _ A.in1 (tryCatch (holding [v, v] (richCompare .Gt v vb >>= _)) _ >>= _) _ _ _; refine wpAny_bind (wpAny_tryCatch (wpAny_holding (wpAny_bind (cm (j + 1) (argBest bt j) v vb _ _ _ hv hP ?_))))
    refine wpAny_bind (wpAny_holding (wpAny_truthy_bool (wpAny_bind (wpAny_letGo (wpAny_pure ?_)))))
    cases hb : bt (j + 1) (argBest bt j) with
    | true =>
      simp only [if_true]; refine wpAny_bind (wpAny_updateSeq hS2 rfl (wpAny_bind (wpAny_letGo ?_))); rw [nm]
      refine wpAny_pure ⟨plainId_quiet PySem.F.plain_max_loop _, ih (j + 1) _ v _ (by omega) more (W.frame _ _ _ st2 fun b nb o e => ?_) (by simp only [argBest, hb, if_true]; exact hv) (Heap.get?_update_self _ hS2 rfl) fun v3 h3 tk3 hv3 kk3 => ?_⟩
      · exact (Heap.get?_update_other _ _ (fun z : S = b => out (by rw [z]; exact nb))).trans e
      · exact q v3 h3 tk3 hv3 fun b o nb nS e => kk3 b o nb nS ((Heap.get?_update_other _ _ (Ne.symm nS)).trans (kk b o nb e))
    | false =>
      simp only [Bool.false_eq_true, if_false]; refine wpAny_bind (wpAny_letGo ?_); rw [nm]
      refine wpAny_pure ⟨plainId_quiet PySem.F.plain_max_loop _, ih (j + 1) _ vb c (by omega) more st2 (by simp only [argBest, hb, Bool.false_eq_true, if_false]; exact hP) hS2 fun v3 h3 tk3 hv3 kk3 => ?_⟩
      exact q v3 h3 tk3 hv3 fun b o nb nS e => kk3 b o nb nS (kk b o nb e)
theorem max_first (W : Walks prog w A.in1 I fp wr n Pi St) (bt : Nat → Nat → Bool) (cm : CmpOf prog w A.in1 .Gt Pi bt) (S : Addr) (out : S ∉ fp) (kw : List (Str × Value)) (hn : 0 < n) {s : Shared} {c : Nat} (st : St 0 s.heap)
    (hS : s.heap.get? S = some { cls := .type "list", dict := none, data := .seq #[] c, slots := #[] })
    (q : ∀ v h' tk, Pi (argBest bt (n - 1)) v → (∀ b o, b ∉ wr → b ≠ S → s.heap.get? b = some o → h'.get? b = some o) → R (.ok (.ret v)) { s with heap := h', toks := tk }) : codeAny (model prog w) A (.builtin "max.loop" ⟨[.ref I, .none, .ref S], kw⟩) R s := by
  have outW : S ∉ wr := fun z => out (W.sub _ z)
  have nm : (toString "max" ++ toString ".loop" : String) = "max.loop" := by decide
  refine codeAny_builtin PySem.F.entry_max_loop ?_; rw [Around.under_plainId PySem.F.plain_max_loop _]
  show wpAny _ A.in1 (seqItems? (.ref S) >>= _) _ _ s; refine wpAny_bind (wpAny_seqItems hS rfl ?_)
  show wpAny _ A.in1 (tryCatch (pyNext (.ref I)) _ >>= _) _ _ s; refine wpAny_bind (wpAny_tryCatch (W.item 0 s _ _ hn st fun v h' tk hv st2 kk => ?_))
  have hS2 := kk S _ outW hS
  show wpAny _ A.in1 (updateSeq S (fun _ => #[v, v]) >>= _) _ _ _; refine wpAny_bind (wpAny_updateSeq hS2 rfl ?_); rw [nm]
  refine wpAny_pure ⟨plainId_quiet PySem.F.plain_max_loop _, max_turns W bt cm S out kw _ 0 _ v _ rfl hn (W.frame _ _ _ st2 fun b nb o e => ?_) hv (Heap.get?_update_self _ hS2 rfl) fun v3 h3 tk3 hv3 kk3 => ?_⟩
  · exact (Heap.get?_update_other _ _ (fun z : S = b => out (by rw [z]; exact nb))).trans e
  · exact q v3 h3 tk3 hv3 fun b o nb nS e => kk3 b o nb nS ((Heap.get?_update_other _ _ (Ne.symm nS)).trans (kk b o nb e))
theorem max_empty (W : Walks prog w A.in1 I fp wr 0 Pi St) (S : Addr) (out : S ∉ fp) (d : Value) {s : Shared} {c : Nat} (st : St 0 s.heap)
    (hS : s.heap.get? S = some { cls := .type "list", dict := none, data := .seq #[] c, slots := #[] })
    (q : ∀ h' tk, (∀ b o, b ∉ wr → s.heap.get? b = some o → h'.get? b = some o) → R (.ok (.ret d)) { s with heap := h', toks := tk }) : codeAny (model prog w) A (.builtin "max.loop" ⟨[.ref I, .none, .ref S], [(Str.ofString "default", d)]⟩) R s := by
  refine codeAny_builtin PySem.F.entry_max_loop ?_; rw [Around.under_plainId PySem.F.plain_max_loop _]
  show wpAny _ A.in1 (seqItems? (.ref S) >>= _) _ _ s; refine wpAny_bind (wpAny_seqItems hS rfl ?_)
  show wpAny _ A.in1 (tryCatch (pyNext (.ref I)) _ >>= _) _ _ s; refine wpAny_bind (wpAny_tryCatch (W.done s _ _ st fun h' tk kk => ?_))
  refine wpAny_bind (wpAny_rule ?_)
  exact wpAny_pure (q h' tk kk)
end
section
variable {prog : Program} {w : World} {A : Around} {E : Value → Shared → Prop} {s : Shared} {l : Addr} {its : List Value} {ns : List Int} {Q : Value → Shared → Prop}
theorem max_args (a v : Value) : argsOk "max" ⟨[a], [(Str.ofString "default", v)]⟩ := by unfold argsOk; kernel_rfl
theorem max_dflt (d : Value) (hh : A.handled = none) (hl : s.heap.IsList l its.toArray) (hi : IntsAre its ns)
    (q0 : ns = [] → ∀ h' tk, (∀ b o, s.heap.get? b = some o → h'.get? b = some o) → Q d { s with heap := h', toks := tk })
    (q1 : ∀ h' tk M t', (∀ b o, s.heap.get? b = some o → h'.get? b = some o) → M ∈ ns → (∀ a, a ∈ ns → a ≤ M) → Q (.int M t') { s with heap := h', toks := tk }) : wpAny (model prog w) A (call (.builtin "max") [.ref l] [(Str.ofString "default", d)]) Q E s := by
  obtain ⟨xs, e⟩ := hi.allInts.items
  have hn : numsOf (intItems xs).toList = ns := by rw [← e]; exact hi.numsOf
  rw [nums_intItems] at hn
  subst hn
  rw [e] at hl
  have nm : (toString "max" ++ toString ".loop" : String) = "max.loop" := by decide
  refine kmk_tree PySem.F.kind_max PySem.F.plain_max PySem.F.entry_max (max_args _ _) ?_
  show wpAny _ A.in1 (Builtin.Builtins.bindParams "max" ["key", "default"] 0 ⟨[], [(Str.ofString "default", d)]⟩ >>= _) _ _ s
  refine wpAny_bind (wpAny_of_eq (show Builtin.Builtins.bindParams "max" ["key", "default"] 0 ⟨[], [(Str.ofString "default", d)]⟩ = pure [none, some d] from rfl) (wpAny_bind (wpAny_pure (wpAny_bind ?_))))
  refine iter_intList hl fun s₂ es st hfp hlI => ?_
  subst es
  refine wpAny_bind (wpAny_newObj_type ?_); rw [nm]
  have out : (s.heap.push { cls := .type "list_iterator", data := .fields #[.ref l, .int 0 0] }).objs.size ∉ [s.heap.objs.size, l] := fun z => Nat.lt_irrefl _ (hfp _ z)
  have W := Walks.list (prog := prog) (w := w) (A := A.in1) hh s.heap.objs.size l hlI (intItems xs)
  have hsz : (intItems xs).size = xs.size := by simp [intItems]
  rcases Nat.eq_zero_or_pos xs.size with z | z
  · have ez : (xs.toList.map (·.1)) = [] := by
      have : xs = #[] := Array.eq_empty_of_size_eq_zero z
      rw [this]; rfl
    rw [hsz, z] at W
    refine wpAny_pure ⟨plainId_quiet PySem.F.plain_max_loop _, max_empty W _ out d (W.frame _ _ _ st fun b _ o e => Heap.get?_push_of_some _ e) (Heap.get?_push_size _ rfl) fun h' tk kk => ?_⟩
    exact q0 ez h' tk (old_kept fun b o nb e => kk b o nb (Heap.get?_push_of_some _ e))
  · refine wpAny_pure ⟨plainId_quiet PySem.F.plain_max_loop _, max_first W _ (CmpOf.ints_gt (numAt xs) (fun _ _ => intItems_at)) _ out _ (by rw [hsz]; exact z) (W.frame _ _ _ st fun b _ o e => Heap.get?_push_of_some _ e) (Heap.get?_push_size _ rfl) fun v h' tk hv kk => ?_⟩
    rw [hsz] at hv
    obtain ⟨t, rfl⟩ := intItems_at hv
    obtain ⟨h1, h2⟩ := argBest_gt (numAt xs) (xs.size - 1)
    refine q1 h' tk _ t (old_kept fun b o nb e => kk b o nb (Nat.ne_of_lt (Heap.lt_size e)) (Heap.get?_push_of_some _ e)) ?_ fun a ha => ?_
    · rw [numAt_eq]; exact PySem.getD_mem (by rw [List.length_map, Array.length_toList]; omega)
    · obtain ⟨j, hj, rfl⟩ := mem_getD ha
      rw [List.length_map, Array.length_toList] at hj
      rw [← numAt_eq]; exact h2 j (by omega)
/-- max(xs, default=d): d of none -/
def rDmax (K : PySem.W.Frag) : List V → List V → Hp → VK → Prop := fun vs zs H Q => ∃ (a : Addr) (ns : List Int) (d : V), vs = [V.ref a] ∧ zs = [d] ∧ SqL K H a (ns.map V.int) ∧ (ns = [] → Q d H) ∧ ∀ M, M ∈ ns → (∀ a, a ∈ ns → a ≤ M) → Q (.int M) H
theorem call_Dmax {X : Cx} (hc : X.calm = true) : CallRK X (.builtin "max") ["default"] (rDmax X.K) := by
  intro pins s σ H xs zs us ws Q I r rz h
  obtain ⟨a, ns, d, rfl, rfl, hs, q0, q1⟩ := h
  obtain ⟨its, rv, hl, _⟩ := I.list hs
  obtain ⟨ud, rfl, rd⟩ := Vals.one rz
  rw [Vals.ref1 r]
  exact max_dflt ud (I.ok.hd hc) hl.isList rv.ints (fun e h' tk hk => ⟨d, H, I.kept hk, rd, q0 e⟩) fun h' tk M t' hk h1 h2 => ⟨.int _, H, I.kept hk, ⟨_, rfl⟩, q1 M h1 h2⟩
end
/-! ### min(xs, default=d) of a list of ints -/
section
variable {prog : Program} {w : World} {A : Around} {R : Result → Shared → Prop} {I : Addr} {fp wr : List Addr} {n : Nat} {Pi : Nat → Value → Prop} {St : Nat → Heap → Prop}
theorem min_turns (W : Walks prog w A.in1 I fp wr n Pi St) (bt : Nat → Nat → Bool) (cm : CmpOf prog w A.in1 .Lt Pi bt) (S : Addr) (out : S ∉ fp) (kw : List (Str × Value)) : ∀ (k j : Nat) (s : Shared) (vb : Value) (c : Nat), n - (j + 1) = k → j + 1 ≤ n → St (j + 1) s.heap → Pi (argBest bt j) vb →
    s.heap.get? S = some { cls := .type "list", dict := none, data := .seq #[vb, vb] c, slots := #[] } →
    (∀ v h' tk, Pi (argBest bt (n - 1)) v → (∀ b o, b ∉ wr → b ≠ S → s.heap.get? b = some o → h'.get? b = some o) → R (.ok (.ret v)) { s with heap := h', toks := tk }) → codeAny (model prog w) A (.builtin "min.loop" ⟨[.ref I, .none, .ref S], kw⟩) R s := by
  have outW : S ∉ wr := fun z => out (W.sub _ z)
  have nm : (toString "min" ++ toString ".loop" : String) = "min.loop" := by decide
  intro k
  induction k with
  | zero =>
    intro j s vb c hk hj st hP hS q
    have last : j + 1 = n := by omega
    refine codeAny_builtin PySem.F.entry_min_loop ?_; rw [Around.under_plainId PySem.F.plain_min_loop _]
    show wpAny _ A.in1 (seqItems? (.ref S) >>= _) _ _ s; refine wpAny_bind (wpAny_seqItems hS rfl ?_)
    show wpAny _ A.in1 (tryCatch (pyNext (.ref I)) _ >>= _) _ _ s; refine wpAny_bind (wpAny_tryCatch (W.done s _ _ (last ▸ st) fun h' tk kk => ?_))
    have hS2 := kk S _ outW hS
    show wpAny _ A.in1 (updateSeq S (fun _ => #[]) >>= _) _ _ _; refine wpAny_bind (wpAny_updateSeq hS2 rfl (wpAny_bind (wpAny_letGo (wpAny_pure ?_))))
    exact q vb _ tk (by rw [← last]; exact hP) fun b o nb nS e => (Heap.get?_update_other _ _ (Ne.symm nS)).trans (kk b o nb e)
  | succ k ih =>
    intro j s vb c hk hj st hP hS q
    have more : j + 1 < n := by omega
    refine codeAny_builtin PySem.F.entry_min_loop ?_; rw [Around.under_plainId PySem.F.plain_min_loop _]
    show wpAny _ A.in1 (seqItems? (.ref S) >>= _) _ _ s; refine wpAny_bind (wpAny_seqItems hS rfl ?_)
    show wpAny _ A.in1 (tryCatch (pyNext (.ref I)) _ >>= _) _ _ s; refine wpAny_bind (wpAny_tryCatch (W.item (j + 1) s _ _ more st fun v h' tk hv st2 kk => ?_))
    have hS2 := kk S _ outW hS
    show wpAny _ A.in1 (tryCatch (holding [v, v] (richCompare .Lt v vb >>= _)) _ >>= _) _ _ _; refine wpAny_bind (wpAny_tryCatch (wpAny_holding (wpAny_bind (cm (j + 1) (argBest bt j) v vb _ _ _ hv hP ?_))))
    refine wpAny_bind (wpAny_holding (wpAny_truthy_bool (wpAny_bind (wpAny_letGo (wpAny_pure ?_)))))
    cases hb : bt (j + 1) (argBest bt j) with
    | true =>
      simp only [if_true]; refine wpAny_bind (wpAny_updateSeq hS2 rfl (wpAny_bind (wpAny_letGo ?_))); rw [nm]
      refine wpAny_pure ⟨plainId_quiet PySem.F.plain_min_loop _, ih (j + 1) _ v _ (by omega) more (W.frame _ _ _ st2 fun b nb o e => ?_) (by simp only [argBest, hb, if_true]; exact hv) (Heap.get?_update_self _ hS2 rfl) fun v3 h3 tk3 hv3 kk3 => ?_⟩
      · exact (Heap.get?_update_other _ _ (fun z : S = b => out (by rw [z]; exact nb))).trans e
      · exact q v3 h3 tk3 hv3 fun b o nb nS e => kk3 b o nb nS ((Heap.get?_update_other _ _ (Ne.symm nS)).trans (kk b o nb e))
    | false =>
      simp only [Bool.false_eq_true, if_false]; refine wpAny_bind (wpAny_letGo ?_); rw [nm]
      refine wpAny_pure ⟨plainId_quiet PySem.F.plain_min_loop _, ih (j + 1) _ vb c (by omega) more st2 (by simp only [argBest, hb, Bool.false_eq_true, if_false]; exact hP) hS2 fun v3 h3 tk3 hv3 kk3 => ?_⟩
      exact q v3 h3 tk3 hv3 fun b o nb nS e => kk3 b o nb nS (kk b o nb e)
theorem min_first (W : Walks prog w A.in1 I fp wr n Pi St) (bt : Nat → Nat → Bool) (cm : CmpOf prog w A.in1 .Lt Pi bt) (S : Addr) (out : S ∉ fp) (kw : List (Str × Value)) (hn : 0 < n) {s : Shared} {c : Nat} (st : St 0 s.heap)
    (hS : s.heap.get? S = some { cls := .type "list", dict := none, data := .seq #[] c, slots := #[] })
    (q : ∀ v h' tk, Pi (argBest bt (n - 1)) v → (∀ b o, b ∉ wr → b ≠ S → s.heap.get? b = some o → h'.get? b = some o) → R (.ok (.ret v)) { s with heap := h', toks := tk }) : codeAny (model prog w) A (.builtin "min.loop" ⟨[.ref I, .none, .ref S], kw⟩) R s := by
  have outW : S ∉ wr := fun z => out (W.sub _ z)
  have nm : (toString "min" ++ toString ".loop" : String) = "min.loop" := by decide
  refine codeAny_builtin PySem.F.entry_min_loop ?_; rw [Around.under_plainId PySem.F.plain_min_loop _]
  show wpAny _ A.in1 (seqItems? (.ref S) >>= _) _ _ s; refine wpAny_bind (wpAny_seqItems hS rfl ?_)
  show wpAny _ A.in1 (tryCatch (pyNext (.ref I)) _ >>= _) _ _ s; refine wpAny_bind (wpAny_tryCatch (W.item 0 s _ _ hn st fun v h' tk hv st2 kk => ?_))
  have hS2 := kk S _ outW hS
  show wpAny _ A.in1 (updateSeq S (fun _ => #[v, v]) >>= _) _ _ _; refine wpAny_bind (wpAny_updateSeq hS2 rfl ?_); rw [nm]
  refine wpAny_pure ⟨plainId_quiet PySem.F.plain_min_loop _, min_turns W bt cm S out kw _ 0 _ v _ rfl hn (W.frame _ _ _ st2 fun b nb o e => ?_) hv (Heap.get?_update_self _ hS2 rfl) fun v3 h3 tk3 hv3 kk3 => ?_⟩
  · exact (Heap.get?_update_other _ _ (fun z : S = b => out (by rw [z]; exact nb))).trans e
  · exact q v3 h3 tk3 hv3 fun b o nb nS e => kk3 b o nb nS ((Heap.get?_update_other _ _ (Ne.symm nS)).trans (kk b o nb e))
theorem min_empty (W : Walks prog w A.in1 I fp wr 0 Pi St) (S : Addr) (out : S ∉ fp) (d : Value) {s : Shared} {c : Nat} (st : St 0 s.heap)
    (hS : s.heap.get? S = some { cls := .type "list", dict := none, data := .seq #[] c, slots := #[] })
    (q : ∀ h' tk, (∀ b o, b ∉ wr → s.heap.get? b = some o → h'.get? b = some o) → R (.ok (.ret d)) { s with heap := h', toks := tk }) : codeAny (model prog w) A (.builtin "min.loop" ⟨[.ref I, .none, .ref S], [(Str.ofString "default", d)]⟩) R s := by
  refine codeAny_builtin PySem.F.entry_min_loop ?_; rw [Around.under_plainId PySem.F.plain_min_loop _]
  show wpAny _ A.in1 (seqItems? (.ref S) >>= _) _ _ s; refine wpAny_bind (wpAny_seqItems hS rfl ?_)
  show wpAny _ A.in1 (tryCatch (pyNext (.ref I)) _ >>= _) _ _ s; refine wpAny_bind (wpAny_tryCatch (W.done s _ _ st fun h' tk kk => ?_))
  refine wpAny_bind (wpAny_rule ?_)
  exact wpAny_pure (q h' tk kk)
end
section
variable {prog : Program} {w : World} {A : Around} {E : Value → Shared → Prop} {s : Shared} {l : Addr} {its : List Value} {ns : List Int} {Q : Value → Shared → Prop}
theorem min_args (a v : Value) : argsOk "min" ⟨[a], [(Str.ofString "default", v)]⟩ := by unfold argsOk; kernel_rfl
theorem min_dflt (d : Value) (hh : A.handled = none) (hl : s.heap.IsList l its.toArray) (hi : IntsAre its ns)
    (q0 : ns = [] → ∀ h' tk, (∀ b o, s.heap.get? b = some o → h'.get? b = some o) → Q d { s with heap := h', toks := tk })
    (q1 : ∀ h' tk M t', (∀ b o, s.heap.get? b = some o → h'.get? b = some o) → M ∈ ns → (∀ a, a ∈ ns → M ≤ a) → Q (.int M t') { s with heap := h', toks := tk }) : wpAny (model prog w) A (call (.builtin "min") [.ref l] [(Str.ofString "default", d)]) Q E s := by
  obtain ⟨xs, e⟩ := hi.allInts.items
  have hn : numsOf (intItems xs).toList = ns := by rw [← e]; exact hi.numsOf
  rw [nums_intItems] at hn
  subst hn
  rw [e] at hl
  have nm : (toString "min" ++ toString ".loop" : String) = "min.loop" := by decide
  refine kmk_tree PySem.F.kind_min PySem.F.plain_min PySem.F.entry_min (min_args _ _) ?_
  show wpAny _ A.in1 (Builtin.Builtins.bindParams "min" ["key", "default"] 0 ⟨[], [(Str.ofString "default", d)]⟩ >>= _) _ _ s
  refine wpAny_bind (wpAny_of_eq (show Builtin.Builtins.bindParams "min" ["key", "default"] 0 ⟨[], [(Str.ofString "default", d)]⟩ = pure [none, some d] from rfl) (wpAny_bind (wpAny_pure (wpAny_bind ?_))))
  refine iter_intList hl fun s₂ es st hfp hlI => ?_
  subst es
  refine wpAny_bind (wpAny_newObj_type ?_); rw [nm]
  have out : (s.heap.push { cls := .type "list_iterator", data := .fields #[.ref l, .int 0 0] }).objs.size ∉ [s.heap.objs.size, l] := fun z => Nat.lt_irrefl _ (hfp _ z)
  have W := Walks.list (prog := prog) (w := w) (A := A.in1) hh s.heap.objs.size l hlI (intItems xs)
  have hsz : (intItems xs).size = xs.size := by simp [intItems]
  rcases Nat.eq_zero_or_pos xs.size with z | z
  · have ez : (xs.toList.map (·.1)) = [] := by
      have : xs = #[] := Array.eq_empty_of_size_eq_zero z
      rw [this]; rfl
    rw [hsz, z] at W
    refine wpAny_pure ⟨plainId_quiet PySem.F.plain_min_loop _, min_empty W _ out d (W.frame _ _ _ st fun b _ o e => Heap.get?_push_of_some _ e) (Heap.get?_push_size _ rfl) fun h' tk kk => ?_⟩
    exact q0 ez h' tk (old_kept fun b o nb e => kk b o nb (Heap.get?_push_of_some _ e))
  · refine wpAny_pure ⟨plainId_quiet PySem.F.plain_min_loop _, min_first W _ (CmpOf.ints_lt (numAt xs) (fun _ _ => intItems_at)) _ out _ (by rw [hsz]; exact z) (W.frame _ _ _ st fun b _ o e => Heap.get?_push_of_some _ e) (Heap.get?_push_size _ rfl) fun v h' tk hv kk => ?_⟩
    rw [hsz] at hv
    obtain ⟨t, rfl⟩ := intItems_at hv
    obtain ⟨h1, h2⟩ := argBest_lt (numAt xs) (xs.size - 1)
    refine q1 h' tk _ t (old_kept fun b o nb e => kk b o nb (Nat.ne_of_lt (Heap.lt_size e)) (Heap.get?_push_of_some _ e)) ?_ fun a ha => ?_
    · rw [numAt_eq]; exact PySem.getD_mem (by rw [List.length_map, Array.length_toList]; omega)
    · obtain ⟨j, hj, rfl⟩ := mem_getD ha
      rw [List.length_map, Array.length_toList] at hj
      rw [← numAt_eq]; exact h2 j (by omega)
/-- min(xs, default=d): d of none -/
def rDmin (K : PySem.W.Frag) : List V → List V → Hp → VK → Prop := fun vs zs H Q => ∃ (a : Addr) (ns : List Int) (d : V), vs = [V.ref a] ∧ zs = [d] ∧ SqL K H a (ns.map V.int) ∧ (ns = [] → Q d H) ∧ ∀ M, M ∈ ns → (∀ a, a ∈ ns → M ≤ a) → Q (.int M) H
theorem call_Dmin {X : Cx} (hc : X.calm = true) : CallRK X (.builtin "min") ["default"] (rDmin X.K) := by
  intro pins s σ H xs zs us ws Q I r rz h
  obtain ⟨a, ns, d, rfl, rfl, hs, q0, q1⟩ := h
  obtain ⟨its, rv, hl, _⟩ := I.list hs
  obtain ⟨ud, rfl, rd⟩ := Vals.one rz
  rw [Vals.ref1 r]
  exact min_dflt ud (I.ok.hd hc) hl.isList rv.ints (fun e h' tk hk => ⟨d, H, I.kept hk, rd, q0 e⟩) fun h' tk M t' hk h1 h2 => ⟨.int _, H, I.kept hk, ⟨_, rfl⟩, q1 M h1 h2⟩
end
/-! ### a stable sort, as a plain function -/
section
open SrtO (Swo Srtd Stb)
variable {α β : Type} {lt : α → α → Bool}
def ins (lt : α → α → Bool) (x : α) : List α → List α
  | [] => [x]
  | y :: r => if lt x y = true then x :: y :: r else y :: ins lt x r
def iSort (lt : α → α → Bool) (l : List α) : List α := l.foldl (fun acc x => ins lt x acc) []
theorem ins_perm (x : α) : ∀ l : List α, (ins lt x l).Perm (x :: l)
  | [] => List.Perm.refl _
  | y :: r => by
    unfold ins
    split
    · exact List.Perm.refl _
    · exact ((ins_perm x r).cons y).trans (List.Perm.swap x y r)
theorem ins_srtd (O : Swo lt) (x : α) : ∀ l : List α, Srtd lt l → Srtd lt (ins lt x l)
  | [], _ => List.pairwise_singleton _ _
  | y :: r, h => by
    have hy := List.pairwise_cons.mp h
    unfold ins
    split
    · rename_i c
      refine List.pairwise_cons.mpr ⟨fun z hz => ?_, h⟩
      rcases List.mem_cons.mp hz with rfl | hz
      · exact O.asym _ _ c
      · exact O.tr x y z (O.asym _ _ c) (hy.1 z hz)
    · rename_i c
      refine List.pairwise_cons.mpr ⟨fun z hz => ?_, ins_srtd O x r hy.2⟩
      rcases List.mem_cons.mp ((ins_perm x r).mem_iff.mp hz) with rfl | hz
      · exact Bool.eq_false_iff.mpr c
      · exact hy.1 z hz
theorem filt_none {p : α → Bool} {l : List α} (h : ∀ x ∈ l, p x = false) : l.filter p = [] := List.filter_eq_nil_iff.mpr fun x hx z => by rw [h x hx] at z; cases z
/-- past what isn't above it, in a class of its own place -/
theorem ins_cls (O : Swo lt) (x z : α) : ∀ l : List α, Srtd lt l → (ins lt x l).filter (SrtO.eqv lt z) = l.filter (SrtO.eqv lt z) ++ [x].filter (SrtO.eqv lt z)
  | [], _ => rfl
  | y :: r, h => by
    have hy := List.pairwise_cons.mp h
    unfold ins
    split
    · rename_i c
      by_cases hx : SrtO.eqv lt z x = true
      · have e := SrtO.eqv_iff.mp hx
        have no : ∀ w ∈ y :: r, SrtO.eqv lt z w = false := fun w hw => by
          apply Bool.eq_false_iff.mpr
          intro q
          have q2 := SrtO.eqv_iff.mp q
          have xw : lt x w = true := by
            rcases List.mem_cons.mp hw with rfl | hw
            · exact c
            · exact O.ltle c (hy.1 w hw)
          have := O.tr w z x q2.1 e.2
          rw [xw] at this; cases this
        rw [List.filter_cons_of_pos hx, filt_none no, List.nil_append, List.filter_cons_of_pos hx]; rfl
      · rw [List.filter_cons_of_neg hx, List.filter_cons_of_neg (l := []) hx]
        simp
    · by_cases hyz : SrtO.eqv lt z y = true
      · rw [List.filter_cons_of_pos hyz, List.filter_cons_of_pos hyz, ins_cls O x z r hy.2]; rfl
      · rw [List.filter_cons_of_neg hyz, List.filter_cons_of_neg hyz, ins_cls O x z r hy.2]
theorem iSort_go (O : Swo lt) : ∀ (l acc : List α), Srtd lt acc → Srtd lt (l.foldl (fun acc x => ins lt x acc) acc) ∧ Stb lt (l.foldl (fun acc x => ins lt x acc) acc) (acc ++ l)
  | [], acc, h => ⟨h, Stb.of_eq (by rw [List.append_nil]; rfl)⟩
  | x :: l, acc, h => by
    obtain ⟨a, b⟩ := iSort_go O l (ins lt x acc) (ins_srtd O x acc h)
    refine ⟨a, b.trans ?_⟩
    have : Stb lt (ins lt x acc) (acc ++ [x]) := ⟨(ins_perm x acc).trans (List.perm_append_comm (l₁ := [x]) (l₂ := acc)), fun z => by rw [ins_cls O x z acc h, List.filter_append]⟩
    have e : acc ++ x :: l = (acc ++ [x]) ++ l := by rw [List.append_assoc]; rfl
    rw [e]
    exact this.app (Stb.refl l)
theorem iSort_ok (O : Swo lt) (l : List α) : Srtd lt (iSort lt l) ∧ Stb lt (iSort lt l) l := iSort_go O l [] List.Pairwise.nil
theorem srt_one (O : Swo lt) : ∀ (l m : List α), Srtd lt l → Srtd lt m → Stb lt l m → l = m
  | [], m, _, _, h => (List.perm_nil.mp h.perm.symm).symm
  | x :: l, [], _, _, h => absurd h.perm.length_eq (by simp)
  | x :: l, y :: m, hl, hm, h => by
    have hx := List.pairwise_cons.mp hl
    have hy := List.pairwise_cons.mp hm
    have yl : y ∈ x :: l := h.perm.mem_iff.mpr List.mem_cons_self
    have xm : x ∈ y :: m := h.perm.mem_iff.mp List.mem_cons_self
    have a : lt y x = false := by
      rcases List.mem_cons.mp yl with rfl | z
      · exact O.refl _
      · exact hx.1 y z
    have b : lt x y = false := by
      rcases List.mem_cons.mp xm with rfl | z
      · exact O.refl _
      · exact hy.1 x z
    have c := h.cls x
    rw [List.filter_cons_of_pos (SrtO.eqv_iff.mpr ⟨O.refl x, O.refl x⟩), List.filter_cons_of_pos (SrtO.eqv_iff.mpr ⟨b, a⟩)] at c
    have exy : x = y := (List.cons.inj c).1
    subst exy
    refine congrArg (x :: ·) (srt_one O l m hx.2 hy.2 ⟨List.Perm.cons_inv h.perm, fun z => ?_⟩)
    have d := h.cls z
    by_cases q : SrtO.eqv lt z x = true
    · rw [List.filter_cons_of_pos q, List.filter_cons_of_pos q] at d
      exact (List.cons.inj d).2
    · rw [List.filter_cons_of_neg q, List.filter_cons_of_neg q] at d
      exact d
theorem srt_iSort (O : Swo lt) {out l : List α} (a : Srtd lt out) (b : Stb lt out l) : out = iSort lt l := by
  obtain ⟨c, d⟩ := iSort_ok O l
  exact srt_one O _ _ a c (b.trans ⟨d.perm.symm, fun z => (d.cls z).symm⟩)
/-- lists side by side are sorted side by side -/
theorem ins_two {lt' : β → β → Bool} {R : α → β → Prop} (hR : ∀ a b a' b', R a b → R a' b' → lt a a' = lt' b b') {x : α} {y : β} (hx : R x y) : ∀ {l : List α} {m : List β}, Paired R l m → Paired R (ins lt x l) (ins lt' y m)
  | _, _, .nil => .cons hx .nil
  | _, _, .cons (a := a) (b := b) r t => by
    unfold ins
    rw [hR _ _ _ _ hx r]
    split
    · exact .cons hx (.cons r t)
    · exact .cons r (ins_two hR hx t)
theorem iSort_two {lt' : β → β → Bool} {R : α → β → Prop} (hR : ∀ a b a' b', R a b → R a' b' → lt a a' = lt' b b') {l : List α} {m : List β} (h : Paired R l m) : Paired R (iSort lt l) (iSort lt' m) := by
  have go : ∀ {l : List α} {m : List β}, Paired R l m → ∀ {acc : List α} {bcc : List β}, Paired R acc bcc → Paired R (l.foldl (fun acc x => ins lt x acc) acc) (m.foldl (fun acc x => ins lt' x acc) bcc) := by
    intro l m h
    induction h with
    | nil => exact fun h => h
    | cons r _ ih => exact fun h2 => ih (ins_two hR r h2)
  exact go h .nil
theorem ins_at (x : α) : ∀ (l : List α) (k : Nat), k ≤ l.length → (∀ j y, j < k → l[j]? = some y → lt x y = false) → (∀ y, l[k]? = some y → lt x y = true) → ins lt x l = l.take k ++ [x] ++ l.drop k
  | [], 0, _, _, _ => rfl
  | [], k + 1, h, _, _ => absurd h (by simp)
  | y :: r, 0, _, _, h => by
    unfold ins
    rw [if_pos (h y rfl)]; rfl
  | y :: r, k + 1, hk, h1, h2 => by
    unfold ins
    rw [if_neg (by rw [h1 0 y (Nat.succ_pos k) rfl]; decide), ins_at x r k (by simpa using hk) (fun j z hj e => h1 (j + 1) z (by omega) e) (fun z e => h2 z e)]
    rfl
theorem srtd_at (O : Swo lt) : ∀ {l : List α}, Srtd lt l → ∀ {i j : Nat} {x y : α}, i < j → l[i]? = some x → l[j]? = some y → lt y x = false
  | [], _, _, _, _, _, _, e, _ => by cases e
  | a :: r, h, 0, 0, _, _, hij, _, _ => absurd hij (by decide)
  | a :: r, h, 0, j + 1, x, y, _, e1, e2 => by
    cases e1
    exact (List.pairwise_cons.mp h).1 y (List.mem_of_getElem? e2)
  | a :: r, h, i + 1, 0, _, _, hij, _, _ => absurd hij (by omega)
  | a :: r, h, i + 1, j + 1, x, y, hij, e1, e2 => srtd_at O (List.pairwise_cons.mp h).2 (i := i) (j := j) (by omega) e1 e2
theorem iSort_succ {l : List α} {i : Nat} {x : α} (h : l[i]? = some x) : iSort lt (l.take (i + 1)) = ins lt x (iSort lt (l.take i)) := by
  unfold iSort
  rw [List.take_succ, h, List.foldl_append]; rfl
theorem ins_len (x : α) (l : List α) : (ins lt x l).length = l.length + 1 := by rw [(ins_perm x l).length_eq]; rfl
theorem iSort_len (l : List α) : (iSort lt l).length = l.length := by
  have go : ∀ (l acc : List α), (l.foldl (fun acc x => ins lt x acc) acc).length = acc.length + l.length := by
    intro l
    induction l with
    | nil => intro acc; rfl
    | cons x r ih => intro acc; rw [List.foldl_cons, ih, ins_len, List.length_cons]; omega
  have := go l []
  unfold iSort
  simpa using this
theorem iSort_mem {x : α} : ∀ {l : List α}, x ∈ iSort lt l ↔ x ∈ l := by
  have go : ∀ (l acc : List α), x ∈ l.foldl (fun acc x => ins lt x acc) acc ↔ x ∈ acc ∨ x ∈ l := by
    intro l
    induction l with
    | nil => intro acc; simp
    | cons y r ih =>
      intro acc
      rw [List.foldl_cons, ih, (ins_perm y acc).mem_iff, List.mem_cons, List.mem_cons]
      constructor
      · rintro ((h | h) | h)
        · exact .inr (.inl h)
        · exact .inl h
        · exact .inr (.inr h)
      · rintro (h | h | h)
        · exact .inl (.inr h)
        · exact .inl (.inl h)
        · exact .inr h
  intro l
  have := go l []
  unfold iSort
  rw [this]; simp
end
/-! ### sorted(xs, key=f), f any callable -/
set_option maxHeartbeats 8000000
section
open SrtO (Swo Srtd Stb lt2 swo2 SortableO)
open PySem.Builtin
/-- from s to s', as behind a call: what stood at s stands, but what is tracked -/
structure Gone (X : Cx) (H : Hp) (s : Shared) (H' : Hp) (s' : Shared) : Prop where
  os : s'.os = s.os
  bare : AllBare s'.gens
  un : Un (frs X.stack) [] H H' s.heap s'.heap
  hok : HOk X.prog X.w H' s'.heap
variable {X : Cx} {pins : List (Addr × Obj)} {σ : L2.St} {H H1 H2 : Hp} {s s1 s2 : Shared}
theorem Gone.refl (I : Inv X pins σ H s) : Gone X H s H s := ⟨rfl, I.bare, Un.refl, I.hok⟩
theorem Gone.inv (I : Inv X pins σ H s) (g : Gone X H s H1 s1) : Inv X pins σ H1 s1 := I.call' g.os g.un g.hok g.bare fun b z => absurd z (by simp)
theorem Gone.on (g : Gone X H s H1 s1) (g2 : Gone X H1 s1 H2 s2) : Gone X H s H2 s2 := ⟨g2.os.trans g.os, g2.bare, g.un.trans g2.un, g2.hok⟩
theorem un_poke {fs ex : List Addr} {h h1 h2 : Heap} {a : Addr} (u : Un fs ex H H1 h h1) (na : h.objs.size ≤ a) (k : ∀ b o, b ≠ a → h1.get? b = some o → h2.get? b = some o) : Un fs ex H H1 h h2 := by
  have ne : ∀ {b : Addr} {o : Obj}, h.get? b = some o → b ≠ a := fun e => Nat.ne_of_lt (Nat.lt_of_lt_of_le (Heap.lt_size e) na)
  exact ⟨fun b o e n f x => k b o (ne e) (u.keep b o e n f x), fun b o e n f x => let ⟨sl, z⟩ := u.slot b o e n f x; ⟨sl, k b _ (ne e) z⟩, u.free, fun b o e x => let ⟨o', z⟩ := u.there b o e x; ⟨o', k b _ (ne e) z⟩, u.tups, u.frzs, u.tbls⟩
theorem hok_poke {P : Program} {w : World} {h1 h2 : Heap} {a : Addr} (x : HOk P w H h1) (n : H a = none) (k : ∀ b o, b ≠ a → h1.get? b = some o → h2.get? b = some o) : HOk P w H h2 := fun b o e =>
  (x b o e).stay (fun c v hc q => k c v (fun z => by
    subst z
    rcases hc with rfl | hc
    · rw [n] at e; cases e
    · rw [n] at hc; cases hc) q) (fun _ q => q) fun _ _ q => q
theorem Gone.poke {a : Addr} {h2 : Heap} {t : Nat} (g : Gone X H s H1 s1) (na : s.heap.objs.size ≤ a) (n : H1 a = none) (k : ∀ b o, b ≠ a → s1.heap.get? b = some o → h2.get? b = some o) : Gone X H s H1 { s1 with heap := h2, toks := t } :=
  ⟨g.os, g.bare, un_poke g.un na k, hok_poke g.hok n k⟩
theorem Gone.kept {h2 : Heap} {t : Nat} (g : Gone X H s H1 s1) (k : ∀ b o, s1.heap.get? b = some o → h2.get? b = some o) : Gone X H s H1 { s1 with heap := h2, toks := t } :=
  ⟨g.os, g.bare, g.un.trans (Un.kept k), g.hok.kept k⟩
theorem nostk (I : Inv X pins σ H s) {a : Addr} (na : s.heap.objs.size ≤ a) : a ∉ frs X.stack := fun z => by
  rcases List.mem_cons.mp (I.stkSub a z) with e | e
  · exact absurd I.lt (by rw [← e]; exact Nat.not_lt.mpr na)
  · exact I.nofs na e
/-- a call of the key, and what stands apart from it -/
def Keyed1 (X : Cx) (A : Around) (q : Value) (v : Value) (H1 : Hp) (s1 : Shared) (R : Hp → Value → Prop) : Prop :=
  wpAny (model X.prog X.w) A (call q [v]) (fun u s2 => ∃ H2, Gone X H1 s1 H2 s2 ∧ R H2 u) (fun _ _ => False) s1
section
variable {a kS : Addr} {q : Value} {vs : List Value} {A : Around} {Pq : PySem.Fin → Shared → Prop} {E : Value → Shared → Prop} {R : Nat → Hp → List Value → Prop} {ltv : Value → Value → Bool}
theorem sk_tail {st : SortSt} {keys : List Value} {e e1 : Nat} (I : Inv X pins σ H s) (g : Gone X H s H1 s1) (na : s.heap.objs.size ≤ a) (nk : s.heap.objs.size ≤ kS) (n1 : H1 a = none) (n2 : H1 kS = none) (nak : kS ≠ a)
    (ea : s1.heap.get? a = some (seqObj "list" #[] e1)) (ek : s1.heap.get? kS = some (seqObj "list" keys.toArray e)) (hz : keys.length ≤ sizeLine) (ho : (arrOf st).size ≤ sizeLine) (hf : failedOf st = none)
    (fin : ∀ s2, Gone X H s H1 s2 → (∃ c, s2.heap.get? a = some (seqObj "list" ((arrOf st).toList.map (·.2)).toArray c)) → Pq (.done (.ret .none)) s2) : wpAny (model X.prog X.w) A (ksk_tail a false e1 (.ref kS) st) Pq E s1 := by
  have b1 := Heap.SameBut.update s1.heap kS (Obj.mapSeq fun _ => (#[] : Array Value))
  have a1 : (s1.heap.update kS (Obj.mapSeq fun _ => (#[] : Array Value))).get? a = some (seqObj "list" #[] e1) := (b1.2 a nak.symm).trans ea
  have b2 := Heap.SameBut.update (s1.heap.update kS (Obj.mapSeq fun _ => (#[] : Array Value))) a (Obj.mapSeq fun _ => (arrOf st).map (·.2))
  have g1 := g.poke (t := s1.toks) (h2 := s1.heap.update kS (Obj.mapSeq fun _ => (#[] : Array Value))) nk n2 fun b o nb z => (b1.2 b nb).trans z
  have g2 := g1.poke (t := s1.toks) (h2 := (s1.heap.update kS (Obj.mapSeq fun _ => (#[] : Array Value))).update a (Obj.mapSeq fun _ => (arrOf st).map (·.2))) na n1 fun b o nb z => (b2.2 b nb).trans z
  unfold ksk_tail
  try dsimp only
  refine wpAny_bind (listUpdate_at ek rfl ?_ (by rw [List.size_toArray]; exact hz) (Nat.zero_le _)); refine wpAny_bind (wpAny_letGo ?_); refine wpAny_bind (seqEpoch_at a1 rfl ?_)
  refine wpAny_bind (listUpdate_at a1 rfl ?_ (Nat.zero_le _) (Nat.le_succ_of_le (by rw [if_neg (by decide), Array.size_map]; exact ho)))
  rw [hf]; simp only [bne_self_eq_false, Bool.false_eq_true, if_false]
  obtain ⟨c2, e3⟩ : ∃ c, ((s1.heap.update kS (Obj.mapSeq fun _ => (#[] : Array Value))).update a (Obj.mapSeq fun _ => (arrOf st).map (·.2))).get? a = some (seqObj "list" ((arrOf st).map (·.2)) c) := ⟨_, get?_update_seq a1 fun _ => (arrOf st).map (·.2)⟩
  have e4 : (arrOf st).map (·.2) = ((arrOf st).toList.map (·.2)).toArray := by rw [← Array.toList_map, Array.toArray_toList]
  exact wpAny_pure (fin _ g2 ⟨c2, e3.trans (by rw [e4])⟩)
theorem sk_end {keys : List Value} {e e1 : Nat} (O : Swo ltv) (I : Inv X pins σ H s) (g : Gone X H s H1 s1) (na : s.heap.objs.size ≤ a) (nk : s.heap.objs.size ≤ kS) (n1 : H1 a = none) (n2 : H1 kS = none) (nak : kS ≠ a)
    (ea : s1.heap.get? a = some (seqObj "list" #[] e1)) (ek : s1.heap.get? kS = some (seqObj "list" keys.toArray e)) (hl : keys.length = vs.length) (hz : vs.length ≤ sizeLine) (hS : 2 ≤ keys.length → SortableO X.prog X.w A s1 a keys ltv)
    (fin : ∀ s2 (out : List Keyed), Srtd (lt2 ltv) out → Stb (lt2 ltv) out (keys.zip vs) → Gone X H s H1 s2 → (∃ c, s2.heap.get? a = some (seqObj "list" (out.map (·.2)).toArray c)) → Pq (.done (.ret .none)) s2) : wpAny (model X.prog X.w) A (ksk_end a false vs.toArray e1 (.ref kS) keys.toArray) Pq E s1 := by
  have zl : (keys.toArray.zip vs.toArray).toList = keys.zip vs := by simp [Array.toList_zip]
  have zs : (keys.toArray.zip vs.toArray).size = vs.length := by rw [Array.size_zip, List.size_toArray, List.size_toArray]; omega
  unfold ksk_end
  try dsimp only
  rw [if_neg (by decide)]
  have hsz : vs.toArray.size = vs.length := List.size_toArray ..
  by_cases h2 : vs.toArray.size < 2
  · rw [if_pos h2, if_pos h2]
    refine wpAny_bind (wpAny_pure ?_); rw [StateT.run_pure]; refine wpAny_bind (wpAny_pure ?_)
    try dsimp only
    have ez : arrOf (SortSt.mk' general' (keys.toArray.zip vs.toArray) #[] 7 none) = keys.toArray.zip vs.toArray := rfl
    refine sk_tail (st := SortSt.mk' general' (keys.toArray.zip vs.toArray) #[] 7 none) I g na nk n1 n2 nak ea ek (by omega) (by rw [ez, zs]; exact hz) rfl fun s2 g2 e2 => fin s2 (keys.zip vs) ?_ (Stb.refl _) g2 (by rw [ez, zl] at e2; exact e2)
    rw [hsz] at h2
    match hk : keys.zip vs with
    | [] => exact List.Pairwise.nil
    | [x] => exact List.pairwise_singleton _ _
    | x :: y :: r =>
      have := congrArg List.length hk
      rw [List.length_zip, hl, Nat.min_self, List.length_cons, List.length_cons] at this
      omega
  · rw [if_neg h2, if_neg h2]
    rw [hsz] at h2
    obtain ⟨κ, hk, hT⟩ := hS (by omega) s1.heap fun _ _ _ z => z
    refine wpAny_bind (hk _ _ ?_)
    have all : SrtO.AllL (fun p : Keyed => p.1 ∈ keys) (keys.toArray.zip vs.toArray).toList := fun p hm => by
      rw [zl] at hm
      exact (List.of_mem_zip hm).1
    refine wpAny_bind (wpAny_mono (SrtO.wpS_sortO (st0 := SortSt.mk' κ (keys.toArray.zip vs.toArray) #[] 7 none) (Q := fun _ st' => Srtd (lt2 ltv) (arrOf st').toList ∧ Stb (lt2 ltv) (arrOf st').toList (keys.toArray.zip vs.toArray).toList ∧ failedOf st' = none) (swo2 O) hT rfl all rfl rfl fun st' a1 a2 a3 => ⟨a1, a2, a3⟩) ?_ fun _ _ z => z)
    rintro ⟨⟨⟩, st'⟩ s' ⟨rfl, p1, p2, p3⟩
    try dsimp only
    rw [zl] at p2
    have hlen : (arrOf st').size = vs.length := by
      have := p2.len
      rw [Array.length_toList, List.length_zip, hl, Nat.min_self] at this; exact this
    exact sk_tail I g na nk n1 n2 nak ea ek (by omega) (by rw [hlen]; exact hz) p3 fun s2 g2 e2 => fin s2 _ p1 p2 g2 e2
/-- the keys are asked one by one, then the pairs are sorted -/
theorem sk_rest {e1 : Nat} {Z : (Value → Value → Bool) → List Value → Hp → Prop} (I : Inv X pins σ H s) (g : Gone X H s H1 s1) (na : s.heap.objs.size ≤ a) (nk : s.heap.objs.size ≤ kS) (n1 : H1 a = none) (n2 : H1 kS = none) (nak : kS ≠ a)
    (ea : s1.heap.get? a = some (seqObj "list" #[] e1)) (ek : s1.heap.get? kS = some (seqObj "list" #[] 0)) (hz : vs.length ≤ sizeLine) (R0 : R 0 H1 [])
    (turn : ∀ (j : Nat) (v : Value) (H2 : Hp) (s2 : Shared) (us : List Value), vs[j]? = some v → R j H2 us → Gone X H s H2 s2 → Keyed1 X A q v H2 s2 fun H3 u => R (j + 1) H3 (us ++ [u]))
    (hS : ∀ (H2 : Hp) (s2 : Shared) (us : List Value), R vs.length H2 us → Gone X H s H2 s2 → us.length = vs.length → H2 a = none → (∃ e, s2.heap.get? a = some (seqObj "list" #[] e)) → ∃ ltv, Swo ltv ∧ (2 ≤ us.length → SortableO X.prog X.w A s2 a us ltv) ∧ Z ltv us H2)
    (fin : ∀ (H2 : Hp) (s2 : Shared) (us : List Value) (out : List Keyed) (ltv : Value → Value → Bool), Z ltv us H2 → Swo ltv → R vs.length H2 us → us.length = vs.length → Srtd (lt2 ltv) out → Stb (lt2 ltv) out (us.zip vs) → Gone X H s H2 s2 → H2 a = none → (∃ c, s2.heap.get? a = some (seqObj "list" (out.map (·.2)).toArray c)) → Pq (.done (.ret .none)) s2) :
    wpAny (model X.prog X.w) A (ksk_rest a q false vs.toArray e1 (.ref kS)) Pq E s1 := by
  have na' := nostk I na
  have nk' := nostk I nk
  unfold ksk_rest
  refine wpAny_bind (wpAny_rule ?_)
  rw [List.forIn_toArray]
  refine wpAny_bind (ksk_fold (fun i s2 => ∃ (H2 : Hp) (us : List Value) (e : Nat), Gone X H s H2 s2 ∧ H2 a = none ∧ H2 kS = none ∧ s2.heap.get? a = some (seqObj "list" #[] e1) ∧ s2.heap.get? kS = some (seqObj "list" us.toArray e) ∧ us.length = i ∧ R i H2 us) vs 0 s1 ⟨H1, [], 0, g, n1, n2, ea, ek, rfl, R0⟩ ?step ?done)
  case step =>
    rintro j x s2 hx ⟨H2, us, e, g2, m1, m2, ea2, ek2, hl, hR⟩
    simp only [Nat.zero_add] at hl hR ⊢
    have hj : j < vs.length := (List.getElem?_eq_some_iff.mp hx).1
    refine wpAny_bind (wpAny_attempt (wpAny_mono (turn j x H2 s2 us hx hR g2) (fun u s3 he => ?_) fun _ _ z => z.elim))
    obtain ⟨H3, g23, hR3⟩ := he
    have g3 := g2.on g23
    have m3 := g23.un.free a _ ea2 m1 (by simp)
    have m4 := g23.un.free kS _ ek2 m2 (by simp)
    have ea3 := g23.un.keep a _ ea2 m1 na' (by simp)
    have ek3 := g23.un.keep kS _ ek2 m2 nk' (by simp)
    try dsimp only
    have b1 := Heap.SameBut.update s3.heap kS (Obj.mapSeq (·.push u))
    have g4 := g3.poke (t := s3.toks) (h2 := s3.heap.update kS (Obj.mapSeq (·.push u))) nk m4 fun b o nb z => (b1.2 b nb).trans z
    refine wpAny_bind (listUpdate_at ek3 rfl ?_ (by rw [List.size_toArray]; omega) (by rw [Array.size_push, List.size_toArray]; omega))
    obtain ⟨c5, e5⟩ : ∃ c, (s3.heap.update kS (Obj.mapSeq (·.push u))).get? kS = some (seqObj "list" (us.toArray.push u) c) := ⟨_, get?_update_seq ek3 (·.push u)⟩
    rw [List.push_toArray] at e5
    exact wpAny_pure ⟨rfl, H3, us ++ [u], c5, g4, m3, m4, (b1.2 a nak.symm).trans ea3, e5, by rw [List.length_append, hl]; rfl, hR3⟩
  case done =>
    rintro s2 ⟨H2, us, e, g2, m1, m2, ea2, ek2, hl, hR⟩
    rw [Nat.zero_add] at hl hR
    try dsimp only
    refine wpAny_bind (listItems_at ek2 rfl ?_)
    obtain ⟨ltv, O, hS2, hZ⟩ := hS H2 s2 us hR g2 hl m1 ⟨_, ea2⟩
    exact sk_end O I g2 na nk m1 m2 nak ea2 ek2 hl hz hS2 fun s3 out p1 p2 g3 e3 => fin H2 s3 us out ltv hZ O hR hl p1 p2 g3 m1 e3
/-- sorted(l, key=q) -/
theorem sk_sorted {l q : Addr} {Qq : Value → Shared → Prop} {Z : (Value → Value → Bool) → List Value → Hp → Prop} (I : Inv X pins σ H s) (hl : s.heap.IsList l vs.toArray) (hz : vs.length ≤ sizeLine) (R0 : R 0 H [])
    (turn : ∀ (j : Nat) (v : Value) (H2 : Hp) (s2 : Shared) (us : List Value), vs[j]? = some v → R j H2 us → Gone X H s H2 s2 → Keyed1 X X.A.in1.in1 (.ref q) v H2 s2 fun H3 u => R (j + 1) H3 (us ++ [u]))
    (hS : ∀ (H2 : Hp) (s2 : Shared) (a : Addr) (us : List Value), R vs.length H2 us → Gone X H s H2 s2 → us.length = vs.length → H2 a = none → (∃ e, s2.heap.get? a = some (seqObj "list" #[] e)) → ∃ ltv, Swo ltv ∧ (2 ≤ us.length → SortableO X.prog X.w X.A.in1.in1 s2 a us ltv) ∧ Z ltv us H2)
    (fin : ∀ (a : Addr) (H2 : Hp) (s2 : Shared) (us : List Value) (out : List Keyed) (ltv : Value → Value → Bool), Z ltv us H2 → Swo ltv → s.heap.objs.size ≤ a → R vs.length H2 us → us.length = vs.length → Srtd (lt2 ltv) out → Stb (lt2 ltv) out (us.zip vs) → Gone X H s H2 s2 → H2 a = none → (∃ c, s2.heap.get? a = some (seqObj "list" (out.map (·.2)).toArray c)) → Qq (.ref a) s2) :
    wpAny (model X.prog X.w) X.A (call (.builtin "sorted") [.ref l] [(Str.ofString "key", .ref q)]) Qq E s := by
  refine call_function_entry_kw kind_sorted plain_sorted entry_sorted (by unfold argsOk; kernel_rfl) ?_
  unfold Builtin.«sorted»
  refine wpAny_bind (m := checkCount "sorted" 1 1 _) (wpAny_pure (wpAny_bind (collect_list hl (wpAny_bind (wpAny_newList ?_ hz)) hz)))
  have sz : ((s.heap.push (seqObj "list" #[] 0)).update s.heap.objs.size (Obj.mapSeq (· ++ vs.toArray))).objs.size = s.heap.objs.size + 1 := by rw [Heap.size_update, size_push']
  generalize hh : (s.heap.push (seqObj "list" #[] 0)).update s.heap.objs.size (Obj.mapSeq (· ++ vs.toArray)) = hp at sz
  have k0 : ∀ b o, s.heap.get? b = some o → hp.get? b = some o := fun b o e => by
    have lt : b < s.heap.objs.size := Heap.lt_size e
    rw [← hh, Heap.get?_update_ne _ _ _ _ (Nat.ne_of_lt lt), Heap.get?_push_ne _ _ _ (Nat.ne_of_lt lt)]; exact e
  show wpAny _ _ _ _ _ { s with heap := hp.push (seqObj "list" vs.toArray 0) }
  rw [sz]
  have oA : (hp.push (seqObj "list" vs.toArray 0)).get? (s.heap.objs.size + 1) = some (seqObj "list" vs.toArray 0) := by rw [← sz]; exact Heap.get?_push_size _ rfl
  refine wpAny_bind (wpAny_holding (wpAny_call_entry_kw slot_list_sort ⟨_, oA, rfl⟩ entry_list_sort ?_ (ksk_l1 _ _)))
  rw [ksk_t1]
  have ba := Heap.SameBut.update (hp.push (seqObj "list" vs.toArray 0)) (s.heap.objs.size + 1) (Obj.mapSeq fun _ => (#[] : Array Value))
  obtain ⟨e1, oA1⟩ : ∃ e1, ((hp.push (seqObj "list" vs.toArray 0)).update (s.heap.objs.size + 1) (Obj.mapSeq fun _ => (#[] : Array Value))).get? (s.heap.objs.size + 1) = some (seqObj "list" #[] e1) := ⟨_, get?_update_seq oA fun _ => #[]⟩
  have sz2 : ((hp.push (seqObj "list" vs.toArray 0)).update (s.heap.objs.size + 1) (Obj.mapSeq fun _ => (#[] : Array Value))).objs.size = s.heap.objs.size + 2 := by rw [Heap.size_update, size_push', sz]
  have k1 : ∀ b o, s.heap.get? b = some o → ((hp.push (seqObj "list" vs.toArray 0)).update (s.heap.objs.size + 1) (Obj.mapSeq fun _ => (#[] : Array Value))).get? b = some o := fun b o e =>
    (ba.2 b (Nat.ne_of_lt (Nat.lt_succ_of_lt (Heap.lt_size e)))).trans (Heap.get?_push_of_some _ (k0 b o e))
  let hq := (hp.push (seqObj "list" vs.toArray 0)).update (s.heap.objs.size + 1) (Obj.mapSeq fun _ => (#[] : Array Value))
  have k2 : ∀ b o, s.heap.get? b = some o → ((hq.push (seqObj "tuple" vs.toArray 0)).push (seqObj "list" #[] 0)).get? b = some o := fun b o e => Heap.get?_push_of_some _ (Heap.get?_push_of_some _ (k1 b o e))
  have sz3 : (hq.push (seqObj "tuple" vs.toArray 0)).objs.size = s.heap.objs.size + 3 := by rw [size_push', sz2]
  have g0 : Gone X H s H { s with heap := (hq.push (seqObj "tuple" vs.toArray 0)).push (seqObj "list" #[] 0) } := (Gone.refl I).kept (t := s.toks) k2
  have eA : ((hq.push (seqObj "tuple" vs.toArray 0)).push (seqObj "list" #[] 0)).get? (s.heap.objs.size + 1) = some (seqObj "list" #[] e1) := Heap.get?_push_of_some _ (Heap.get?_push_of_some _ oA1)
  have eK : ((hq.push (seqObj "tuple" vs.toArray 0)).push (seqObj "list" #[] 0)).get? (s.heap.objs.size + 3) = some (seqObj "list" #[] 0) := by rw [← sz3]; exact Heap.get?_push_size _ rfl
  unfold ksk_tree
  refine wpAny_bind (listItems_at oA rfl (wpAny_bind (listUpdate_at oA rfl ?_ (by rw [List.size_toArray]; exact hz) (Nat.zero_le _))))
  refine wpAny_bind (seqEpoch_at oA1 rfl (wpAny_bind (wpAny_newTuple (wpAny_bind (wpAny_newList (wpAny_holding ?_) (Nat.zero_le _))) hz)))
  show wpAny _ _ (ksk_rest (s.heap.objs.size + 1) (.ref q) false vs.toArray e1 (.ref (hq.push (seqObj "tuple" vs.toArray 0)).objs.size)) _ _ { s with heap := (hq.push (seqObj "tuple" vs.toArray 0)).push (seqObj "list" #[] 0) }
  rw [sz3]
  refine sk_rest (Z := Z) I g0 (Nat.le_succ _) (Nat.le_add_right _ 3) (I.hok.fresh (Nat.le_succ _)) (I.hok.fresh (Nat.le_add_right _ 3)) (show s.heap.objs.size + 3 ≠ s.heap.objs.size + 1 by omega) eA eK hz R0 turn (fun H2 s2 us r g l1 n z => hS H2 s2 _ us r g l1 n z) fun H2 s2 us out ltv z o r l1 p1 p2 g n e => ⟨_, rfl, ?_⟩
  exact wpAny_pure ⟨_, rfl, fin _ H2 s2 us out ltv z o (Nat.le_succ _) r l1 p1 p2 g n e⟩
end
end
/-! ### sorted(xs, key=f) over the layer -/
section
open SrtO (Swo Srtd Stb lt2 swo2 SortableO)
variable {X : Cx} {pins : List (Addr × Obj)} {σ : L2.St} {H HJ : Hp} {s sJ : Shared}
/-- what has been made meanwhile is told to the ledger -/
theorem inv_track {a : Addr} {o : HO} (J : Inv X pins σ HJ sJ) (ge : sJ.heap.objs.size ≤ a) (I : Inv X pins σ H s) (na : H a = none) (ok : ObjOk X.prog X.w (upd H a o) s.heap a o) : Inv X pins σ (upd H a o) s := by
  have ne : ∀ {b : Addr} {o : Obj}, sJ.heap.get? b = some o → b ≠ a := fun e => Nat.ne_of_lt (Nat.lt_of_lt_of_le (Heap.lt_size e) ge)
  have n0 : ∀ {b : Addr} {o : Obj}, X.s_0.heap.get? b = some o → b ≠ a := fun e => Nat.ne_of_lt (Nat.lt_of_lt_of_le (Heap.lt_size e) (Nat.le_trans J.sz ge))
  have bs : Un X.fs X.ex X.H_0 (upd H a o) X.s_0.heap s.heap := {
    keep := I.base.keep
    slot := I.base.slot
    there := I.base.there
    free := fun b o e n q => by rw [upd_ne (n0 e)]; exact I.base.free b o e n q
    tups := fun b xs e => by
      have z := I.base.tups b xs e
      rw [upd_ne (ne_of_none z na)]; exact z
    frzs := fun b o u e => by
      have z := I.base.frzs b o u e
      rw [upd_ne (ne_of_none z na)]; exact z
    tbls := fun b ps e => by
      obtain ⟨m, z⟩ := I.base.tbls b ps e
      exact ⟨m, by rw [upd_ne (ne_of_none z na)]; exact z⟩ }
  have fr : X.env.locals ≠ a := by
    obtain ⟨m, ⟨o, es, ep, ho, _⟩, _⟩ := J.loc
    exact ne ho
  refine ⟨I.ok, I.os, I.bare, bs, I.loc, I.cell, by rw [upd_ne fr]; exact I.free, fun x c e => ?_, fun p hp => ?_, fun b o e => ?_, I.len⟩
  · obtain ⟨v, o, ho, _⟩ := J.cell x c e
    rw [upd_ne (ne ho)]; exact I.freeC x c e
  · obtain ⟨e, n, r⟩ := I.pin p hp
    exact ⟨e, by rw [upd_ne (ne (J.pin p hp).1)]; exact n, r⟩
  · by_cases hb : b = a
    · subst hb
      rw [upd_same] at e; cases e; exact ok
    · rw [upd_ne hb] at e
      exact (I.hok b o e).stay (fun c v _ q => q) (fun c q => by rw [upd_ne (ne_of_none q na)]; exact q) fun c xs q => by rw [upd_ne (ne_of_none q na)]; exact q
/-- keys: how they stand in the heap, and their order -/
structure KeyOk (X : Cx) {α : Type} (KR : Hp → V → α → Prop) (lt : α → α → Bool) : Prop where
  keep : ∀ {H H' : Hp} {v : V} {k : α}, KR H v k → Same H H' → KR H' v k
  sort : ∀ {pins : List (Addr × Obj)} {σ : L2.St} {H : Hp} {s : Shared} {A : Around} {b : Addr} {ys : List V} {us : List Value} {ks : List α}, Inv X pins σ H s → H b = none → (∃ e, s.heap.get? b = some (seqObj "list" #[] e)) → Paired (KR H) ys ks → Vals ys us →
    ∃ ltv, Swo ltv ∧ (2 ≤ us.length → SortableO X.prog X.w A s b us ltv) ∧ ∀ p ∈ us.zip ks, ∀ q ∈ us.zip ks, ltv p.1 q.1 = lt p.2 q.2
theorem paired_mono {α β : Type} {F G : α → β → Prop} (f : ∀ a b, F a b → G a b) : ∀ {l : List α} {m : List β}, Paired F l m → Paired G l m
  | _, _, .nil => .nil
  | _, _, .cons r t => .cons (f _ _ r) (paired_mono f t)
theorem paired_snoc {α β : Type} {F : α → β → Prop} {x : α} {y : β} (r : F x y) : ∀ {l : List α} {m : List β}, Paired F l m → Paired F (l ++ [x]) (m ++ [y])
  | _, _, .nil => .cons r .nil
  | _, _, .cons q t => .cons q (paired_snoc r t)
theorem paired_zip {α : Type} {xs : List V} {vs us : List Value} {ks : List α} (r : Vals xs vs) (l1 : us.length = vs.length) (l2 : ks.length = xs.length) : Paired (fun (p : Value × Value) (q : α × V) => (p.1, q.1) ∈ us.zip ks ∧ RelV q.2 p.2) (us.zip vs) (ks.zip xs) := by
  have go : ∀ (us0 : List Value) (ks0 : List α) (us : List Value) (ks : List α) (vs : List Value) (xs : List V), Vals xs vs → us.length = vs.length → ks.length = xs.length → (∀ p ∈ us.zip ks, p ∈ us0.zip ks0) → Paired (fun (p : Value × Value) (q : α × V) => (p.1, q.1) ∈ us0.zip ks0 ∧ RelV q.2 p.2) (us.zip vs) (ks.zip xs) := by
    intro us0 ks0 us
    induction us with
    | nil =>
      intro ks vs xs r l1 l2 _
      cases r with
      | nil => rw [List.zip_nil_right, List.zip_nil_right]; exact .nil
      | cons _ _ => cases l1
    | cons u us ih =>
      intro ks vs xs r l1 l2 hm
      cases r with
      | nil => cases l1
      | cons r1 r2 =>
        cases ks with
        | nil => cases l2
        | cons k ks => exact .cons ⟨hm _ List.mem_cons_self, r1⟩ (ih ks _ _ r2 (by simpa using l1) (by simpa using l2) fun p hp => hm p (List.mem_cons_of_mem _ hp))
  exact go us ks us ks vs xs r l1 l2 fun _ h => h
theorem vals_snd {α : Type} {P : Value × Value → α × V → Prop} : ∀ {l : List (Value × Value)} {m : List (α × V)}, Paired (fun p q => P p q ∧ RelV q.2 p.2) l m → Vals (m.map (·.2)) (l.map (·.2))
  | _, _, .nil => .nil
  | _, _, .cons r t => .cons r.2 (vals_snd t)
/-- the list by the keys ks -/
def byKeys {α : Type} (lt : α → α → Bool) (ks : List α) (xs : List V) : List V := (iSort (fun a b : α × V => lt a.1 b.1) (ks.zip xs)).map (·.2)
theorem key_sorted {α : Type} {KR : Hp → V → α → Prop} {lt : α → α → Bool} (KO : KeyOk X KR lt) {l q : Addr} {xs : List V} {ks : List α} {Q : VK} {E : Value → Shared → Prop} (I : Inv X pins σ H s) (hs : SqL X.K H l xs) (hk : ks.length = xs.length)
    (turn : ∀ (j : Nat) (x : V) (k : α) (H2 : Hp) (s2 : Shared) (u : Value), xs[j]? = some x → ks[j]? = some k → Gone X H s H2 s2 → Same H H2 → RelV x u →
      wpAny (model X.prog X.w) X.A.in1.in1 (call (.ref q) [u]) (fun r s3 => ∃ H3, Gone X H2 s2 H3 s3 ∧ Same H2 H3 ∧ ∃ y, RelV y r ∧ KR H3 y k) (fun _ _ => False) s2)
    (fin : ∀ H2 p, Same H H2 → H2 p = none → Q (.ref p) (upd H2 p (.lst (byKeys lt ks xs)))) :
    wpAny (model X.prog X.w) X.A (call (.builtin "sorted") [.ref l] [(Str.ofString "key", .ref q)]) (EP X pins σ Q) E s := by
  obtain ⟨vs, rv, hl, hz⟩ := I.list hs
  have lv := rv.length
  refine sk_sorted (Z := fun ltv us H2 => Swo ltv ∧ ∀ p ∈ us.zip ks, ∀ q ∈ us.zip ks, ltv p.1 q.1 = lt p.2 q.2) (R := fun j H2 us => Same H H2 ∧ ∃ ys, Vals ys us ∧ Paired (KR H2) ys (ks.take j)) I hl.isList (by omega) ⟨fun _ _ e => e, [], .nil, .nil⟩ ?_ ?_ ?_
  · rintro j v H2 s2 us hv ⟨s12, ys, ry, rk⟩ g
    have hj : j < vs.length := (List.getElem?_eq_some_iff.mp hv).1
    obtain ⟨x, hx⟩ : ∃ x, xs[j]? = some x := ⟨_, List.getElem?_eq_getElem (by omega)⟩
    obtain ⟨k, hkj⟩ : ∃ k, ks[j]? = some k := ⟨_, List.getElem?_eq_getElem (by omega)⟩
    obtain ⟨v', hv', rx⟩ := rv.get hx
    rw [hv] at hv'; cases hv'
    refine wpAny_mono (turn j x k H2 s2 v hx hkj g s12 rx) (fun r s3 h => ?_) fun _ _ z => z
    obtain ⟨H3, g3, s23, y, ry2, hK⟩ := h
    refine ⟨H3, g3, s12.trans s23, ys ++ [y], paired_snoc ry2 ry, ?_⟩
    rw [List.take_add_one, hkj]
    exact paired_snoc hK (paired_mono (fun a b z => KO.keep z s23) rk)
  · rintro H2 s2 a us ⟨s12, ys, ry, rk⟩ g l1 ha hb
    rw [List.take_of_length_le (by omega)] at rk
    have I2 := g.inv I
    obtain ⟨ltv, O, h1, h2⟩ := KO.sort (A := X.A.in1.in1) (b := a) I2 ha hb rk ry
    exact ⟨ltv, O, h1, O, h2⟩
  · rintro a H2 s2 us out ltv ⟨O, hag⟩ _ ha ⟨s12, ys, ry, rk⟩ l1 p1 p2 g n ⟨c, ec⟩
    have e : out = iSort (lt2 ltv) (us.zip vs) := srt_iSort (swo2 O) p1 p2
    have pz := paired_zip (us := us) (ks := ks) rv l1 hk
    have ps := iSort_two (lt := lt2 ltv) (lt' := fun a b : α × V => lt a.1 b.1) (fun a b a' b' h1 h2 => hag _ h1.1 _ h2.1) pz
    rw [← e] at ps
    have vz := vals_snd (P := fun p q => (p.1, q.1) ∈ us.zip ks) ps
    have zl : (byKeys lt ks xs).length ≤ sizeLine := by
      have h1 := vz.length
      have h2 := p2.len
      rw [List.length_map, List.length_map, h2, List.length_zip, l1, Nat.min_self] at h1
      show ((iSort _ _).map _).length ≤ _
      rw [List.length_map, h1]; omega
    have I2 := g.inv I
    exact ⟨.ref a, upd H2 a (.lst (byKeys lt ks xs)), inv_track I ha I2 n ⟨zl, _, c, vz, ec⟩, rfl, fin H2 a s12 n⟩
end
/-! ### keys: ints, texts, pairs of ints -/
section
open SrtO (Swo Srtd Stb lt2 swo2 SortableO ltIv swo_int ints_sortable iv)
variable {X : Cx}
def KI (_ : Hp) (v : V) (k : Int) : Prop := v = .int k
def ltI (a b : Int) : Bool := decide (a < b)
theorem ki_ints {H : Hp} : ∀ {ys : List V} {us : List Value} {ks : List Int}, Paired (KI H) ys ks → Vals ys us → IntsAre us ks
  | _, _, _, .nil, .nil => .nil
  | _, _, _, .cons e t, .cons r q => by
    cases e
    obtain ⟨z, rfl⟩ := r
    exact .cons _ _ (ki_ints t q)
theorem ints_agree : ∀ {us : List Value} {ks : List Int}, IntsAre us ks → ∀ p ∈ us.zip ks, iv p.1 = p.2
  | _, _, .nil, p, h => by cases h
  | _, _, .cons n t r, p, h => by
    rcases List.mem_cons.mp h with rfl | h
    · rfl
    · exact ints_agree r p h
theorem keyI : KeyOk X KI ltI := ⟨fun h _ => h, fun {pins σ H s A b ys us ks} I _ _ rk ry => by
  have hI := ki_ints rk ry
  refine ⟨ltIv, swo_int, fun h2 => ints_sortable hI h2, fun p hp q hq => ?_⟩
  show decide (iv p.1 < iv q.1) = decide (p.2 < q.2)
  rw [ints_agree hI p hp, ints_agree hI q hq]⟩
theorem swo_ltI : Swo ltI := ⟨fun x y h => decide_eq_false (by have := of_decide_eq_true h; omega), fun x y z h1 h2 => decide_eq_false (by have := of_decide_eq_false h1; have := of_decide_eq_false h2; omega)⟩
def KS (_ : Hp) (v : V) (k : Str) : Prop := v = .str k
def ltS (a b : Str) : Bool := decide (a.cps.toList < b.cps.toList)
def sv : Value → Str
  | .str x _ => x
  | _ => Str.empty
def ltSv (v u : Value) : Bool := ltS (sv v) (sv u)
theorem swo_ltS : Swo ltS := by
  refine ⟨fun x y h => ?_, fun x y z h1 h2 => ?_⟩
  · have a : x.cps.toList < y.cps.toList := of_decide_eq_true h
    exact decide_eq_false (fun b => absurd (List.lt_trans a b) (List.lt_irrefl _))
  · have a : ¬ y.cps.toList < x.cps.toList := of_decide_eq_false h1
    have b : ¬ z.cps.toList < y.cps.toList := of_decide_eq_false h2
    refine decide_eq_false (fun c => ?_)
    have a' := List.not_lt.mp a
    have b' := List.not_lt.mp b
    exact absurd c (List.not_lt.mpr (List.le_trans a' b'))
theorem ks_strs {H : Hp} : ∀ {ys : List V} {us : List Value} {ks : List Str}, Paired (KS H) ys ks → Vals ys us → StrsAre us ks
  | _, _, _, .nil, .nil => .nil
  | _, _, _, .cons e t, .cons r q => by
    cases e
    obtain ⟨z, rfl⟩ := r
    exact .cons _ _ (ks_strs t q)
theorem strs_agree : ∀ {us : List Value} {ks : List Str}, StrsAre us ks → ∀ p ∈ us.zip ks, ∃ t, p.1 = .str p.2 t
  | _, _, .nil, p, h => by cases h
  | _, _, .cons n t r, p, h => by
    rcases List.mem_cons.mp h with rfl | h
    · exact ⟨_, rfl⟩
    · exact strs_agree r p h
theorem strs_mem : ∀ {us : List Value} {ks : List Str}, StrsAre us ks → ∀ u ∈ us, ∃ x t, u = .str x t
  | _, _, .nil, p, h => by cases h
  | _, _, .cons n t r, p, h => by
    rcases List.mem_cons.mp h with rfl | h
    · exact ⟨_, _, rfl⟩
    · exact strs_mem r p h
theorem keyS : KeyOk X KS ltS := ⟨fun h _ => h, fun {pins σ H s A b ys us ks} I _ _ rk ry => by
  have hS := ks_strs rk ry
  refine ⟨ltSv, ⟨fun x y => swo_ltS.asym _ _, fun x y z => swo_ltS.tr _ _ _⟩, fun h2 h' _ => ⟨oneType', fun Q E hq => ?_, fun p q hp hq => ?_⟩, fun p hp q hq => ?_⟩
  · match us, hS, h2 with
    | v1 :: v2 :: rest, hS, _ =>
      rw [keyKind_strs hS]
      exact wpAny_pure hq
    | [], _, h => exact absurd h (by decide)
    | [v], _, h => exact absurd h (by simp)
  · obtain ⟨x, t, e1⟩ := strs_mem hS _ hp
    obtain ⟨y, u, e2⟩ := strs_mem hS _ hq
    show wpAny _ A (keyLt' oneType' p.1 q.1) (fun r s' => s' = _ ∧ r = ltSv p.1 q.1) (fun _ _ => False) _
    rw [e1, e2, keyLt'_oneType]
    exact oneLt_str ⟨rfl, rfl⟩
  · obtain ⟨t, e1⟩ := strs_agree hS p hp
    obtain ⟨u, e2⟩ := strs_agree hS q hq
    rw [e1, e2]; rfl⟩
/-- a tuple of two ints -/
def KP (H : Hp) (v : V) (k : Int × Int) : Prop := ∃ t, v = .ref t ∧ H t = some (.tup [.int k.1, .int k.2])
theorem kp_pairs {P : Program} {w : World} {H : Hp} {h : Heap} (ok : HOk P w H h) : ∀ {ys : List V} {us : List Value} {ks : List (Int × Int)}, Paired (KP H) ys ks → Vals ys us → ∀ p ∈ us.zip ks, Srt.IsPair h p.1 p.2.1 p.2.2
  | _, _, _, .nil, .nil, p, hp => by cases hp
  | _, _, _, .cons (b := k) e t, .cons r q, p, hp => by
    rcases List.mem_cons.mp hp with rfl | hp
    · obtain ⟨a, rfl, ha⟩ := e
      cases r
      obtain ⟨_, its, rv, o, ho, hc, n, hd⟩ := ok a _ ha
      match its, rv, hd with
      | [u1, u2], .cons ⟨t1, e1⟩ (.cons ⟨t2, e2⟩ .nil), hd =>
        subst e1 e2
        exact ⟨a, o, t1, t2, n, rfl, ho, hc, hd⟩
    · exact kp_pairs ok t q p hp
theorem isPair_one {h : Heap} {v : Value} {a b c d : Int} (x : Srt.IsPair h v a b) (y : Srt.IsPair h v c d) : a = c ∧ b = d := by
  obtain ⟨p, o, t, u, n, rfl, ho, _, hd⟩ := x
  obtain ⟨p', o', t', u', n', e, ho', _, hd'⟩ := y
  cases e
  rw [ho] at ho'
  cases ho'
  rw [hd] at hd'
  cases hd'
  exact ⟨rfl, rfl⟩
open Classical in
noncomputable def pairOf (h : Heap) (v : Value) : Int × Int := if z : ∃ k : Int × Int, Srt.IsPair h v k.1 k.2 then Classical.choose z else (0, 0)
theorem pairOf_eq {h : Heap} {v : Value} {k : Int × Int} (x : Srt.IsPair h v k.1 k.2) : pairOf h v = k := by
  have z : ∃ k : Int × Int, Srt.IsPair h v k.1 k.2 := ⟨k, x⟩
  unfold pairOf
  rw [dif_pos z]
  have := isPair_one (Classical.choose_spec z) x
  exact Prod.ext this.1 this.2
theorem keyP : KeyOk X KP SrtO.lexB := ⟨fun ⟨t, e, h⟩ s => ⟨t, e, s _ _ h⟩, fun {pins σ H s A b ys us ks} I _ ⟨e, hb⟩ rk ry => by
  have hp := kp_pairs I.hok rk ry
  have hm : ∀ u ∈ us, ∃ k, (u, k) ∈ us.zip ks := by
    have : us.length = ks.length := by rw [← ry.length]; exact Paired.length rk
    intro u hu
    obtain ⟨i, hi, rfl⟩ := List.getElem_of_mem hu
    exact ⟨ks[i]'(by omega), by
      have : (us.zip ks)[i]'(by rw [List.length_zip]; omega) = (us[i], ks[i]'(by omega)) := List.getElem_zip
      rw [← this]; exact List.getElem_mem _⟩
  refine ⟨fun v u => SrtO.lexB (pairOf s.heap v) (pairOf s.heap u), SrtO.swo_lex _, fun h2 => SrtO.pairs_sortableO (by omega) (fun v hv => ?_) (fun o ho => ?_), fun p hpz q hqz => ?_⟩
  · obtain ⟨k, hk⟩ := hm v hv
    rw [pairOf_eq (hp _ hk)]; exact hp _ hk
  · rw [hb] at ho; cases ho; exact fun z => absurd (Value.type.inj z) (by decide)
  · show SrtO.lexB (pairOf s.heap p.1) (pairOf s.heap q.1) = _
    rw [pairOf_eq (hp _ hpz), pairOf_eq (hp _ hqz)]⟩
end
/-! ### lambdas with parameters, told to the ledger -/
section
open LamX (CodeO TabS Tabs ExtN TabB inv_table among_app codeO_ne)
/-- at f: the function of a lambda without captured names, its code object at c -/
def LamO (f : Addr) (qual : Str) (params : Arguments) (body : Expr) (scope : Scope) (c : Addr) : HO := .ext fun h => ∃ pm ctv, h.get? f = some (PySem.W.kla_obj "<lambda>" qual params body scope [] pm c ctv)
variable {X : Cx} {pins : List (Addr × Obj)} {σ : L2.St} {H : Hp} {s : Shared}
theorem lamO_ok {P : Program} {w : World} {h : Heap} {f c : Addr} {qual : Str} {params : Arguments} {body : Expr} {scope : Scope} {pm ctv : Value} (e : h.get? f = some (PySem.W.kla_obj "<lambda>" qual params body scope [] pm c ctv)) : ObjOk P w H h f (LamO f qual params body scope c) :=
  ⟨⟨pm, ctv, e⟩, ⟨_, e⟩, fun h1 h2 ⟨a, b, z⟩ k => ⟨a, b, k _ z⟩⟩
theorem lamO_at {P : Program} {w : World} {h : Heap} {f c : Addr} {qual : Str} {params : Arguments} {body : Expr} {scope : Scope} (ok : HOk P w H h) (e : H f = some (LamO f qual params body scope c)) : ∃ pm ctv, h.get? f = some (PySem.W.kla_obj "<lambda>" qual params body scope [] pm c ctv) := by
  have x : ObjOk P w H h f (.ext fun h => ∃ pm ctv, h.get? f = some (PySem.W.kla_obj "<lambda>" qual params body scope [] pm c ctv)) := ok f _ e
  exact x.1
theorem codeO_at {P : Program} {w : World} {h : Heap} {c : Addr} {q : Str} (ok : HOk P w H h) (e : H c = some (CodeO c q)) : ∃ (oc : Obj) (vs : Array Value) (t : Tok), h.get? c = some oc ∧ oc.data = .fields vs ∧ vs[1]? = some (.str q t) := by
  have x : ObjOk P w H h c (.ext fun h => ∃ (oc : Obj) (vs : Array Value) (t : Tok), h.get? c = some oc ∧ oc.data = .fields vs ∧ vs[1]? = some (.str q t)) := ok c _ e
  exact x.1
theorem lamO_ne {f c : Addr} {qual : Str} {params : Arguments} {body : Expr} {scope : Scope} (ps : Array Value) : LamO f qual params body scope c ≠ .tbl ps := fun z => by
  unfold LamO at z
  cases z
/-- the tables, over a heap in which nothing of them changes but P's own -/
theorem tabs_snoc {T : List (Addr × Str)} {P c : Addr} {q : Str} {ps : Array Value} {pos : Pos} (hT : Tabs T H) (hu : ∀ p ∈ T, p.1 = P → p.2 = q) (hP : H P = some (.tbl ps)) (ht : TriplesOk ps.toList) (nc : H c = none)
    (old : ∀ (p : Pos) (cv : Value), codeAmong p ps.toList = some cv → ∃ c0, cv = .ref c0 ∧ H c0 = some (CodeO c0 q)) (E : ExtN H (upd (upd H P (.tbl (ps ++ #[rawInt pos.line, rawInt pos.col, .ref c]))) c (CodeO c q))) :
    Tabs T (upd (upd H P (.tbl (ps ++ #[rawInt pos.line, rawInt pos.col, .ref c]))) c (CodeO c q)) := by
  intro p hp
  have el : (ps ++ #[rawInt pos.line, rawInt pos.col, .ref c]).toList = ps.toList ++ [rawInt pos.line, rawInt pos.col, .ref c] := by simp
  by_cases hb : p.1 = P
  · rw [hu p hp hb, hb]
    refine ⟨_, by rw [upd_ne (ne_of_none hP nc), upd_same], by rw [el]; exact PySem.TriplesOk_snoc _ _ _ _ ht, fun p' cv h => ?_⟩
    rw [el] at h
    rcases among_app _ ht h with z | z
    · obtain ⟨c0, e1, e2⟩ := old p' cv z
      exact ⟨c0, e1, E _ _ e2 codeO_ne⟩
    · exact ⟨c, z, upd_same⟩
  · obtain ⟨ps', a1, a2, a3⟩ := hT p hp
    refine ⟨ps', by rw [upd_ne (ne_of_none a1 nc), upd_ne hb]; exact a1, a2, fun p' cv h => ?_⟩
    obtain ⟨c0, e1, e2⟩ := a3 p' cv h
    exact ⟨c0, e1, E _ _ e2 codeO_ne⟩
theorem extN_table {P c : Addr} {ps qs : Array Value} {o : HO} (hP : H P = some (.tbl ps)) (nc : H c = none) : ExtN H (upd (upd H P (.tbl qs)) c o) := fun b u e n => by
  rw [upd_ne (ne_of_none e nc), upd_ne (fun z => n ps (Option.some.inj (e.symm.trans (by rw [z]; exact hP))))]
  exact e
theorem extN_new {H1 : Hp} {f : Addr} {o : HO} (E : ExtN H H1) (n : H1 f = none) : ExtN H (upd H1 f o) := fun b u e q => by
  rw [upd_ne (ne_of_none (E b u e q) n)]; exact E b u e q
theorem tabs_new {T : List (Addr × Str)} {f : Addr} {o : HO} (hT : Tabs T H) (n : H f = none) : Tabs T (upd H f o) := hT.ext fun b u e => by rw [upd_ne (ne_of_none e n)]; exact e
theorem upd_none {H : Hp} {p b : Addr} {o : HO} (h : upd H p o b = none) : H b = none := by
  by_cases c : b = p
  · subst c; rw [upd_same] at h; cases h
  · rw [upd_ne c] at h; exact h
theorem lam_make3 {T : List (Addr × Str)} {c P : Addr} {params : Arguments} {body : Expr} {scope : Scope} {pos : Pos} {E : Value → Shared → Prop} {Q : Value → Shared → Prop} (I : Inv X pins σ H s) (B : TabB X.base X.mg c P) (code : X.env.code = .ref c)
    (hm : (P, X.env.qual ++ "<lambda>") ∈ T) (hu : ∀ p ∈ T, p.1 = P → p.2 = X.env.qual ++ "<lambda>") (hT : Tabs T H) (hd : defaultsOf params X.env = ([], [])) (hcl : closureFor scope X.env = pure []) 
    (h : ∀ (f c' : Addr) (H1 : Hp) (s' : Shared), Inv X pins σ H1 s' → ExtN H H1 → Tabs T H1 → (∀ b, H1 b = none → H b = none) → H1 f = some (LamO f (X.env.qual ++ "<lambda>") params body scope c') → H1 c' = some (CodeO c' (X.env.qual ++ "<lambda>")) → Q (.ref f) s') :
    wpAny (model X.prog X.w) X.A (eval (.Lambda params body scope pos) X.env) Q E s := by
  obtain ⟨ps, hP, ht, ha⟩ := hT _ hm
  refine PySem.W.kla_eval hd ?_
  have bP : s.heap.BuiltinsAt X.mg P := B.bm.keeps I.bk
  have oP : s.heap.get? P = some { cls := .none, data := .fields ps } := I.hok P _ hP
  cases hc : codeAmong pos ps.toList with
  | some cv =>
    obtain ⟨c', e, hco⟩ := ha pos cv hc
    subst e
    refine PySem.W.kla_makeFunctionHit (mg := X.mg) (c := c) (P := P) (ps := ps) hcl I.ok.glob (I.mod.glob.keeps I.bk) code (B.code.keeps I.bk) oP ht hc bP fun ctv h' tk hx hsz => ?_
    have I1 : Inv X pins σ H { s with heap := h', toks := tk } := I.kept hx
    have nf : H h'.objs.size = none := I.hok.fresh hsz
    have I2 := I1.laid (a := h'.objs.size) (o := LamO h'.objs.size (X.env.qual ++ "<lambda>") params body scope c') (t' := tk) (h' := h'.push (PySem.W.kla_obj "<lambda>" (X.env.qual ++ "<lambda>") params body scope [] ((X.mg "__name__").getD .none) c' ctv))
      (fun b o e => Heap.get?_push_of_some _ e) (Nat.le_refl _) (lamO_ok (Heap.get?_push_size _ rfl))
    exact h _ c' _ _ I2 (extN_new (ExtN.refl H) nf) (tabs_new hT nf) (fun b => upd_none) upd_same (by rw [upd_ne (ne_of_none hco nf)]; exact hco)
  | none =>
    refine PySem.W.kla_makeFunction (mg := X.mg) (c := c) (P := P) (ps := ps) hcl I.ok.glob (I.mod.glob.keeps I.bk) code (B.code.keeps I.bk) oP ht hc B.gP bP fun c' ctv h' tk hx hge hlt hrec htb => ?_
    obtain ⟨c2, oc, vs, t, e2, hoc, hd2, hv⟩ := hrec
    cases e2
    have nc : H c' = none := I.hok.fresh hge
    have ee := extN_table (qs := ps ++ #[rawInt pos.line, rawInt pos.col, .ref c']) (o := CodeO c' (X.env.qual ++ "<lambda>")) hP nc
    have t1 := tabs_snoc (pos := pos) hT hu hP ht nc ha ee
    have I1 := inv_table (t' := tk) (q := X.env.qual ++ "<lambda>") (more := #[rawInt pos.line, rawInt pos.col, .ref c']) (h' := h') I hP (fun b o hb e => hx b o hb e) htb hge ⟨oc, vs, t, hoc, hd2, hv⟩
    have hsz : s.heap.objs.size ≤ h'.objs.size := Nat.le_trans hge (Nat.le_of_lt hlt)
    have nf : (upd (upd H P (.tbl (ps ++ #[rawInt pos.line, rawInt pos.col, .ref c']))) c' (CodeO c' (X.env.qual ++ "<lambda>"))) h'.objs.size = none := by
      rw [upd_ne (Nat.ne_of_gt hlt), upd_ne (Nat.ne_of_gt (Nat.lt_of_lt_of_le (Heap.lt_size oP) hsz))]
      exact I.hok.fresh hsz
    have I2 := I1.laid (a := h'.objs.size) (o := LamO h'.objs.size (X.env.qual ++ "<lambda>") params body scope c') (t' := tk) (h' := h'.push (PySem.W.kla_obj "<lambda>" (X.env.qual ++ "<lambda>") params body scope [] ((X.mg "__name__").getD .none) c' ctv))
      (fun b o e => Heap.get?_push_of_some _ e) (Nat.le_refl _) (lamO_ok (Heap.get?_push_size _ rfl))
    exact h _ c' _ _ I2 (extN_new ee nf) (tabs_new t1 nf) (fun b z => upd_none (upd_none (upd_none z))) upd_same (by rw [upd_ne (ne_of_none upd_same nf)]; exact upd_same)
end
/-! ### the law's end, where defs make lambdas: their code objects' tables are told from the start -/
section
open LamX (TabB)
variable {P : Program} {w : World} {K : PySem.W.Frag} {mg mb : Str → Option Value} {k : Nat} {fa a : Addr} {fd : FuncData} {x : Str} {sp : Sp} {s₁ : Shared} {vs : List Value} {ns : List Int}
/-- tables alone, and the script -/
def OnlyT (ts : List Addr) (H : Hp) : Prop := ∀ b, H b = none ∨ (b ∈ ts ∧ H b = some (.tbl #[])) ∨ ∃ o xs, H b = some (.frz o (.lst xs))
theorem lawT0 {cs : List (Addr × Addr)} (KX : K.In s₁.heap) (g1 : s₁.heap.Ns mainGlobals mg) (g2 : s₁.heap.Ns builtinsNs mb) (g3 : ∀ x : Str, x ≠ "__name__" → mb x = bootBuiltins x) (g4 : s₁.heap.NoLimit) (g5 : s₁.gens = #[])
    (g6 : ∃ (bm : Addr) (ob : Obj), mg "__builtins__" = some (.ref bm) ∧ bm ≠ builtinsNs ∧ s₁.heap.get? bm = some ob ∧ ob.cls = .type "module" ∧ ob.dict = some builtinsNs ∧ ob.data = .plain)
    (hT : ∀ p ∈ cs, s₁.heap.get? p.2 = some { cls := .none, data := .fields #[] }) (hC : ∀ p ∈ cs, PySem.W.CodeHd s₁.heap p.1 p.2)
    (ha : s₁.heap.get? a = some { cls := .type "list", data := .seq vs.toArray }) (hr : Room k callerA)
    (F : ∀ base : Heap, K.In base → base.Ns mainGlobals mg → (∀ p ∈ cs, TabB base mg p.1 p.2) → FnOkG P w K mg base CX0 k fa fd [x] sp) (bd : ∀ (s : Shared) (u : Value), BindsTo s fd ⟨[u], []⟩ [(x, u)])
    (H : Hp) (hO : OnlyT (cs.map (·.2)) H) (want : sp [.ref a] H (fun v _ => v = .bl true) fun _ _ _ => False) (ok : HOk P w H s₁.heap) (hA : ∀ b, H b ≠ none → b = a ∨ b ∈ cs.map (·.2)) (hK : ∀ b, H b ≠ none → K.lookup b = none) :
    codeAny (model P w) callerA (.call (.ref fa) ⟨[.ref a], []⟩) (fun r s' => r = .ok (.ret (.bool true)) ∧ OldK s₁.heap s'.heap ∧ s'.os = s₁.os ∧ AllBare s'.gens) s₁ := by
  have tab : ∀ b, b ∈ cs.map (·.2) → ∃ p ∈ cs, p.2 = b ∧ s₁.heap.get? b = some { cls := .none, data := .fields #[] } := by
    intro b hb
    obtain ⟨p, hp, rfl⟩ := List.mem_map.mp hb
    exact ⟨p, hp, rfl, hT p hp⟩
  have free : ∀ {b : Addr} {o : Obj}, s₁.heap.get? b = some o → (∀ us n, o.data ≠ .seq us n) → o.data ≠ .fields #[] → H b = none := by
    intro b o e h1 h2
    apply Classical.byContradiction
    intro z
    rcases hA b z with rfl | hb
    · rw [ha] at e; cases e; exact h1 _ _ rfl
    · obtain ⟨_, _, _, e2⟩ := tab b hb
      rw [e2] at e; cases e; exact h2 rfl
  have nsK : ∀ {b : Addr} {m : Str → Option Value}, s₁.heap.Ns b m → (hidT s₁.heap H).Ns b m := by
    rintro b m ⟨o, es, ep, e, d, r⟩
    exact ⟨o, es, ep, hidT_get e (free e (fun _ _ z => by rw [d] at z; cases z) fun z => by rw [d] at z; cases z), d, r⟩
  have kb : K.In (hidT s₁.heap H) := by
    intro b o e
    refine hidT_get (KX b o e) (Classical.byContradiction fun z => ?_)
    rw [hK b z] at e; cases e
  have M : Mod K mg (hidT s₁.heap H) := by
    obtain ⟨mc, h1, h2⟩ := g4
    exact ⟨kb, nsK g1, ⟨mb, nsK g2, g3⟩, ⟨mc, nsK h1, h2⟩⟩
  have gne : ∀ p ∈ cs, mainGlobals ≠ p.2 := by
    intro p hp z
    obtain ⟨o, es, ep, e, d, _⟩ := g1
    rw [z, hT p hp] at e; cases e; cases d
  have B : ∀ p ∈ cs, TabB (hidT s₁.heap H) mg p.1 p.2 := by
    intro p hp
    refine ⟨?_, ?_, gne p hp⟩
    · obtain ⟨o, us, file, tf, flags, tg, inF, text, tt, e1, r1, r2, r3, r⟩ := hC p hp
      refine ⟨o, us, file, tf, flags, tg, inF, text, tt, hidT_get e1 (free e1 (fun _ _ z => by rw [r2] at z; cases z) fun z => ?_), r1, r2, r3, r⟩
      rw [r2] at z; cases z; simp at r3
    · obtain ⟨bm, ob, b1, b2, b3, b4, b5, b6⟩ := g6
      refine ⟨bm, ob, b1, b2, ?_, ?_, hidT_get b3 (free b3 (fun _ _ z => by rw [b6] at z; cases z) fun z => by rw [b6] at z; cases z), b4, b5, b6⟩
      · intro z
        obtain ⟨o, es, ep, e, d, _⟩ := g1
        rw [z, e] at b3; cases b3; rw [d] at b6; cases b6
      · intro z
        rw [z, hT p hp] at b3; cases b3; cases b6
  have e0 : Env0 P w K mg (hidT s₁.heap H) callerA [] s₁ H :=
    { frames := rfl, mod := M, bs := fun b o e => of_hidT e, bsz := Nat.le_of_eq (hidT_size _ _), funs := trivial, frf := fun b z => absurd (show b ∈ ([] : List Addr) from z) (by simp), hok := ok, bare := .of_eq g5 }
  have run := (F _ kb (nsK g1) B).goes callerA [] s₁ H ⟨[.ref a], []⟩ [.ref a] [.ref a] _ _ rfl hr e0 (bd s₁ (.ref a)) (.cons rfl .nil) want
  refine codeAny_mono run fun r s' h => ?_
  match r, h with
  | .error e, h => exact (show False from h).elim
  | .ok .next, h => exact (show False from h).elim
  | .ok .brk, h => exact (show False from h).elim
  | .ok .cont, h => exact (show False from h).elim
  | .ok (.ret u), ⟨v, H', os, bare, un, ok', rv, (qv : v = .bl true)⟩ =>
    cases qv
    cases (show u = Value.bool true from rv)
    have same : ∀ b o, H b = none → s₁.heap.get? b = some o → s'.heap.get? b = some o := fun b o q e => un.keep b o e q (fun z => absurd (show b ∈ ([] : List Addr) from z) (by simp)) (by simp)
    have key : ∀ b o, s₁.heap.get? b = some o → s'.heap.get? b = some o ∨ (b ∈ cs.map (·.2) ∧ ∃ more : Array Value, s'.heap.get? b = some { cls := .none, data := .fields more }) := by
      intro b o e
      rcases hO b with z | ⟨hb, z⟩ | ⟨ob, xs, z⟩
      · exact .inl (same b o z e)
      · obtain ⟨more, z2⟩ := un.tbls b _ z
        exact .inr ⟨hb, _, ok' b _ z2⟩
      · have f1 := (ok b _ z).1
        have f2 := (ok' b _ (un.frzs b ob _ z)).1
        rw [f1] at e; cases e
        exact .inl f2
    refine ⟨rfl, ⟨fun b o e => ?_, fun b o e => ?_⟩, os, bare⟩
    · rcases key b o e with z | ⟨hb, more, z⟩
      · exact .inl z
      · obtain ⟨p, hp, rfl, et⟩ := tab b hb
        rw [et] at e; cases e
        exact .inr (.inl ⟨((hC p hp).tab et).isCodeTable, rfl, #[], more, rfl, by rw [Array.empty_append]; exact z⟩)
    · rcases key b o e with z | ⟨_, more, z⟩
      · exact ⟨_, z⟩
      · exact ⟨_, z⟩
theorem lawT {cs : List (Addr × Addr)} (KX : K.In s₁.heap) (g1 : s₁.heap.Ns mainGlobals mg) (g2 : s₁.heap.Ns builtinsNs mb) (g3 : ∀ x : Str, x ≠ "__name__" → mb x = bootBuiltins x) (g4 : s₁.heap.NoLimit) (g5 : s₁.gens = #[])
    (g6 : ∃ (bm : Addr) (ob : Obj), mg "__builtins__" = some (.ref bm) ∧ bm ≠ builtinsNs ∧ s₁.heap.get? bm = some ob ∧ ob.cls = .type "module" ∧ ob.dict = some builtinsNs ∧ ob.data = .plain)
    (hT : ∀ p ∈ cs, s₁.heap.get? p.2 = some { cls := .none, data := .fields #[] }) (hC : ∀ p ∈ cs, PySem.W.CodeHd s₁.heap p.1 p.2) (nT : ∀ p ∈ cs, K.lookup p.2 = none)
    (ha : s₁.heap.get? a = some { cls := .type "list", data := .seq vs.toArray }) (hi : IntsAre vs ns) (hl : ns.length ≤ sizeLine) (hr : Room k callerA)
    (F : ∀ base : Heap, K.In base → base.Ns mainGlobals mg → (∀ p ∈ cs, TabB base mg p.1 p.2) → FnOkG P w K mg base CX0 k fa fd [x] sp) (bd : ∀ (s : Shared) (u : Value), BindsTo s fd ⟨[u], []⟩ [(x, u)])
    (want : ∀ H : Hp, (∀ p ∈ cs, H p.2 = some (.tbl #[])) → SqL K H a (ns.map V.int) → sp [.ref a] H (fun v _ => v = .bl true) fun _ _ _ => False) :
    codeAny (model P w) callerA (.call (.ref fa) ⟨[.ref a], []⟩) (fun r s' => r = .ok (.ret (.bool true)) ∧ OldK s₁.heap s'.heap ∧ s'.os = s₁.os ∧ AllBare s'.gens) s₁ := by
  have rv := vals_ints hi
  have tab : ∀ b, b ∈ cs.map (·.2) → s₁.heap.get? b = some { cls := .none, data := .fields #[] } ∧ K.lookup b = none := by
    intro b hb
    obtain ⟨p, hp, rfl⟩ := List.mem_map.mp hb
    exact ⟨hT p hp, nT p hp⟩
  have na : a ∉ cs.map (·.2) := fun z => by
    have := (tab a z).1
    rw [ha] at this
    cases this
  have tok : ∀ {H : Hp} {b : Addr}, b ∈ cs.map (·.2) → ObjOk P w H s₁.heap b (.tbl #[]) := fun hb => (tab _ hb).1
  by_cases hk : K.lookup a = none
  · let H : Hp := fun b => if b = a then some (.frz { cls := .type "list", data := .seq vs.toArray } (.lst (ns.map V.int))) else if b ∈ cs.map (·.2) then some (.tbl #[]) else none
    have Ha : H a = some (.frz { cls := .type "list", data := .seq vs.toArray } (.lst (ns.map V.int))) := if_pos rfl
    have Ht : ∀ b ∈ cs.map (·.2), H b = some (.tbl #[]) := fun b hb => (if_neg fun z => na (by rw [← z]; exact hb)).trans (if_pos hb)
    have Hn : ∀ b, b ≠ a → b ∉ cs.map (·.2) → H b = none := fun b n m => (if_neg n).trans (if_neg m)
    have hA : ∀ b, H b ≠ none → b = a ∨ b ∈ cs.map (·.2) := fun b z => Classical.byContradiction fun q => z (Hn b (fun y => q (.inl y)) fun y => q (.inr y))
    refine lawT0 KX g1 g2 g3 g4 g5 g6 hT hC ha hr F bd H (fun b => ?_) (want H (fun p hp => Ht _ (List.mem_map.mpr ⟨p, hp, rfl⟩)) (.inl (.inr ⟨_, Ha⟩))) (fun b u z => ?_) hA (fun b z => ?_)
    · by_cases e : b = a
      · exact .inr (.inr ⟨_, _, e ▸ Ha⟩)
      · by_cases m : b ∈ cs.map (·.2)
        · exact .inr (.inl ⟨m, Ht b m⟩)
        · exact .inl (Hn b e m)
    · rcases hA b (by rw [z]; intro y; cases y) with rfl | m
      · rw [Ha] at z; cases z
        exact ⟨ha, by rw [List.length_map]; exact hl, vs, _, rv, ha⟩
      · rw [Ht b m] at z; cases z
        exact tok m
    · rcases hA b z with rfl | m
      · exact hk
      · exact (tab b m).2
  · obtain ⟨o, ho⟩ := Option.ne_none_iff_exists'.mp hk
    have e := KX a o ho
    rw [ha] at e
    cases e
    let H : Hp := fun b => if b ∈ cs.map (·.2) then some (.tbl #[]) else none
    have Ht : ∀ b ∈ cs.map (·.2), H b = some (.tbl #[]) := fun b hb => if_pos hb
    have hA : ∀ b, H b ≠ none → b ∈ cs.map (·.2) := fun b z => Classical.byContradiction fun q => z (if_neg q)
    refine lawT0 KX g1 g2 g3 g4 g5 g6 hT hC ha hr F bd H (fun b => ?_) (want H (fun p hp => Ht _ (List.mem_map.mpr ⟨p, hp, rfl⟩)) (.inr ⟨_, vs.toArray, _, ho, rfl, rfl, rfl, by rw [List.size_toArray, hi.length]; exact hl, by simpa using rv⟩)) (fun b u z => ?_) (fun b z => .inr (hA b z)) fun b z => (tab b (hA b z)).2
    · by_cases m : b ∈ cs.map (·.2)
      · exact .inr (.inl ⟨m, Ht b m⟩)
      · exact .inl (if_neg m)
    · have m := hA b (by rw [z]; intro y; cases y)
      rw [Ht b m] at z; cases z
      exact tok m
end
/-- ts: the tables of all defs that make lambdas -/
theorem walkM {l : PySem.W.OpenLaw} {n k : Nat} {q : Program} {loose : List Str} {XP : (Str → Option Value) → Heap → Prop} {YP : World → Heap → Prop} {d : DefRec} {K : Params → PySem.W.Frag} {x : Str} {ts : List Addr}
    (hn : l.most = some n) (hn2 : n ≤ sizeLine) (hdf : d.params.defaults = []) (hr : Room k callerA) (hY : ∀ (w : World) (h : Heap), YP w h → (K w.params).In h) (hT : ∀ (w : World) (h : Heap), YP w h → ∀ P ∈ ts, h.get? P = some (tabObj #[]))
    (F : ∀ (w : World) (mg : Str → Option Value) (fa : Addr) (h : Heap), (K w.params).In h → h.Ns mainGlobals mg → mg d.name = some (.ref fa) →
      ∃ (fd : FuncData) (cs : List (Addr × Addr)) (sp : Sp), (∀ t ∈ cs, t.2 ∈ ts ∧ PySem.W.codeHdIn (K w.params) t.1 t.2 = true ∧ (K w.params).lookup t.2 = none) ∧ (∀ (s : Shared) (u : Value), BindsTo s fd ⟨[u], []⟩ [(x, u)]) ∧
        (∀ (H : Hp) (a : Addr) (ns : List Int), ns.length ≤ n → (∀ t ∈ cs, H t.2 = some (.tbl #[])) → SqL (K w.params) H a (ns.map V.int) → sp [.ref a] H (fun v _ => v = .bl true) fun _ _ _ => False) ∧
        ∀ base : Heap, (K w.params).In base → base.Ns mainGlobals mg → (∀ t ∈ cs, LamX.TabB base mg t.1 t.2) → FnOkG l.prog w (K w.params) mg base CX0 k fa fd [x] sp) :
    PySem.W.WalkO q loose XP YP l.row.toRowW d [] (fun f vs => PySem.call f vs) := by
  apply Att.attach_call hn hdf
  intro w s₀ s₁ mg mb fa o pm cd doc a vs ns G Y ho hd hcd hmg hobj hints hlen hg
  have KX := hY w _ Y
  obtain ⟨fd, cs, sp, hcs, bd, want, hF⟩ := F w mg fa _ KX G.T.g hmg
  exact lawT (cs := cs) KX G.T.g G.T.b G.T.builtins G.T.nolimit hg G.T.bmain (fun p hp => hT w _ Y _ (hcs p hp).1) (fun p hp => PySem.W.codeHd_of_K KX (hcs p hp).2.1) (fun p hp => (hcs p hp).2.2) hobj hints (Nat.le_trans hlen hn2) hr hF bd fun H hH hS => want H a ns hlen hH hS
/-! ### lambdas made and called; sorted by them -/
section
open LamX (CodeO TabS Tabs ExtN TabB)
variable {X : Cx}
def tLamE (TT : List (Addr × Str)) (qual : Str) (params : Arguments) (body : Expr) (scope : Scope) : TE := fun _ H Q => Tabs TT H ∧ ∀ f c H1, ExtN H H1 → Tabs TT H1 → (∀ b, H1 b = none → H b = none) → H1 f = some (LamO f qual params body scope c) → H1 c = some (CodeO c qual) → Q (.ref f) H1
theorem pe_lam3 {TT : List (Addr × Str)} {c P : Addr} {params : Arguments} {body : Expr} {scope : Scope} {pos : Pos} (B : TabB X.base X.mg c P) (code : X.env.code = .ref c) (hm : (P, X.env.qual ++ "<lambda>") ∈ TT) (hu : ∀ p ∈ TT, p.1 = P → p.2 = X.env.qual ++ "<lambda>")
    (hd : defaultsOf params X.env = ([], []) := by rfl) (hcl : closureFor scope X.env = pure [] := by rfl) : PE X (.Lambda params body scope pos) (tLamE TT (X.env.qual ++ "<lambda>") params body scope) := by
  refine ⟨fun pins s σ H Q I h => ?_⟩
  obtain ⟨hT, q⟩ := h
  exact lam_make3 I B code hm hu hT hd hcl fun f c' H1 s' I1 e1 t1 h0 h1 h2 => ⟨.ref f, H1, I1, rfl, q f c' H1 e1 t1 h0 h1 h2⟩
theorem CE.gone {H : Hp} {s s' : Shared} {Q : VK} {u : Value} (h : CE X.stack X.prog X.w H s Q u s') : ∃ v H', Gone X H s H' s' ∧ RelV v u ∧ Q v H' := by
  obtain ⟨v, H', os, bare, un, hok, r, q⟩ := h
  exact ⟨v, H', ⟨os, bare, un, hok⟩, r, q⟩
theorem inv_env1 {pins : List (Addr × Obj)} {σ : L2.St} {H : Hp} {s : Shared} (I : L2.Inv X pins σ H s) : Env0 X.prog X.w X.K X.mg X.base X.A.in1.in1 X.stack s H := { I.env0 with frames := I.env0.frames }
section
variable {pins : List (Addr × Obj)} {σ : L2.St} {H : Hp} {s : Shared} {f c : Addr} {qual : Str} {params : Arguments} {body : Expr} {scope : Scope} {N ps : List Str} {tb : TE} {k : Nat} {us : List Value} {vs : List V} {Q : VK}
theorem run_lam3 (I : L2.Inv X pins σ H s) (hf : H f = some (LamO f qual params body scope c)) (hc : H c = some (CodeO c qual)) (S : FnScope N ps scope)
    (bind : ∀ (us : List Value) (pm cv ctv : Value), us.length = ps.length → bindArgs (PySem.W.kla_fn "<lambda>" qual params body scope [] pm cv ctv) ⟨us, []⟩ = pure (ps.zip us)) (hr : Room (k + 1) X.A.in1.in1)
    (hb : ∀ (A : Around) (outer : List Env) (s : Shared) (H : Hp), Room k (A.deeper (envOfC qual scope s.heap.objs.size f (.ref c))) → PE (cxOf CX0 X.prog X.w X.K X.mg X.base N qual scope f (.ref c) A outer s H E0).nox body tb)
    (r : Vals vs us) (hl : vs.length = ps.length) (want : tb (L2.start N vs) H Q) : wpAny (model X.prog X.w) X.A.in1.in1 (call (.ref f) us) (fun u s' => CE X.stack X.prog X.w H s Q u s') (fun _ _ => False) s := by
  obtain ⟨pm, ctv, of⟩ := lamO_at I.hok hf
  obtain ⟨oc, cvs, t, hoc, hdc, hvc⟩ := codeO_at I.hok hc
  have env := (inv_env1 I)
  have lim : s.heap.NoLimit := I.nolimit
  have hul : us.length = ps.length := r.length.symm.trans hl
  have vis : ∀ y ∈ ps.zip us, scope.names.lookup y.1 = some .local ∨ (scope.names.lookup y.1 = some .cell ∧ ((cellsFrom (s.heap.objs.size + 1) scope.names []).lookup y.1).isSome = true) := by
    rintro ⟨n, v⟩ hy
    exact (S.par n (List.of_mem_zip hy).1).elim Or.inl fun z => Or.inr ⟨z, PySem.W.cellsFrom_some _ _ _ (Or.inl z)⟩
  refine wpAny_call (PySem.W.kla_callFunE hr.depth of rfl S.co S.gen rfl ⟨c, oc, cvs, t, rfl, hoc, hdc, hvc⟩ ?_)
  rw [bind us _ _ _ hul]
  refine wpAny_pure (wpAny_newFunctionEnv_cells S.kind vis fun env' he s1 x => ?_)
  cases he
  refine ⟨lim.keeps x.toInCall.keep, PySem.W.kla_codeExpr ?_⟩
  have J : L2.Inv (cxOf CX0 X.prog X.w X.K X.mg X.base N qual scope f (.ref c) X.A.in1.in1 X.stack s H E0) [] (L2.start N vs) H s1 := inv_start S hr.hd env hl r x
  refine wpAny_mono ((hb _ _ s H (hr.deeper _)).run [] s1 _ H Q (J.wish _) want) (fun u s' z => ?_) fun e s' z => z.elim
  obtain ⟨v, H', J', rv, q⟩ := z
  exact ⟨v, H', J'.os, J'.bare, J'.base, J'.hok, rv, q⟩
end
/-- sorted(l, key=lambda ..: ..) -/
def rSortL (K : PySem.W.Frag) {α : Type} (KR : Hp → V → α → Prop) (lt : α → α → Bool) (qual : Str) (params : Arguments) (body : Expr) (scope : Scope) (N : List Str) (tb : TE) : List V → List V → Hp → VK → Prop := fun vs zs H Q =>
  ∃ (l f c : Addr) (xs : List V) (ks : List α), vs = [.ref l] ∧ zs = [.ref f] ∧ H f = some (LamO f qual params body scope c) ∧ H c = some (CodeO c qual) ∧ SqL K H l xs ∧ ks.length = xs.length ∧
    (∀ (j : Nat) (x : V) (k : α) (H2 : Hp), xs[j]? = some x → ks[j]? = some k → Same H H2 → tb (L2.start N [x]) H2 fun y H3 => Same H2 H3 ∧ KR H3 y k) ∧
    ∀ H2 p, Same H H2 → H2 p = none → Q (.ref p) (upd H2 p (.lst (byKeys lt ks xs)))
theorem call_sortL {α : Type} {KR : Hp → V → α → Prop} {lt : α → α → Bool} (KO : KeyOk X KR lt) {qual : Str} {params : Arguments} {body : Expr} {scope : Scope} {N : List Str} {px : Str} {tb : TE} {k : Nat} (S : FnScope N [px] scope)
    (bind : ∀ (us : List Value) (pm cv ctv : Value), us.length = 1 → bindArgs (PySem.W.kla_fn "<lambda>" qual params body scope [] pm cv ctv) ⟨us, []⟩ = pure ([px].zip us)) (hr : Room (k + 3) X.A)
    (hb : ∀ (f c : Addr) (A : Around) (outer : List Env) (s : Shared) (H : Hp), Room k (A.deeper (envOfC qual scope s.heap.objs.size f (.ref c))) → PE (cxOf CX0 X.prog X.w X.K X.mg X.base N qual scope f (.ref c) A outer s H E0).nox body tb) :
    CallRK X (.builtin "sorted") ["key"] (rSortL X.K KR lt qual params body scope N tb) := by
  intro pins s σ H xs zs us ws Q I r rz h
  obtain ⟨l, f, c, ys, ks, rfl, rfl, hf, hc, hs, hk, turn, fin⟩ := h
  obtain ⟨ud, rfl, rd⟩ := Vals.one rz
  obtain rfl : ud = Value.ref f := rd
  rw [Vals.ref1 r]
  refine key_sorted KO I hs hk (fun j x ky H2 s2 u hx hky g s12 rx => ?_) fin
  have I2 := g.inv I
  refine wpAny_mono (run_lam3 (ps := [px]) (vs := [x]) (us := [u]) I2 (s12 _ _ hf) (s12 _ _ hc) S bind hr.in1.in1 (hb f c) (.cons rx .nil) rfl (turn j x ky H2 hx hky s12)) (fun v s3 z => ?_) fun _ _ z => z
  obtain ⟨y, H3, g3, ry, s23, hK⟩ := CE.gone z
  exact ⟨H3, g3, s23, y, ry, hK⟩
/-- sorted(l, key=f), f a def of the module -/
def rSortF (K : PySem.W.Frag) {α : Type} (KR : Hp → V → α → Prop) (lt : α → α → Bool) (f : Addr) (sp : Sp) : List V → List V → Hp → VK → Prop := fun vs zs H Q =>
  ∃ (l : Addr) (xs : List V) (ks : List α), vs = [.ref l] ∧ zs = [.ref f] ∧ SqL K H l xs ∧ ks.length = xs.length ∧
    (∀ (j : Nat) (x : V) (k : α) (H2 : Hp), xs[j]? = some x → ks[j]? = some k → Same H H2 → sp [x] H2 (fun y H3 => Same H2 H3 ∧ KR H3 y k) E0) ∧
    ∀ H2 p, Same H H2 → H2 p = none → Q (.ref p) (upd H2 p (.lst (byKeys lt ks xs)))
theorem call_sortF {α : Type} {KR : Hp → V → α → Prop} {lt : α → α → Bool} (KO : KeyOk X KR lt) {f : Addr} {fd : FuncData} {px : Str} {sp : Sp} {k : Nat} (F : FnOk X.prog X.w X.K X.mg X.base CX0 k f fd [px] sp) (hb : L2.Binds X.K fd [px] []) (hr : Room (k + 2) X.A) :
    CallRK X (.builtin "sorted") ["key"] (rSortF X.K KR lt f sp) := by
  intro pins s σ H xs zs us ws Q I r rz h
  obtain ⟨l, ys, ks, rfl, rfl, hs, hk, turn, fin⟩ := h
  obtain ⟨ud, rfl, rd⟩ := Vals.one rz
  obtain rfl : ud = Value.ref f := rd
  rw [Vals.ref1 r]
  refine key_sorted KO I hs hk (fun j x ky H2 s2 u hx hky g s12 rx => ?_) fin
  have I2 := g.inv I
  have bd := hb s2 [u] I2.kIn rfl
  rw [List.append_nil] at bd
  refine wpAny_call (codeAny_mono (F.run X.A.in1.in1 X.stack s2 H2 ⟨[u], []⟩ [u] [x] _ E0 hr.in1.in1 (inv_env1 I2) bd (.cons rx .nil) (turn j x ky H2 hx hky s12)) fun z s3 hz => ?_)
  match z, hz with
  | .error er, hz => exact (show False from hz).elim
  | .ok (.ret v), hz =>
    obtain ⟨y, H3, g3, ry, s23, hK⟩ := CE.gone hz
    exact ⟨H3, g3, s23, y, ry, hK⟩
  | .ok .next, hz => exact (show False from hz).elim
  | .ok .brk, hz => exact (show False from hz).elim
  | .ok .cont, hz => exact (show False from hz).elim
end
/-! ### calls by places and names, defaults -/
def nthL {α : Type} : List α → Nat → List α
  | [], _ => []
  | a :: _, 0 => [a]
  | _ :: l, n + 1 => nthL l n
def pickL {α : Type} (l : List α) : List Nat → List α
  | [] => []
  | i :: r => nthL l i ++ pickL l r
theorem nthL_vals : ∀ {vs : List V} {us : List Value} (i : Nat), Vals vs us → Vals (nthL vs i) (nthL us i)
  | _, _, _, .nil => .nil
  | _, _, 0, .cons r _ => .cons r .nil
  | _, _, i + 1, .cons _ t => nthL_vals i t
theorem pickL_vals {vs : List V} {us : List Value} (h : Vals vs us) : ∀ is : List Nat, Vals (pickL vs is) (pickL us is)
  | [] => .nil
  | i :: r => (nthL_vals i h).append (pickL_vals h r)
theorem kbD {K : PySem.W.Frag} {x qual : Str} {params : Arguments} {body : List Stmt} {scope : Scope} {dvs : List V} {kws : List (Str × V)} {f : Addr} {fd : FuncData} {ps : List Str} (F : FunD K x qual params body scope dvs kws f fd) (n : Nat) (ks : List Str) (is : List Nat) (hd : dvs ≠ [])
    (h : ∀ (T : Addr) (kV doc pm : Value) (an : Option Addr) (cdv ct : Value) (us its ws : List Value), us.length = n → its.length = dvs.length → ws.length = ks.length →
      ∃ k, bindArgs (PySem.W.fnOf x qual params body scope (.ref T) kV doc pm an cdv ct) ⟨us, ks.zip ws⟩ = seqItems? (.ref T) >>= k ∧ k (some its.toArray) = pure (ps.zip (pickL (us ++ its ++ ws) is))) :
    ∃ its : List Value, KBn K fd ps n ks (fun us ws => pickL (us ++ its ++ ws) is) (fun vs zs => pickL (vs ++ dvs ++ zs) is) :=
  FunD.kbindsD F n ks (fun us its ws => pickL (us ++ its ++ ws) is) hd (fun a b c => pickL_vals ((a.append b).append c) is) h
theorem kbF {K : PySem.W.Frag} {x qual : Str} {st : Stmt} {f : Addr} {fd : FuncData} {ps : List Str} (F : Fun K x qual st f fd) (n : Nat) (ks : List Str) (is : List Nat)
    (h : ∀ (kV doc pm : Value) (an : Option Addr) (cdv ct : Value) (us ws : List Value), us.length = n → ws.length = ks.length → bindArgs (PySem.W.fnOf x qual (defArgs st) (defBody st) (defScope st) .none kV doc pm an cdv ct) ⟨us, ks.zip ws⟩ = pure (ps.zip (pickL (us ++ ws) is))) :
    KBn K fd ps n ks (fun us ws => pickL (us ++ ws) is) (fun vs zs => pickL (vs ++ zs) is) := by
  obtain ⟨oc, od, kV, doc, pm, an, cdv, ct, osl, rfl, lk, hcd⟩ := F.ex
  exact ⟨fun s us ws _ h1 h2 => .of_eq (h kV doc pm an cdv ct us ws h1 h2), fun a b => pickL_vals (a.append b) is⟩
section
variable {X : Cx} {CX : CXT} {k : Nat} {f : Addr} {fd : FuncData} {ps ks : List Str} {sp : Sp} {E : XK} {x : Str} {p pos : Pos} {kws : List Keyword} {tk : TA} {g : List Value → List Value → List Value} {gV : List V → List V → List V}
/-- f(k = v, ..) -/
theorem pe_callN0 (F : FnOk X.prog X.w X.K X.mg X.base CX k f fd ps sp) (hr : Room k X.A) (hg : Gl X x) (hm : X.mg x = some (.ref f)) (hk : PySem.W.keepIn X.K (.ref f) = true) (hb : KBn X.K fd ps 0 ks g gV) (hx : Passes CX X E)
    (hkw : PK X kws tk) (hall : (backToKw pos (keywordEach kws X.env)).all (·.1.isSome) = true := by rfl) (hks : (backToKw pos (keywordEach kws X.env)).filterMap (·.1) = ks := by rfl)
    (hdb : (x == ("__debug__" : Str)) = false := by decide)
    (hpl : ((backTo pos (starEach [] X.env)).any (·.1) || (backToKw pos (keywordEach kws X.env)).any (·.1.isNone)) = false := by rfl) :
    PE X (.Call (.Name x p) [] kws pos) (tCallN 0 ks.length sp gV E tNil tk) := by
  refine ⟨fun pins s σ H Q I h => ?_⟩
  refine wpAny_Call_Name_kw (ld_glob I hg hm ?_ hdb)
  refine PySem.W.callWith_KW0 (h₀ := X.base) I.ok.mod.kin hk hall ?_ hpl
  refine thn (hkw.run pos pins s σ H _ I h) fun ws s2 ⟨zs, H2, I2, rz, _, l2, q2⟩ => ⟨I2.kIn, ?_⟩
  rw [hks]
  exact run_fnN F hr hb hx I2 .nil rz rfl l2 q2
end
/-! ### == and != of lists of own objects, whatever comes of it -/
set_option maxHeartbeats 8000000
section
open PySem.SeqAt GQ
open AutoSeq1 (wpAny_loadPart')
open MeetsSeq MeetsSeq2 MeetsSeq3 SeqRoads2
section
variable {prog : Program} {w : World} {A : Around} {R : Result → Shared → Prop}
/-- the lists at l and b are read anew at each turn, N items each; the first k are equal, and the k-th, where there is one, is not -/
def ListB (prog : Program) (w : World) (A : Around) (E : Value → Shared → Prop) (l b : Addr) (N k : Nat) (I : Nat → Shared → Prop) : Prop :=
  ∀ i s, I i s → ∃ (items items2 : Array Value) (n n2 : Nat), s.heap.get? l = some { cls := .type "list", data := .seq items n } ∧ s.heap.get? b = some { cls := .type "list", data := .seq items2 n2 } ∧ items.size = N ∧ items2.size = N ∧
    ∀ (h1 : i < items.size) (h2 : i < items2.size), i ≤ k → wpAny (model prog w) A.in1 (eqBool items[i] items2[i]) (fun r s' => r = decide (i < k) ∧ I (i + 1) s') E s
theorem b_loop (l b : Addr) (N k : Nat) (hk : k ≤ N) (I : Nat → Shared → Prop) (hl : ListB prog w A (fun e s' => R (.error e) s') l b N k I) (neg : Bool)
    (fin : ∀ i s, I i s → R (.ok (.ret (.bool (neg != decide (k = N))))) s) (m : Nat) :
    ∀ i : Nat, k - i = m → i ≤ k → ∀ s, I i s →
      wpAny (model prog w) A.in1 (Builtin.«list.__eq__.loop» ⟨[.ref l, .ref b, rawInt i, rawInt (if neg = true then 3 else 2)], []⟩) (FinOf prog w A R) (fun e s' => R (.error e) s') s := by
  induction m with
  | zero =>
    intro i hm hi s h
    obtain ⟨items, items2, n, n2, hl1, hb1, hs1, hs2, turn⟩ := hl _ _ h
    have hi' : i = k := by omega
    subst hi'
    by_cases c : i = N
    · have hR : R (.ok (.ret (.bool (neg != true)))) s := by have := fin _ s h; rw [decide_eq_true c] at this; exact this
      obtain ⟨hp, g, d, tk, os⟩ := s
      have hi1 : items[((i : Nat) : Int).toNat]? = none := by simp; omega
      have hi2 : items2[((i : Nat) : Int).toNat]? = none := by simp; omega
      cases neg with
      | true =>
        rw [if_pos rfl]
        wp_walk using wpAny_loadPart' hl1, wpAny_loadPart' hb1
        rw [hi1, hi2]
        wp_walk using wpAny_loadPart' hl1, wpAny_loadPart' hb1
        show R (.ok (.ret (.bool (items.size != items2.size)))) _
        rw [hs1, hs2]
        simpa using hR
      | false =>
        rw [if_neg (by decide)]
        wp_walk using wpAny_loadPart' hl1, wpAny_loadPart' hb1
        rw [hi1, hi2]
        wp_walk using wpAny_loadPart' hl1, wpAny_loadPart' hb1
        show R (.ok (.ret (.bool (items.size == items2.size)))) _
        rw [hs1, hs2]
        simpa using hR
    · have hlt : i < items.size := by omega
      have hlt2 : i < items2.size := by omega
      have ht := turn hlt hlt2 (Nat.le_refl _)
      rw [decide_eq_false (Nat.lt_irrefl i)] at ht
      have hi1 : items[((i : Nat) : Int).toNat]? = some items[i] := by simp [hlt]
      have hi2 : items2[((i : Nat) : Int).toNat]? = some items2[i] := by simp [hlt2]
      have after : ∀ s2, I (i + 1) s2 → ∃ (js js2 : Array Value) (n n2 : Nat) (x y : Value), s2.heap.get? l = some { cls := .type "list", data := .seq js n } ∧ s2.heap.get? b = some { cls := .type "list", data := .seq js2 n2 } ∧ js[((i : Nat) : Int).toNat]? = some x ∧ js2[((i : Nat) : Int).toNat]? = some y ∧ R (.ok (.ret (.bool (neg != false)))) s2 := by
        intro s2 h2
        obtain ⟨js, js2, n, n2, a1, a2, b1, b2, _⟩ := hl _ _ h2
        have hR := fin _ s2 h2
        rw [decide_eq_false c] at hR
        have z1 : i < js.size := by omega
        have z2 : i < js2.size := by omega
        exact ⟨js, js2, n, n2, js[i], js2[i], a1, a2, by simp [z1], by simp [z2], hR⟩
      obtain ⟨hp, g, d, tk, os⟩ := s
      cases neg with
      | true =>
        rw [if_pos rfl]
        wp_walk using wpAny_loadPart' hl1, wpAny_loadPart' hb1
        rw [hi1, hi2]
        refine wpAny_bind (wpAny_mono ht (fun r s2 h2 => ?_) fun _ _ x => x)
        obtain ⟨hr, h2⟩ := h2
        subst hr
        obtain ⟨js, js2, n, n2, x, y, a1, a2, e1, e2, hR⟩ := after _ h2
        obtain ⟨hp2, g2, d2, tk2, os2⟩ := s2
        wp_walk using wpAny_loadPart' a1, wpAny_loadPart' a2
        rw [e1, e2]
        wp_walk
        exact hR
      | false =>
        rw [if_neg (by decide)]
        wp_walk using wpAny_loadPart' hl1, wpAny_loadPart' hb1
        rw [hi1, hi2]
        refine wpAny_bind (wpAny_mono ht (fun r s2 h2 => ?_) fun _ _ x => x)
        obtain ⟨hr, h2⟩ := h2
        subst hr
        obtain ⟨js, js2, n, n2, x, y, a1, a2, e1, e2, hR⟩ := after _ h2
        obtain ⟨hp2, g2, d2, tk2, os2⟩ := s2
        wp_walk using wpAny_loadPart' a1, wpAny_loadPart' a2
        rw [e1, e2]
        wp_walk
        exact hR
  | succ m ih =>
    intro i hm hi s h
    obtain ⟨items, items2, n, n2, hl1, hb1, hs1, hs2, turn⟩ := hl _ _ h
    have hlt : i < items.size := by omega
    have hlt2 : i < items2.size := by omega
    have ht := turn hlt hlt2 hi
    rw [decide_eq_true (show i < k by omega)] at ht
    obtain ⟨hp, g, d, tk, os⟩ := s
    have hi1 : items[((i : Nat) : Int).toNat]? = some items[i] := by simp [hlt]
    have hi2 : items2[((i : Nat) : Int).toNat]? = some items2[i] := by simp [hlt2]
    have hc : ((i : Int) + 1) = ((i + 1 : Nat) : Int) := by omega
    cases neg with
    | true =>
      rw [if_pos rfl] at ih ⊢
      wp_walk using wpAny_loadPart' hl1, wpAny_loadPart' hb1
      rw [hi1, hi2]
      refine wpAny_bind (wpAny_mono ht (fun r s2 h2 => ?_) fun _ _ x => x)
      obtain ⟨hr, h2⟩ := h2
      subst hr
      have hrec := ih (i + 1) (by omega) (by omega) s2 h2
      obtain ⟨hp2, g2, d2, tk2, os2⟩ := s2
      wp_walk
      rw [hc]
      exact ⟨plainId_quiet plain_eq_loop _, codeAny_builtin entry_eq_loop (by
        rw [Around.under_plainId plain_eq_loop _]
        exact hrec)⟩
    | false =>
      rw [if_neg (by decide)] at ih ⊢
      wp_walk using wpAny_loadPart' hl1, wpAny_loadPart' hb1
      rw [hi1, hi2]
      refine wpAny_bind (wpAny_mono ht (fun r s2 h2 => ?_) fun _ _ x => x)
      obtain ⟨hr, h2⟩ := h2
      subst hr
      have hrec := ih (i + 1) (by omega) (by omega) s2 h2
      obtain ⟨hp2, g2, d2, tk2, os2⟩ := s2
      wp_walk
      rw [hc]
      exact ⟨plainId_quiet plain_eq_loop _, codeAny_builtin entry_eq_loop (by
        rw [Around.under_plainId plain_eq_loop _]
        exact hrec)⟩
end
section
variable {prog : Program} {w : World} {A : Around} {R : Result → Shared → Prop}
theorem list_eqB (neg : Bool) (l b : Addr) (N k : Nat) (hk : k ≤ N) (I : Nat → Shared → Prop) (hl : ListB prog w A (fun e s' => R (.error e) s') l b N k I)
    (fin : ∀ i s, I i s → R (.ok (.ret (.bool (neg != decide (k = N))))) s) {s : Shared} (h : I 0 s) :
    wpAny (model prog w) A.in1 ((if neg = true then Builtin.«list.__ne__» else Builtin.«list.__eq__») ⟨[.ref l, .ref b], []⟩) (FinOf prog w A R) (fun e s' => R (.error e) s') s := by
  obtain ⟨items, items2, n, n2, hl1, hb1, hs1, hs2, _⟩ := hl _ _ h
  have hrec := b_loop (A := A) (R := R) l b N k hk I hl neg fin _ 0 rfl (Nat.zero_le _) s h
  obtain ⟨hp, g, d, tk, os⟩ := s
  have f3 := AutoSeq1.sub_list_list
  have hne : ¬ (items.size != items2.size) = true := by simp [hs1, hs2]
  cases neg with
  | true =>
    rw [if_pos rfl] at hrec ⊢
    wp_walk using wpAny_loadPart' hl1, wpAny_loadPart' hb1
    exact ⟨plainId_quiet plain_eq_loop _, codeAny_builtin entry_eq_loop (by
      rw [Around.under_plainId plain_eq_loop _]
      exact hrec)⟩
  | false =>
    rw [if_neg (by decide)] at hrec ⊢
    wp_walk using wpAny_loadPart' hl1, wpAny_loadPart' hb1
    exact ⟨plainId_quiet plain_eq_loop _, codeAny_builtin entry_eq_loop (by
      rw [Around.under_plainId plain_eq_loop _]
      exact hrec)⟩
/-- lists of unlike lengths -/
theorem list_eqL (neg : Bool) (l b : Addr) {items items2 : Array Value} {n n2 : Nat} {s : Shared} (hl1 : s.heap.get? l = some { cls := .type "list", data := .seq items n }) (hb1 : s.heap.get? b = some { cls := .type "list", data := .seq items2 n2 }) (hne : (items.size != items2.size) = true)
    (fin : R (.ok (.ret (.bool neg))) s) :
    wpAny (model prog w) A.in1 ((if neg = true then Builtin.«list.__ne__» else Builtin.«list.__eq__») ⟨[.ref l, .ref b], []⟩) (FinOf prog w A R) (fun e s' => R (.error e) s') s := by
  obtain ⟨hp, g, d, tk, os⟩ := s
  have f3 := AutoSeq1.sub_list_list
  cases neg with
  | true =>
    rw [if_pos rfl]
    wp_walk using wpAny_loadPart' hl1, wpAny_loadPart' hb1
    exact fin
  | false =>
    rw [if_neg (by decide)]
    wp_walk using wpAny_loadPart' hl1, wpAny_loadPart' hb1
    exact fin
end
section
variable {prog : Program} {w : World} {A : Around} {E : Value → Shared → Prop} {s : Shared}
def opB (neg : Bool) : CmpOp := if neg = true then .NotEq else .Eq
theorem rc_listB (neg : Bool) {l b : Addr} {N k : Nat} {Q : Value → Shared → Prop} (hk : k ≤ N) (hu : A.units < cLine) (I : Nat → Shared → Prop) (hl : ListB prog w A E l b N k I)
    (fin : ∀ i s, I i s → Q (.bool (neg != decide (k = N))) s) (h : I 0 s) : wpAny (model prog w) A (richCompare (opB neg) (.ref l) (.ref b)) Q E s := by
  obtain ⟨items, items2, n, n2, hl1, hb1, _, _, _⟩ := hl _ _ h
  have z := list_eqB (prog := prog) (w := w) (A := A) (R := wants (fun v s' => v ≠ .notImplemented ∧ Q v s') E) neg l b N k hk I hl (fun i s' q => ⟨(fun x => nomatch x), fin i s' q⟩) h
  cases neg with
  | true => exact wpAny_richCompare_same_room (op := .NotEq) ⟨_, hl1, rfl⟩ ⟨_, hb1, rfl⟩ F.slot_list_ne (call_here F.slot_list_ne ⟨_, hl1, rfl⟩ F.entry_list_ne (F.args_list_ne_2 _ _) z) hu
  | false => exact wpAny_richCompare_same_room (op := .Eq) ⟨_, hl1, rfl⟩ ⟨_, hb1, rfl⟩ F.slot_list_eq (call_here F.slot_list_eq ⟨_, hl1, rfl⟩ F.entry_list_eq (F.args_list_eq_2 _ _) z) hu
theorem rc_listL (neg : Bool) {l b : Addr} {items items2 : Array Value} {n n2 : Nat} {Q : Value → Shared → Prop} (hu : A.units < cLine) (hl1 : s.heap.get? l = some { cls := .type "list", data := .seq items n }) (hb1 : s.heap.get? b = some { cls := .type "list", data := .seq items2 n2 }) (hne : (items.size != items2.size) = true)
    (fin : Q (.bool neg) s) : wpAny (model prog w) A (richCompare (opB neg) (.ref l) (.ref b)) Q E s := by
  have z := list_eqL (prog := prog) (w := w) (A := A) (R := wants (fun v s' => v ≠ .notImplemented ∧ Q v s') E) neg l b hl1 hb1 hne ⟨(fun x => nomatch x), fin⟩
  cases neg with
  | true => exact wpAny_richCompare_same_room (op := .NotEq) ⟨_, hl1, rfl⟩ ⟨_, hb1, rfl⟩ F.slot_list_ne (call_here F.slot_list_ne ⟨_, hl1, rfl⟩ F.entry_list_ne (F.args_list_ne_2 _ _) z) hu
  | false => exact wpAny_richCompare_same_room (op := .Eq) ⟨_, hl1, rfl⟩ ⟨_, hb1, rfl⟩ F.slot_list_eq (call_here F.slot_list_eq ⟨_, hl1, rfl⟩ F.entry_list_eq (F.args_list_eq_2 _ _) z) hu
end
end
section
open GQ
/-- how two values come out, by the abstract heap -/
abbrev EqvB := V → V → Bool → Hp → Prop
def MonB (D : EqvB) : Prop := ∀ x y b H H', Ext H H' → D x y b H → D x y b H'
def SelfB (D : EqvB) : Prop := ∀ x b H, D x x b H → b = true
def DqB (X : Cx) (n : Nat) (D : EqvB) : Prop :=
  ∀ (A : Around) (pins : List (Addr × Obj)) (s : Shared) (σ : L2.St) (H : Hp) (x y : V) (u v : Value) (b : Bool), Sub X n A → L2.Inv X pins σ H s → RelV x u → RelV y v → D x y b H →
    wpAny (model X.prog X.w) A (eqBool u v) (fun r s' => r = b ∧ ∃ H', L2.Inv X pins σ H' s' ∧ Ext H H') X.xe s
def DcB (X : Cx) (n : Nat) (op : CmpOp) (f : Bool → Bool) (D : EqvB) : Prop :=
  ∀ (A : Around) (pins : List (Addr × Obj)) (s : Shared) (σ : L2.St) (H : Hp) (x y : V) (u v : Value) (b : Bool), Sub X n A → L2.Inv X pins σ H s → RelV x u → RelV y v → D x y b H →
    wpAny (model X.prog X.w) A (richCompare op u v) (fun r s' => r = .bool (f b) ∧ ∃ H', L2.Inv X pins σ H' s' ∧ Ext H H') X.xe s
variable {X : Cx} {n m : Nat} {D D' : EqvB}
theorem DqB.mono (h : DqB X n D) (hn : n ≤ m) : DqB X m D := fun A pins s σ H x y u v b sb => h A pins s σ H x y u v b (sb.mono hn)
theorem DqB.or (h : DqB X n D) (h' : DqB X n D') : DqB X n (fun x y b H => D x y b H ∨ D' x y b H) := fun A pins s σ H x y u v b sb I rx ry d => by
  rcases d with d | d
  · exact h A pins s σ H x y u v b sb I rx ry d
  · exact h' A pins s σ H x y u v b sb I rx ry d
theorem DcB.dqB (h : DcB X n .Eq id D) (hr : ∀ x y b H, D x y b H → ∃ a c, x = .ref a ∧ y = .ref c) (hs : SelfB D) : DqB X n D := by
  intro A pins s σ H x y u v b sb I rx ry d
  obtain ⟨a, c, rfl, rfl⟩ := hr _ _ _ _ d
  cases rx
  cases ry
  by_cases hab : a = c
  · subst hab
    rw [hs _ _ _ d]
    exact SeqAt.EqAt.same (A := A) (s := s) (.ref a) X.prog X.w X.xe _ ⟨rfl, H, I, Ext.rfl'⟩
  · refine GQ.eqBool_refG hab (wpAny_mono (h A pins s σ H (.ref a) (.ref c) _ _ b sb I rfl rfl d) (fun r s' q => ?_) fun _ _ x => x)
    obtain ⟨hr', q⟩ := q
    exact ⟨b, hr', rfl, q⟩
/-- lists: of unlike lengths, or alike up to k, and unlike there -/
def PrsB (D : EqvB) (xs ys : List V) (b : Bool) (H : Hp) : Prop := (xs.length ≠ ys.length ∧ b = false) ∨
  (xs.length = ys.length ∧ ∃ k, k ≤ xs.length ∧ b = decide (k = xs.length) ∧ (∀ (i : Nat) x y, xs[i]? = some x → ys[i]? = some y → i ≤ k → D x y (decide (i < k)) H))
theorem PrsB.mon (hD : MonB D) {xs ys : List V} {b : Bool} {H H' : Hp} (e : Ext H H') (p : PrsB D xs ys b H) : PrsB D xs ys b H' := by
  rcases p with p | ⟨p, k, hk, hb, q⟩
  · exact .inl p
  · exact .inr ⟨p, k, hk, hb, fun i x y h1 h2 h3 => hD _ _ _ _ _ e (q i x y h1 h2 h3)⟩
def DListB (D : EqvB) : EqvB := fun x y b H => ∃ a c xs ys, x = .ref a ∧ y = .ref c ∧ H a = some (.lst xs) ∧ H c = some (.lst ys) ∧ PrsB D xs ys b H
theorem monB_list (hD : MonB D) : MonB (DListB D) := fun x y b H H' e d => by
  obtain ⟨a, c, xs, ys, hx, hy, h1, h2, p⟩ := d
  exact ⟨a, c, xs, ys, hx, hy, e _ _ h1, e _ _ h2, p.mon hD e⟩
theorem selfB_list (hs : SelfB D) : SelfB (DListB D) := fun x b H d => by
  obtain ⟨a, c, xs, ys, rfl, hy, h1, h2, p⟩ := d
  cases hy
  rw [h1] at h2
  cases h2
  rcases p with ⟨p, _⟩ | ⟨_, k, hk, hb, q⟩
  · exact absurd rfl p
  · rw [hb]
    by_cases c : k = xs.length
    · exact decide_eq_true c
    · have hlt : k < xs.length := by omega
      have := hs _ _ _ (q k _ _ (List.getElem?_eq_getElem hlt) (List.getElem?_eq_getElem hlt) (Nat.le_refl _))
      rw [decide_eq_false (Nat.lt_irrefl k)] at this
      cases this
theorem dcB_list (neg : Bool) (hD : MonB D) (h : DqB X n D) : DcB X (n + 1) (opB neg) (fun b => neg != b) (DListB D) := by
  intro A pins s σ H x y u v b sb I rx ry d
  obtain ⟨a, c, xs, ys, rfl, rfl, ha, hb, p⟩ := d
  cases rx
  cases ry
  rcases p with ⟨p, rfl⟩ | ⟨p, k, hk, rfl, q⟩
  · obtain ⟨z, its, k1, r, e⟩ := I.hok a _ ha
    obtain ⟨z2, its2, k2, r2, e2⟩ := I.hok c _ hb
    refine rc_listL neg sb.room.units0 e e2 ?_ ⟨by simp, H, I, Ext.rfl'⟩
    rw [List.size_toArray, List.size_toArray, ← r.length, ← r2.length]
    simpa using p
  · refine rc_listB neg (N := xs.length) (k := k) hk sb.room.units0 (fun _ s' => LoopI X pins σ H s') (fun i s' z => ?_) (fun i s' z => ⟨rfl, z⟩) ⟨H, I, Ext.rfl'⟩
    obtain ⟨H1, I1, e1⟩ := id z
    obtain ⟨z1, its, k1, r, e⟩ := I1.hok a _ (e1 _ _ ha)
    obtain ⟨z2, its2, k2, r2, e2⟩ := I1.hok c _ (e1 _ _ hb)
    refine ⟨its.toArray, its2.toArray, k1, k2, e, e2, by rw [List.size_toArray, ← r.length], by rw [List.size_toArray, ← r2.length, ← p], fun h1 h2 h3 => ?_⟩
    have g1 : its[i]? = some its.toArray[i] := by
      have h1' : i < its.length := by simpa using h1
      rw [List.getElem?_eq_getElem h1'] <;> simp
    have g2 : its2[i]? = some its2.toArray[i] := by
      have h2' : i < its2.length := by simpa using h2
      rw [List.getElem?_eq_getElem h2'] <;> simp
    have l1 : i < xs.length := by rw [r.length]; simpa using h1
    have l2 : i < ys.length := by rw [r2.length]; simpa using h2
    obtain ⟨u, hu, ru⟩ := r.get (List.getElem?_eq_getElem l1)
    obtain ⟨v, hv, rv⟩ := r2.get (List.getElem?_eq_getElem l2)
    rw [g1] at hu
    rw [g2] at hv
    rw [Option.some.inj hu, Option.some.inj hv]
    refine wpAny_mono (h A.in1 pins s' σ H1 _ _ u v _ sb.in1 I1 ru rv (hD _ _ _ _ _ e1 (q i _ _ (List.getElem?_eq_getElem l1) (List.getElem?_eq_getElem l2) h3))) (fun r s2 q => ?_) fun _ _ x => x
    obtain ⟨hr, H2, I2, e2⟩ := q
    exact ⟨hr, H2, I2, e1.trans e2⟩
theorem dqB_list (hD : MonB D) (hs : SelfB D) (h : DqB X n D) : DqB X (n + 1) (DListB D) := by
  have z := dcB_list false hD h
  refine DcB.dqB (D := DListB D) ?_ (fun _ _ _ _ d => let ⟨a, b, _, _, hx, hy, _⟩ := d; ⟨a, b, hx, hy⟩) (selfB_list hs)
  intro A pins s σ H x y u v b sb I rx ry d
  refine wpAny_mono (z A pins s σ H x y u v b sb I rx ry d) (fun r s' q => ?_) fun _ _ x => x
  obtain ⟨e, q⟩ := q
  refine ⟨e.trans ?_, q⟩
  cases b <;> rfl
/-- instances of the class at C with the text's own ==: what R says of the two -/
def DInsB (C : Addr) (R : Addr → Addr → Bool → Hp → Prop) : EqvB := fun x y b H => ∃ a c dx dy fs gs, x = .ref a ∧ y = .ref c ∧ H a = some (.ins C dx fs) ∧ H c = some (.ins C dy gs) ∧ R a c b H
theorem monB_ins {C : Addr} {R : Addr → Addr → Bool → Hp → Prop} (hR : ∀ a c b H H', Ext H H' → R a c b H → R a c b H') : MonB (DInsB C R) := fun x y b H H' e d => by
  obtain ⟨a, c, dx, dy, fs, gs, hx, hy, h1, h2, r⟩ := d
  exact ⟨a, c, dx, dy, fs, gs, hx, hy, e _ _ h1, e _ _ h2, hR a c b H H' e r⟩
/-- what the own == promises: sp tells, of two such, the truth b -/
theorem dcB_ins {CX : CXT} {C f : Addr} {fd : FuncData} {ps : List Str} {sp : Sp} {R : Addr → Addr → Bool → Hp → Prop} {E : XK} (F : FnOk X.prog X.w X.K X.mg X.base CX n f fd ps sp) (hsp : ∀ a c b H (Q : VK), R a c b H → (∀ H', Ext H H' → Q (.bl b) H') → sp [.ref a, .ref c] H Q E)
    (hs : PySem.W.findIn X.K (.ref C) "__eq__" = some (some (.ref f))) (hf : PySem.W.isFn X.K (.ref f) = true) (hb : L2.Binds X.K fd ps []) (hx : Passes CX X E) : DcB X n .Eq id (DInsB C R) := by
  intro A pins s σ H x y u v b sb I rx ry d
  obtain ⟨a, c, dx, dy, fs, gs, rfl, rfl, ha, hb', hr⟩ := d
  cases rx
  cases ry
  obtain ⟨mA, J, _⟩ := ins_get I.hok ha
  obtain ⟨mB, J', _⟩ := ins_get I.hok hb'
  obtain ⟨od, J, _⟩ := J.look
  obtain ⟨od', J', _⟩ := J'.look
  obtain ⟨m, hF⟩ := I.fr
  refine PySem.W.cmp_K (op := .Eq) (tb := .ref C) sb.room.units0 hF I.ok.mod.kin J J'.type (by simp [PySem.W.notFirst]) hs hf ?_
  have hsp2 : sp [.ref a, .ref c] H (fun v H' => v = .bl b ∧ Ext H H') E := hsp a c b H _ hr fun H' e => ⟨rfl, e⟩
  have e0 : Env0 X.prog X.w X.K X.mg X.base A X.stack s H := by
    have e := I.env0
    exact ⟨by rw [sb.fr]; exact e.frames, e.mod, e.bs, e.bsz, e.funs, e.frf, e.hok, e.bare⟩
  have hl := F.len _ _ _ _ hsp2
  have r2 : Vals [V.ref a, V.ref c] [Value.ref a, Value.ref c] := .cons rfl (.cons rfl .nil)
  refine wpAny_call (codeAny_mono (F.run A X.stack s H ⟨[.ref a, .ref c], []⟩ [.ref a, .ref c] [.ref a, .ref c] _ E sb.room e0 (by
    have := hb s [.ref a, .ref c] I.kIn (by simpa using hl)
    simpa using this) r2 hsp2) fun r s' hq => ?_)
  cases r with
  | error e => exact hx pins σ H s e s' I hq
  | ok fl =>
    cases fl with
    | ret w =>
      obtain ⟨z, H', I', rz, ez, ex⟩ := I.after hq
      subst ez
      cases rz
      exact ⟨rfl, H', I', ex⟩
    | next => exact False.elim hq
    | brk => exact False.elim hq
    | cont => exact False.elim hq
theorem dqB_ins {CX : CXT} {C f : Addr} {fd : FuncData} {ps : List Str} {sp : Sp} {R : Addr → Addr → Bool → Hp → Prop} {E : XK} (F : FnOk X.prog X.w X.K X.mg X.base CX n f fd ps sp) (hsp : ∀ a c b H (Q : VK), R a c b H → (∀ H', Ext H H' → Q (.bl b) H') → sp [.ref a, .ref c] H Q E)
    (hs : PySem.W.findIn X.K (.ref C) "__eq__" = some (some (.ref f))) (hf : PySem.W.isFn X.K (.ref f) = true) (hb : L2.Binds X.K fd ps []) (hx : Passes CX X E) (self : ∀ a b H, R a a b H → b = true) : DqB X n (DInsB C R) :=
  (dcB_ins F hsp hs hf hb hx).dqB (fun _ _ _ _ d => let ⟨a, b, _, _, _, _, hx, hy, _⟩ := d; ⟨a, b, hx, hy⟩) fun x b H d => by
    obtain ⟨a, c, _, _, _, _, rfl, hy, _, _, r⟩ := d
    cases hy
    exact self a b H r
/-- x == y, x != y as expressions -/
def rDqB (D : EqvB) (f : Bool → Bool) : R2 := fun x y H Q => ∃ b, D x y b H ∧ ∀ H', Ext H H' → Q (.bl (f b)) H'
theorem op_dqB (neg : Bool) (hD : MonB D) (h : DqB X n D) (hr : Room (n + 1) X.A) : OpR X (compareOp (opB neg)) (rDqB (DListB D) (fun b => neg != b)) := by
  intro pins s σ H x y v u Q I rx ry hq
  obtain ⟨b, d, q⟩ := hq
  have z := dcB_list neg hD h X.A pins s σ H x y v u b ⟨hr, rfl⟩ I rx ry d
  cases neg with
  | true =>
    show wpAny (model X.prog X.w) X.A (richCompare .NotEq v u) (EP X pins σ Q) X.xe s
    refine wpAny_mono z (fun r s' z => ?_) fun _ _ x => x
    obtain ⟨hr', H', I', e⟩ := z
    subst hr'
    exact ⟨.bl _, H', I', rfl, q H' e⟩
  | false =>
    show wpAny (model X.prog X.w) X.A (richCompare .Eq v u) (EP X pins σ Q) X.xe s
    refine wpAny_mono z (fun r s' z => ?_) fun _ _ x => x
    obtain ⟨hr', H', I', e⟩ := z
    subst hr'
    exact ⟨.bl _, H', I', rfl, q H' e⟩
end
/-! ### objects of an own class: their text, ==, !=, whatever stands at the right -/
section
variable {X : Cx} {CX : CXT} {C g : Addr} {n : Nat} {fd : FuncData} {ps : List Str} {sp : Sp} {E : XK}
/-- the callee runs, at whatever place below -/
theorem run_fnA {A : Around} {pins : List (Addr × Obj)} {σ : L2.St} {H : Hp} {s : Shared} {Q : VK} {us : List Value} {vs : List V} (F : FnOk X.prog X.w X.K X.mg X.base CX n g fd ps sp) (hr : Room n A) (e0 : A.frames = X.A.frames) (hb : L2.Binds X.K fd ps [])
    (hx : Passes CX X E) (I : L2.Inv X pins σ H s) (r : Vals vs us) (h : sp vs H Q E) : wpAny (model X.prog X.w) A (call (.ref g) us) (EP X pins σ Q) X.xe s := by
  have hl : (us ++ []).length = ps.length := by rw [List.append_nil, ← r.length]; exact F.len _ _ _ _ h
  have b := hb s us I.kIn hl
  rw [List.append_nil] at b
  have e := I.env0
  have e1 : Env0 X.prog X.w X.K X.mg X.base A X.stack s H := ⟨e0.trans e.frames, e.mod, e.bs, e.bsz, e.funs, e.frf, e.hok, e.bare⟩
  refine wpAny_call (codeAny_mono (F.run A X.stack s H ⟨us, []⟩ us vs Q E hr e1 b r h) fun r s' hq => ?_)
  cases r with
  | error e => exact hx pins σ H s e s' I hq
  | ok fl =>
    cases fl with
    | ret u => exact I.after hq
    | next => exact False.elim hq
    | brk => exact False.elim hq
    | cont => exact False.elim hq
theorem inst_of {pins : List (Addr × Obj)} {σ : L2.St} {H : Hp} {s : Shared} {a dx : Addr} {fs : List (Str × V)} (I : L2.Inv X pins σ H s) (h : H a = some (.ins C dx fs)) : ∃ od, PySem.W.InstAt s.heap a (instObj C dx) C (some od) := by
  obtain ⟨_, O1, _⟩ := ins_get I.hok h
  obtain ⟨od, J, _⟩ := O1.look
  exact ⟨od, J⟩
/-- one text comes back -/
def QStr (Q : VK) : VK := fun z H' => ∃ y : Str, z = .str y ∧ Q z H'
theorem strback {pins : List (Addr × Obj)} {σ : L2.St} {Q : VK} {v : Value} {s' : Shared} (h : EP X pins σ (QStr Q) v s') : StrBack (EP X pins σ Q) v s' := by
  obtain ⟨z, H', I', rz, y, rfl, q⟩ := h
  obtain ⟨t, rfl⟩ := (show ∃ t, v = Value.str y t from rz)
  exact ⟨.str y, H', I', ⟨t, rfl⟩, q⟩
def rOwn1 (C : Addr) (sp : Sp) (E : XK) (W : VK → VK) : List V → Hp → VK → Prop := fun xs H Q => ∃ a dx fs, xs = [V.ref a] ∧ H a = some (.ins C dx fs) ∧ sp [.ref a] H (W Q) E
/-- str(o), by o's own __str__ -/
theorem call_strOwn (hs : PySem.W.findIn X.K (.ref C) "__str__" = some (some (.ref g))) (hf : PySem.W.isFn X.K (.ref g) = true) (F : FnOk X.prog X.w X.K X.mg X.base CX n g fd ps sp) (hb : L2.Binds X.K fd ps [])
    (hr : Room (n + 2) X.A) (hx : Passes CX X E) : CallR X (.type "str") (rOwn1 C sp E QStr) := by
  intro pins s σ H vs us Q I r h
  obtain ⟨a, dx, fs, rfl, ha, q⟩ := h
  obtain ⟨u, rfl, ru⟩ := Vals.one r
  cases (show u = Value.ref a from ru)
  obtain ⟨od, J⟩ := inst_of I ha
  have hr2 : Room n X.A.in1.in1 := hr.in1.in1
  refine PySem.W.kso_call hr2.units0 I.kIn J hs hf ?_
  exact wpAny_mono (run_fnA (A := X.A.in1.in1) (us := [.ref a]) (vs := [.ref a]) F hr2 rfl hb hx I (.cons rfl .nil) q) (fun v s' z => strback z) fun _ _ x => x
/-- repr(o), by o's own __repr__ -/
theorem call_reprOwn (hs : PySem.W.findIn X.K (.ref C) "__repr__" = some (some (.ref g))) (hf : PySem.W.isFn X.K (.ref g) = true) (F : FnOk X.prog X.w X.K X.mg X.base CX n g fd ps sp) (hb : L2.Binds X.K fd ps [])
    (hr : Room (n + 1) X.A) (hx : Passes CX X E) : CallR X (.builtin "repr") (rOwn1 C sp E QStr) := by
  intro pins s σ H vs us Q I r h
  obtain ⟨a, dx, fs, rfl, ha, q⟩ := h
  obtain ⟨u, rfl, ru⟩ := Vals.one r
  cases (show u = Value.ref a from ru)
  obtain ⟨od, J⟩ := inst_of I ha
  have hr2 : Room n X.A.in1 := hr.in1
  obtain ⟨m, hF⟩ := I.fr
  refine PySem.W.repr_K hr2.units0 hF I.ok.mod.kin J hs hf ?_
  exact wpAny_mono (run_fnA (A := X.A.in1) (us := [.ref a]) (vs := [.ref a]) F hr2 rfl hb hx I (.cons rfl .nil) q) (fun v s' z => strback z) fun _ _ x => x
/-- o == y, by o's own __eq__, whatever y is -/
def rOwnY (K : PySem.W.Frag) (C : Addr) (sp : Sp) (E : XK) (W : VK → VK) : R2 := fun x y H Q => ∃ a dx fs t, x = .ref a ∧ H a = some (.ins C dx fs) ∧ TyX K H y t ∧ PySem.W.notFirst K C t = true ∧ sp [x, y] H (W Q) E
theorem op_eqY (hs : PySem.W.findIn X.K (.ref C) "__eq__" = some (some (.ref g))) (hf : PySem.W.isFn X.K (.ref g) = true) (F : FnOk X.prog X.w X.K X.mg X.base CX n g fd ps sp) (hb : L2.Binds X.K fd ps [])
    (hr : Room n X.A) (hx : Passes CX X E) : OpR X (compareOp .Eq) (rOwnY X.K C sp E id) := by
  intro pins s σ H x y v u Q I rx ry h
  obtain ⟨a, dx, fs, t, rfl, ha, ty, hn, q⟩ := h
  cases (show v = Value.ref a from rx)
  obtain ⟨od, J⟩ := inst_of I ha
  obtain ⟨P, Z, p, _⟩ := kit_of I ry ty
  obtain ⟨m, hF⟩ := I.fr
  show wpAny _ _ (richCompare .Eq _ _) _ _ _
  refine PySem.W.cmp_K (op := .Eq) (tb := t) hr.units0 hF I.ok.mod.kin J (Z.ty _ _ I.kIn p) hn hs hf ?_
  refine wpAny_mono (run_fnA (A := X.A) (us := [.ref a, u]) (vs := [.ref a, y]) F hr rfl hb hx I (.cons rfl (.cons ry .nil)) q) (fun w s' z => ?_) fun _ _ x => x
  obtain ⟨z', H', I', rz, qz⟩ := z
  exact SlX.cmpback rz ⟨z', H', I', rz, qz⟩
end
section
variable {prog : Program} {w : World} {A : Around} {E : Value → Shared → Prop} {s : Shared} {K : PySem.W.Frag} {x C f : Addr} {ox : Obj} {od : Option Obj} {b tb : Value}
open PySem.Builtin in
/-- a special method that is a built-in's, where it may be left unbound -/
theorem ifBoundB {name : Str} {id : String} {args : List Value} {Q : Option Value → Shared → Prop} (X : K.In s.heap) (I : PySem.W.InstAt s.heap x ox C od) (hs : PySem.W.findIn K (.ref C) name = some (some (.builtin id)))
    (hb : ∀ self, bindSpecial (.builtin id) self = pure (.builtin id, [self])) (h : wpAny (model prog w) A (call (.builtin id) (.ref x :: args)) (fun v => Q (some v)) E s) : wpAny (model prog w) A (callSpecialIfBound? (.ref x) name args) Q E s := by
  simp only [callSpecialIfBound?, bindSpecialIfBound?]
  refine wpAny_holding (wpAny_bind (wpAny_bind (wpAny_bind (I.type.here ((looks_findIn X hs).here ?_)))))
  refine wpAny_bind (wpAny_askSetting (wpAny_ite ?_))
  have fin : wpAny (model prog w) A (call (.builtin id) ([.ref x] ++ args) >>= fun v => pure (some v)) Q E s := wpAny_bind (wpAny_mono h (fun v s' h' => wpAny_pure h') fun _ _ h' => h')
  split
  · exact wpAny_bind ((Looks.of_pure (hb _)).here (wpAny_pure (by exact fin)))
  · exact wpAny_tryCatch (wpAny_bind ((Looks.of_pure (hb _)).here (wpAny_pure (by exact fin))))
open PySem.Builtin in
theorem objNe {Q : Value → Shared → Prop} (hu : A.in1.units < cLine) (X : K.In s.heap) (I : PySem.W.InstAt s.heap x ox C od) (hm : PySem.W.mroIn K C (.type "object") = some true) (hs : PySem.W.findIn K (.ref C) "__eq__" = some (some (.ref f))) (hf : PySem.W.isFn K (.ref f) = true)
    (h : wpAny (model prog w) A.in1 (call (.ref f) [.ref x, b]) (fun v s' => ∃ k, v = .bool k ∧ Q (.bool (!k)) s') E s) : wpAny (model prog w) A (call (.builtin "object.__ne__") [.ref x, b]) Q E s := by
  refine wpAny_call (codeAny_call_builtin (by decide +kernel) PySem.F.cmpEntry_ne (check_slot (i := "object.__ne__") (owner := "object") (n := "__ne__") (by decide +kernel) (by decide +kernel) (I.type.andThen (looks_mroIn X hm)) (PySem.F.cmpArgs_ne _ _) ?_))
  unfold Builtin.«object.__ne__»
  refine wpAny_bind (m := slotArgs "__ne__" 1 _) (wpAny_pure ?_)
  refine wpAny_bind (m := cRoomFor _ _) (wpAny_cRoomFor hu ?_)
  refine wpAny_bind (m := callSpecialIfBound? (.ref x) (Str.ofString "__eq__") _) (ifBound_K X I hs hf (wpAny_mono h (fun r s' hq => ?_) fun _ _ y => y))
  obtain ⟨k, rfl, hq⟩ := hq
  exact wpAny_bind (wpAny_truthy_bool (wpAny_pure hq))
/-- o != y, where the class says == alone -/
theorem ne_K {Q : Value → Shared → Prop} (hu : A.in1.units < cLine) (hu0 : A.units < cLine) (X : K.In s.heap) (I : PySem.W.InstAt s.heap x ox C od) (hb : Looks (model prog w) s.heap (typeOf b) tb) (hn : PySem.W.notFirst K C tb = true)
    (hm : PySem.W.mroIn K C (.type "object") = some true) (hne : PySem.W.findIn K (.ref C) "__ne__" = some (some (.builtin "object.__ne__"))) (hs : PySem.W.findIn K (.ref C) "__eq__" = some (some (.ref f))) (hf : PySem.W.isFn K (.ref f) = true)
    (h : wpAny (model prog w) A.in1 (call (.ref f) [.ref x, b]) (fun v s' => ∃ k, v = .bool k ∧ Q (.bool (!k)) s') E s) : wpAny (model prog w) A (richCompare .NotEq (.ref x) b) Q E s := by
  have one : wpAny (model prog w) A (tryCompare (.ref x) "__ne__" b) (fun r s' => ∃ v, r = some v ∧ Q v s') E s := by
    unfold tryCompare
    refine wpAny_bind (ifBoundB X I hne (by intro self; rfl) (objNe hu X I hm hs hf (wpAny_mono h (fun v s' hv => ?_) fun _ _ e => e)))
    obtain ⟨k, rfl, q⟩ := hv
    exact ⟨k, rfl, wpAny_pure ⟨_, rfl, q⟩⟩
  unfold richCompare
  simp only [oneThing_ref]
  refine wpAny_holding (wpAny_bind (wpAny_cRoomFor hu0 ?_))
  refine wpAny_bind (I.type.here (wpAny_bind (hb.here ?_)))
  split
  · rename_i q
    have e : PySem.W.subIn K tb (.ref C) = some false := by
      rcases Bool.or_eq_true_iff.mp hn with e | e
      · rw [beq_iff_eq.mp e] at q; simp at q
      · exact beq_iff_eq.mp e
    refine wpAny_bind ((looks_subIn X e).here ?_)
    simp only [Bool.false_eq_true, if_false]
    refine wpAny_bind (wpAny_mono one (fun r s' z => ?_) fun _ _ e => e)
    obtain ⟨v, rfl, hq⟩ := z
    exact wpAny_pure hq
  · refine wpAny_bind (wpAny_pure ?_)
    simp only [Bool.false_eq_true, if_false]
    refine wpAny_bind (wpAny_mono one (fun r s' z => ?_) fun _ _ e => e)
    obtain ⟨v, rfl, hq⟩ := z
    exact wpAny_pure hq
end
section
variable {X : Cx} {CX : CXT} {C g : Addr} {n : Nat} {fd : FuncData} {ps : List Str} {sp : Sp} {E : XK}
def QNot (Q : VK) : VK := fun z H' => ∃ k : Bool, z = .bl k ∧ Q (.bl (!k)) H'
theorem op_neY (hs : PySem.W.findIn X.K (.ref C) "__eq__" = some (some (.ref g))) (hf : PySem.W.isFn X.K (.ref g) = true) (hm : PySem.W.mroIn X.K C (.type "object") = some true) (hne : PySem.W.findIn X.K (.ref C) "__ne__" = some (some (.builtin "object.__ne__")))
    (F : FnOk X.prog X.w X.K X.mg X.base CX n g fd ps sp) (hb : L2.Binds X.K fd ps []) (hr : Room (n + 1) X.A) (hx : Passes CX X E) : OpR X (compareOp .NotEq) (rOwnY X.K C sp E QNot) := by
  intro pins s σ H x y v u Q I rx ry h
  obtain ⟨a, dx, fs, t, rfl, ha, ty, hn, q⟩ := h
  cases (show v = Value.ref a from rx)
  obtain ⟨od, J⟩ := inst_of I ha
  obtain ⟨P, Z, p, _⟩ := kit_of I ry ty
  show wpAny _ _ (richCompare .NotEq _ _) _ _ _
  have hr2 : Room n X.A.in1 := hr.in1
  refine ne_K (tb := t) hr2.units0 hr.units0 I.kIn J (Z.ty _ _ I.kIn p) hn hm hne hs hf ?_
  refine wpAny_mono (run_fnA (A := X.A.in1) (us := [.ref a, u]) (vs := [.ref a, y]) F hr2 rfl hb hx I (.cons rfl (.cons ry .nil)) q) (fun w s' z => ?_) fun _ _ x => x
  obtain ⟨z', H', I', rz, k, rfl, qz⟩ := z
  cases (show w = Value.bool k from rz)
  exact ⟨k, rfl, .bl (!k), H', I', rfl, qz⟩
end
/-! ### == with the object at the right: the left one's kind declines, the object's own is asked -/
section
variable {prog : Program} {w : World} {A : Around} {E : Value → Shared → Prop} {s : Shared} {K : PySem.W.Frag} {x C f : Addr} {dx : Addr} {od : Option Obj}
open PySem.Builtin
theorem int_decl (b : Int) (u : Tok) : Meets (Builtin.«int.__eq__» ⟨[.int b u, .ref x], []⟩) (fun _ R s => s.heap.get? x = some (instObj C dx) ∧ R (.ok (.ret .notImplemented)) s) :=
  .of_wp fun prog w A R s h => by obtain ⟨hp, g, d, tk, os⟩ := s; obtain ⟨hl, h⟩ := h; wp_walk using AutoSeq1.wpAny_loadPart' hl, wpAny_load hl; exact ⟨_, rfl, h⟩
theorem str_decl (b : Str) (u : Tok) : Meets (Builtin.«str.__eq__» ⟨[.str b u, .ref x], []⟩) (fun _ R s => s.heap.get? x = some (instObj C dx) ∧ R (.ok (.ret .notImplemented)) s) :=
  .of_wp fun prog w A R s h => by obtain ⟨hp, g, d, tk, os⟩ := s; obtain ⟨hl, h⟩ := h; wp_walk using AutoSeq1.wpAny_loadPart' hl, wpAny_load hl; exact ⟨_, rfl, h⟩
theorem none_decl : Meets (Builtin.«NoneType.__eq__» ⟨[.none, .ref x], []⟩) (fun _ R s => s.heap.get? x = some (instObj C dx) ∧ R (.ok (.ret .notImplemented)) s) :=
  .of_wp fun prog w A R s h => by obtain ⟨hp, g, d, tk, os⟩ := s; obtain ⟨hl, h⟩ := h; wp_walk; exact ⟨_, rfl, h⟩
theorem list_decl {l : Addr} {Q : Fin → Shared → Prop} (hi : Looks (model prog w) s.heap (isInstance (.ref x) (.type "list")) false) (h : Q (.done (.ret .notImplemented)) s) :
    wpAny (model prog w) A (Builtin.«list.__eq__» ⟨[.ref l, .ref x], []⟩) Q E s := by
  refine wpAny_bind (m := slotArgs "__eq__" 1 _) (wpAny_pure ?_)
  refine wpAny_bind (hi.here ?_)
  exact wpAny_pure h
theorem tuple_decl {l : Addr} {Q : Fin → Shared → Prop} (hi : Looks (model prog w) s.heap (isInstance (.ref x) (.type "tuple")) false) (h : Q (.done (.ret .notImplemented)) s) :
    wpAny (model prog w) A (Builtin.«tuple.__eq__» ⟨[.ref l, .ref x], []⟩) Q E s := by
  refine wpAny_bind (m := slotArgs "__eq__" 1 _) (wpAny_pure ?_)
  refine wpAny_bind (hi.here ?_)
  exact wpAny_pure h
/-- the left one declines -/
def Declines (prog : Program) (w : World) (A : Around) (E : Value → Shared → Prop) (a b : Value) (s : Shared) : Prop :=
  ∀ Q : Option Value → Shared → Prop, Q none s → wpAny (model prog w) A (tryCompare a "__eq__" b) Q E s
theorem decl_of {T id : String} {B : Builtin} {a b : Value} (hT : s.TypeIs a T) (slot : Slot T (cmpInfo .Eq).2.1 id) (entry : entryFor table id = some B) (args : argsOk id ⟨[a, b], []⟩)
    (h : ∀ Q : Fin → Shared → Prop, Q (.done (.ret .notImplemented)) s → wpAny (model prog w) A.in1 (B ⟨[a, b], []⟩) Q E s) : Declines prog w A E a b s := fun Q q =>
  wpAny_tryCompare_declines hT slot (GQ.call_here slot hT entry args (h _ ⟨rfl, q⟩))
theorem decl_ofM {T id : String} {B : Builtin} {a b : Value} {P : Shared → Prop} (hT : s.TypeIs a T) (slot : Slot T (cmpInfo .Eq).2.1 id) (entry : entryFor table id = some B) (args : argsOk id ⟨[a, b], []⟩)
    (m : Meets (B ⟨[a, b], []⟩) (fun _ R s => P s ∧ R (.ok (.ret .notImplemented)) s)) (hP : P s) : Declines prog w A E a b s := fun Q q =>
  wpAny_tryCompare_declines hT slot (GQ.call_here slot hT entry args (m prog w A (wants (fun v s' => v = .notImplemented ∧ Q none s') E) s ⟨hP, rfl, q⟩))
theorem refl_K {a ta : Value} {T : String} {Q : Value → Shared → Prop} (hu : A.units < cLine) (X : K.In s.heap) (I : PySem.W.InstAt s.heap x (instObj C dx) C od) (hT : s.TypeIs a T) (hsub : PySem.W.subIn K (.ref C) (.type T) = some false)
    (d : Declines prog w A E a (.ref x) s) (hs : PySem.W.findIn K (.ref C) "__eq__" = some (some (.ref f))) (hf : PySem.W.isFn K (.ref f) = true)
    (h : wpAny (model prog w) A (call (.ref f) [.ref x, a]) (PySem.W.CmpBack Q) E s) : wpAny (model prog w) A (richCompare .Eq a (.ref x)) Q E s := by
  have one : wpAny (model prog w) A (tryCompare (.ref x) "__eq__" a) (fun r s' => ∃ v, r = some v ∧ Q v s') E s := by
    unfold tryCompare
    refine wpAny_bind (ifBound_K X I hs hf (wpAny_mono h (fun v s' hv => ?_) fun _ _ e => e))
    cases v <;> first | exact hv.elim | exact wpAny_pure ⟨_, rfl, hv⟩
  simp only [richCompare, cmpInfo, hT.oneThing_none]
  try with_reducible refine wpAny_holding ?_
  refine wpAny_bind (wpAny_cRoomFor hu ?_)
  refine wpAny_bind (wpAny_typeOf hT (wpAny_bind (I.type.here ?_)))
  rw [show (Value.type T != Value.ref C) = true from rfl]
  simp only [if_true]
  refine wpAny_bind ((looks_subIn X hsub).here ?_)
  simp only [Bool.false_eq_true, if_false, Bool.not_false, if_true]
  refine wpAny_bind (m := tryCompare a _ _) (d _ ?_)
  refine wpAny_bind (m := tryCompare (.ref x) _ _) (wpAny_mono one (fun r s' z => ?_) fun _ _ e => e)
  obtain ⟨v, rfl, hq⟩ := z
  exact wpAny_pure hq
end
section
variable {prog : Program} {w : World} {A : Around} {E : Value → Shared → Prop} {s : Shared} {x : Addr}
open PySem.Builtin
theorem dict_decl {l : Addr} {Q : Fin → Shared → Prop} (hi : Looks (model prog w) s.heap (isInstance (.ref x) (.type "dict")) false) (h : Q (.done (.ret .notImplemented)) s) :
    wpAny (model prog w) A (Builtin.«dict.__eq__» ⟨[.ref l, .ref x], []⟩) Q E s := by
  refine wpAny_bind (m := Dict.dictSlotArgs "__eq__" _) (wpAny_pure ?_)
  refine wpAny_bind (hi.here ?_)
  exact wpAny_bind (wpAny_rule (wpAny_pure h))
end
section
variable {X : Cx} {CX : CXT} {C g : Addr} {n : Nat} {fd : FuncData} {ps : List Str} {sp : Sp} {E : XK}
/-- what may stand at the left of such an object -/
inductive LeftOk (H : Hp) : V → Prop where
  | non : LeftOk H .non
  | int (i : Int) : LeftOk H (.int i)
  | str (z : Str) : LeftOk H (.str z)
  | lst {p : Addr} {xs : List V} (h : H p = some (.lst xs)) : LeftOk H (.ref p)
  | tup {p : Addr} {xs : List V} (h : H p = some (.tup xs)) : LeftOk H (.ref p)
  | dK {p : Addr} {kvs : List (Key × V)} (h : H p = some (.dK kvs)) : LeftOk H (.ref p)
/-- the class is under none of Python's -/
structure NotSub (K : PySem.W.Frag) (C : Addr) : Prop where
  non : PySem.W.subIn K (.ref C) (.type "NoneType") = some false
  int : PySem.W.subIn K (.ref C) (.type "int") = some false
  str : PySem.W.subIn K (.ref C) (.type "str") = some false
  lst : PySem.W.subIn K (.ref C) (.type "list") = some false
  tup : PySem.W.subIn K (.ref C) (.type "tuple") = some false
  dct : PySem.W.subIn K (.ref C) (.type "dict") = some false
def rOwnR (C : Addr) (sp : Sp) (E : XK) : R2 := fun x y H Q => ∃ a dx fs, y = .ref a ∧ H a = some (.ins C dx fs) ∧ LeftOk H x ∧ sp [y, x] H Q E
theorem op_eqR (hs : PySem.W.findIn X.K (.ref C) "__eq__" = some (some (.ref g))) (hf : PySem.W.isFn X.K (.ref g) = true) (N : NotSub X.K C) (G : FnOk X.prog X.w X.K X.mg X.base CX n g fd ps sp) (hb : L2.Binds X.K fd ps [])
    (hr : Room n X.A) (hx : Passes CX X E) : OpR X (compareOp .Eq) (rOwnR C sp E) := by
  intro pins s σ H x y v u Q I rx ry h
  obtain ⟨a, dx, fs, rfl, ha, lo, q⟩ := h
  cases (show u = Value.ref a from ry)
  obtain ⟨od, J⟩ := inst_of I ha
  have hx0 : s.heap.get? a = some (instObj C dx) := J.at_
  show wpAny _ _ (richCompare .Eq _ _) _ _ _
  have fin : wpAny (model X.prog X.w) X.A (call (.ref g) [.ref a, v]) (PySem.W.CmpBack (EP X pins σ Q)) X.xe s :=
    wpAny_mono (run_fnA (A := X.A) (us := [.ref a, v]) (vs := [.ref a, x]) G hr rfl hb hx I (.cons rfl (.cons rx .nil)) q) (fun w s' z => by obtain ⟨z', H', I', rz, qz⟩ := z; exact SlX.cmpback rz ⟨z', H', I', rz, qz⟩) fun _ _ x => x
  have isI : ∀ T : String, PySem.W.subIn X.K (.ref C) (.type T) = some false → Looks (model X.prog X.w) s.heap (isInstance (.ref a) (.type T)) false := fun T e => J.type.andThen (looks_subIn I.kIn e)
  cases lo with
  | non =>
    cases (show v = Value.none from rx)
    exact refl_K (T := "NoneType") (ta := .none) hr.units0 I.kIn J rfl N.non (decl_ofM rfl F.slot_NoneType_eq F.entry_NoneType_eq (F.args_NoneType_eq_2 _ _) none_decl hx0) hs hf fin
  | int i =>
    obtain ⟨t, rfl⟩ := (show ∃ t, v = Value.int i t from rx)
    exact refl_K (T := "int") (ta := .none) hr.units0 I.kIn J (typeIs_int _ _ _) N.int (decl_ofM (typeIs_int _ _ _) F.slot_int_eq F.entry_int_eq (F.args_int_eq_2 _ _) (int_decl _ _) hx0) hs hf fin
  | str z =>
    obtain ⟨t, rfl⟩ := (show ∃ t, v = Value.str z t from rx)
    exact refl_K (T := "str") (ta := .none) hr.units0 I.kIn J (typeIs_str _ _ _) N.str (decl_ofM (typeIs_str _ _ _) F.slot_str_eq F.entry_str_eq (F.args_str_eq_2 _ _) (str_decl _ _) hx0) hs hf fin
  | @lst p xs h =>
    cases (show v = Value.ref p from rx)
    obtain ⟨_, its, k, _, hp⟩ := (show ObjOk X.prog X.w H s.heap p (.lst xs) from I.hok p _ h)
    have hT : s.TypeIs (.ref p) "list" := ⟨_, hp, rfl⟩
    exact refl_K (T := "list") (ta := .none) hr.units0 I.kIn J hT N.lst (decl_of hT F.slot_list_eq F.entry_list_eq (F.args_list_eq_2 _ _) fun Q' q' => list_decl (isI _ N.lst) q') hs hf fin
  | @tup p xs h =>
    cases (show v = Value.ref p from rx)
    obtain ⟨_, its, _, o, h1, h2, _⟩ := (show ObjOk X.prog X.w H s.heap p (.tup xs) from I.hok p _ h)
    have hT : s.TypeIs (.ref p) "tuple" := ⟨_, h1, h2⟩
    exact refl_K (T := "tuple") (ta := .none) hr.units0 I.kIn J hT N.tup (decl_of hT F.slot_tuple_eq F.entry_tuple_eq (F.args_tuple_eq_2 _ _) fun Q' q' => tuple_decl (isI _ N.tup) q') hs hf fin
  | @dK p kvs h =>
    cases (show v = Value.ref p from rx)
    obtain ⟨_, _, vs, _, o, es, ep, h1, h2, _⟩ := (show ObjOk X.prog X.w H s.heap p (.dK kvs) from I.hok p _ h)
    have hT : s.TypeIs (.ref p) "dict" := ⟨_, h1, h2.1⟩
    exact refl_K (T := "dict") (ta := .none) hr.units0 I.kIn J hT N.dct (decl_of hT F.slot_dict_eq F.entry_dict_eq (F.args_dict_eq_2 _ _) fun Q' q' => dict_decl (isI _ N.dct) q') hs hf fin
end
/-! ### in, count, index over a list, each == by the object's own -/
section
open SeqAt AutoSeq1 MeetsSeq MeetsSeq2 MeetsSeq3 SeqRoads2
open PySem.Builtin
variable {prog : Program} {w : World} {A : Around} {R : Result → Shared → Prop}
/-- at each turn the list is read anew, the turn's == gives bs i -/
def LoopB (prog : Program) (w : World) (A : Around) (E : Value → Shared → Prop) (l : Addr) (x : Value) (N : Nat) (bs : Nat → Bool) (I : Nat → Shared → Prop) : Prop :=
  ∀ i s, I i s → ∃ (items : Array Value) (n : Nat), s.heap.get? l = some { cls := .type "list", data := .seq items n } ∧ items.size = N ∧
    ∀ (h1 : i < items.size), wpAny (model prog w) A.in1 (eqBool items[i] x) (fun r s' => r = bs i ∧ I (i + 1) s') E s
def cntB (bs : Nat → Bool) : Nat → Nat → Int
  | 0, _ => 0
  | k + 1, i => (if bs i then 1 else 0) + cntB bs k (i + 1)
theorem count_loopG (l : Addr) (x : Value) (N : Nat) (bs : Nat → Bool) (I : Nat → Shared → Prop) (hl : LoopB prog w A (fun e s' => R (.error e) s') l x N bs I) (k : Nat) :
    ∀ (i : Nat) (found : Int), N - i = k → i ≤ N → ∀ s, I i s → (∀ s, I N s → R (.ok (.ret (.int (found + cntB bs k i) s.toks))) { s with toks := s.toks + 1 }) →
      wpAny (model prog w) A.in1 (Builtin.«list.count.loop» ⟨[.ref l, x, rawInt i, rawInt found], []⟩) (GQ.FinOf prog w A R) (fun e s' => R (.error e) s') s := by
  induction k with
  | zero =>
    intro i found hk hi s h fin
    obtain ⟨items, n, hl1, hs1, _⟩ := hl _ _ h
    have hi' : i = N := by omega
    have hR := fin s (hi' ▸ h)
    obtain ⟨hp, g, d, tk, os⟩ := s
    wp_walk using wpAny_loadPart' hl1
    have hi1 : items[((i : Nat) : Int).toNat]? = none := by simp; omega
    rw [hi1]
    wp_walk
    have e0 : found + cntB bs 0 i = found := by show found + 0 = found; omega
    rw [e0] at hR
    exact hR
  | succ k ih =>
    intro i found hk hi s h fin
    obtain ⟨items, n, hl1, hs1, turn⟩ := hl _ _ h
    have hlt : i < items.size := by omega
    have ht := turn hlt
    obtain ⟨hp, g, d, tk, os⟩ := s
    wp_walk using wpAny_loadPart' hl1
    have hi1 : items[((i : Nat) : Int).toNat]? = some items[i] := by simp [hlt]
    have hc : ((i : Int) + 1) = ((i + 1 : Nat) : Int) := by omega
    rw [hi1]
    refine wpAny_bind (wpAny_mono ht (fun r s2 h2 => ?_) fun _ _ x => x)
    obtain ⟨hr, h2⟩ := h2
    subst hr
    have e1 : (if bs i = true then found + 1 else found) + cntB bs k (i + 1) = found + cntB bs (k + 1) i := by
      show _ = found + ((if bs i then 1 else 0) + cntB bs k (i + 1))
      cases bs i <;> simp <;> omega
    have hrec := ih (i + 1) (if bs i = true then found + 1 else found) (by omega) (by omega) s2 h2 (fun s q => by rw [e1]; exact fin s q)
    obtain ⟨hp2, g2, d2, tk2, os2⟩ := s2
    wp_walk
    rw [hc]
    refine ⟨plainId_quiet plain_count_loop _, codeAny_builtin entry_count_loop (by
      rw [Around.under_plainId plain_count_loop _]

      exact hrec)⟩
end
section
open SeqAt AutoSeq1 MeetsSeq MeetsSeq2 MeetsSeq3 SeqRoads2
open PySem.Builtin
variable {prog : Program} {w : World} {A : Around} {R : Result → Shared → Prop}
theorem list_countG (l : Addr) (x : Value) (N : Nat) (bs : Nat → Bool) (I : Nat → Shared → Prop) (hl : LoopB prog w A (fun e s' => R (.error e) s') l x N bs I) {s : Shared} (h : I 0 s)
    (fin : ∀ s, I N s → R (.ok (.ret (.int (cntB bs N 0) s.toks))) { s with toks := s.toks + 1 }) :
    wpAny (model prog w) A.in1 (Builtin.«list.count» ⟨[.ref l, x], []⟩) (GQ.FinOf prog w A R) (fun e s' => R (.error e) s') s := by
  obtain ⟨items, n, hl1, hs1, _⟩ := hl _ _ h
  have hrec := count_loopG (A := A) (R := R) l x N bs I hl N 0 0 rfl (Nat.zero_le _) s h (fun s q => by rw [Int.zero_add]; exact fin s q)
  obtain ⟨hp, g, d, tk, os⟩ := s
  wp_walk using wpAny_loadPart' hl1
  exact ⟨plainId_quiet plain_count_loop _, codeAny_builtin entry_count_loop (by
    rw [Around.under_plainId plain_count_loop _]
    exact hrec)⟩
theorem index_loopG (l : Addr) (x : Value) (N : Nat) (bs : Nat → Bool) (I : Nat → Shared → Prop) (hl : LoopB prog w A (fun e s' => R (.error e) s') l x N bs I) (upto : Int) (j : Nat) (hj : j < N) (hupto : (j : Int) < upto) (hit : bs j = true)
    (fin : ∀ s, I (j + 1) s → R (.ok (.ret (.int j s.toks))) { s with toks := s.toks + 1 }) (k : Nat) :
    ∀ i : Nat, j - i = k → i ≤ j → (∀ m, i ≤ m → m < j → bs m = false) → ∀ s, I i s →
      wpAny (model prog w) A.in1 (Builtin.«list.index.loop» ⟨[.ref l, x, rawInt i, rawInt upto], []⟩) (GQ.FinOf prog w A R) (fun e s' => R (.error e) s') s := by
  induction k with
  | zero =>
    intro i hk hij hno s h
    have hij' : i = j := by omega
    subst hij'
    obtain ⟨items, n, hl1, hs1, turn⟩ := hl _ _ h
    have hlt : i < items.size := by omega
    have ht := turn hlt
    obtain ⟨hp, g, d, tk, os⟩ := s
    wp_walk using wpAny_loadPart' hl1
    have hi : (if (i : Int) < upto then items[((i : Nat) : Int).toNat]? else none) = some items[i] := by simp [hupto, hlt]
    rw [hi]
    refine wpAny_bind (wpAny_mono ht (fun r s2 h2 => ?_) fun _ _ x => x)
    obtain ⟨hr, h2⟩ := h2
    subst hr
    rw [hit]
    have hR := fin s2 h2
    obtain ⟨hp2, g2, d2, tk2, os2⟩ := s2
    wp_walk
    exact hR
  | succ k ih =>
    intro i hk hij hno s h
    obtain ⟨items, n, hl1, hs1, turn⟩ := hl _ _ h
    have hlt : i < items.size := by omega
    have hst : (i : Int) < upto := by omega
    have ht := turn hlt
    obtain ⟨hp, g, d, tk, os⟩ := s
    wp_walk using wpAny_loadPart' hl1
    have hi : (if (i : Int) < upto then items[((i : Nat) : Int).toNat]? else none) = some items[i] := by simp [hst, hlt]
    have hc : ((i : Int) + 1) = ((i + 1 : Nat) : Int) := by omega
    rw [hi]
    refine wpAny_bind (wpAny_mono ht (fun r s2 h2 => ?_) fun _ _ x => x)
    obtain ⟨hr, h2⟩ := h2
    subst hr
    rw [hno i (Nat.le_refl _) (by omega)]
    have hrec := ih (i + 1) (by omega) (by omega) (fun m h1 h2 => hno m (by omega) h2) s2 h2
    obtain ⟨hp2, g2, d2, tk2, os2⟩ := s2
    wp_walk
    rw [hc]
    exact ⟨plainId_quiet plain_index_loop _, codeAny_builtin entry_index_loop (by
      rw [Around.under_plainId plain_index_loop _]
      exact hrec)⟩
theorem list_indexG (l : Addr) (x : Value) (N : Nat) (bs : Nat → Bool) (I : Nat → Shared → Prop) (hl : LoopB prog w A (fun e s' => R (.error e) s') l x N bs I) (j : Nat) (hj : j < N) (hsmall : (j : Int) < 2 ^ 63 - 1) (hit : bs j = true) (hno : ∀ m, m < j → bs m = false)
    (fin : ∀ s, I (j + 1) s → R (.ok (.ret (.int j s.toks))) { s with toks := s.toks + 1 }) {s : Shared} (h : I 0 s) :
    wpAny (model prog w) A.in1 (Builtin.«list.index» ⟨[.ref l, x], []⟩) (GQ.FinOf prog w A R) (fun e s' => R (.error e) s') s := by
  obtain ⟨items, n, hl1, hs1, _⟩ := hl _ _ h
  have hrec := index_loopG (A := A) (R := R) l x N bs I hl (2 ^ 63 - 1) j hj hsmall hit fin j 0 (by omega) (Nat.zero_le _) (fun m _ h2 => hno m h2) s h
  obtain ⟨hp, g, d, tk, os⟩ := s
  wp_walk using wpAny_loadPart' hl1
  have a1 : ((fun i : Int => if i < 0 then max 0 (i + (items.size : Int)) else i) ((none : Option Int).getD 0)) = ((0 : Nat) : Int) := by simp
  have a2 : ((fun i : Int => if i < 0 then max 0 (i + (items.size : Int)) else i) ((none : Option Int).getD (2 ^ 63 - 1))) = 2 ^ 63 - 1 := by simp
  rw [a1, a2]
  exact ⟨plainId_quiet plain_index_loop _, codeAny_builtin entry_index_loop (by
    rw [Around.under_plainId plain_index_loop _]
    exact hrec)⟩
theorem contains_loopG (l : Addr) (x : Value) (N : Nat) (bs : Nat → Bool) (I : Nat → Shared → Prop) (hl : LoopB prog w A (fun e s' => R (.error e) s') l x N bs I) (j : Nat) (hj : j < N) (hit : bs j = true)
    (fin : ∀ s, I (j + 1) s → R (.ok (.ret (.bool true))) s) (k : Nat) :
    ∀ i : Nat, j - i = k → i ≤ j → (∀ m, i ≤ m → m < j → bs m = false) → ∀ s, I i s →
      wpAny (model prog w) A.in1 (Builtin.«list.__contains__.loop» ⟨[.ref l, x, rawInt i], []⟩) (GQ.FinOf prog w A R) (fun e s' => R (.error e) s') s := by
  induction k with
  | zero =>
    intro i hk hij hno s h
    have hij' : i = j := by omega
    subst hij'
    obtain ⟨items, n, hl1, hs1, turn⟩ := hl _ _ h
    have hlt : i < items.size := by omega
    have ht := turn hlt
    obtain ⟨hp, g, d, tk, os⟩ := s
    wp_walk using wpAny_loadPart' hl1
    have hi : items[((i : Nat) : Int).toNat]? = some items[i] := by simp [hlt]
    rw [hi]
    refine wpAny_bind (wpAny_mono ht (fun r s2 h2 => ?_) fun _ _ x => x)
    obtain ⟨hr, h2⟩ := h2
    subst hr
    rw [hit]
    have hR := fin s2 h2
    obtain ⟨hp2, g2, d2, tk2, os2⟩ := s2
    wp_walk
    exact hR
  | succ k ih =>
    intro i hk hij hno s h
    obtain ⟨items, n, hl1, hs1, turn⟩ := hl _ _ h
    have hlt : i < items.size := by omega
    have ht := turn hlt
    obtain ⟨hp, g, d, tk, os⟩ := s
    wp_walk using wpAny_loadPart' hl1
    have hi : items[((i : Nat) : Int).toNat]? = some items[i] := by simp [hlt]
    have hc : ((i : Int) + 1) = ((i + 1 : Nat) : Int) := by omega
    rw [hi]
    refine wpAny_bind (wpAny_mono ht (fun r s2 h2 => ?_) fun _ _ x => x)
    obtain ⟨hr, h2⟩ := h2
    subst hr
    rw [hno i (Nat.le_refl _) (by omega)]
    have hrec := ih (i + 1) (by omega) (by omega) (fun m h1 h2 => hno m (by omega) h2) s2 h2
    obtain ⟨hp2, g2, d2, tk2, os2⟩ := s2
    wp_walk
    rw [hc]
    exact ⟨plainId_quiet plain_contains_loop _, codeAny_builtin entry_contains_loop (by
      rw [Around.under_plainId plain_contains_loop _]
      exact hrec)⟩
theorem list_containsG (l : Addr) (x : Value) (N : Nat) (bs : Nat → Bool) (I : Nat → Shared → Prop) (hl : LoopB prog w A (fun e s' => R (.error e) s') l x N bs I) (j : Nat) (hj : j < N) (hit : bs j = true) (hno : ∀ m, m < j → bs m = false)
    (fin : ∀ s, I (j + 1) s → R (.ok (.ret (.bool true))) s) {s : Shared} (h : I 0 s) :
    wpAny (model prog w) A.in1 (Builtin.«list.__contains__» ⟨[.ref l, x], []⟩) (GQ.FinOf prog w A R) (fun e s' => R (.error e) s') s := by
  obtain ⟨items, n, hl1, hs1, _⟩ := hl _ _ h
  have hrec := contains_loopG (A := A) (R := R) l x N bs I hl j hj hit fin j 0 (by omega) (Nat.zero_le _) (fun m _ h2 => hno m h2) s h
  obtain ⟨hp, g, d, tk, os⟩ := s
  wp_walk using wpAny_loadPart' hl1
  exact ⟨plainId_quiet plain_contains_loop _, codeAny_builtin entry_contains_loop (by
    rw [Around.under_plainId plain_contains_loop _]
    exact hrec)⟩
end
section
open SeqAt
variable {X : Cx} {CX : CXT} {C g : Addr} {n : Nat} {fd : FuncData} {ps : List Str} {sp : Sp} {E : XK}
/-- what an own == tells: (x, y) are known, the answer is b, only new objects come -/
def EqB (X : Cx) (n : Nat) (D : V → V → Hp → Bool → Prop) : Prop :=
  ∀ (A : Around) (pins : List (Addr × Obj)) (s : Shared) (σ : L2.St) (H : Hp) (x y : V) (u v : Value) (b : Bool), L2.Sub X n A → L2.Inv X pins σ H s → RelV x u → RelV y v → D x y H b →
    wpAny (model X.prog X.w) A (eqBool u v) (fun r s' => r = b ∧ ∃ H', L2.Inv X pins σ H' s' ∧ Same H H') X.xe s
/-- the promise of such an __eq__ -/
def spEqB (D : V → V → Hp → Bool → Prop) : Sp := fun vs H Q _ => ∃ (x y : V) (b : Bool), vs = [x, y] ∧ D x y H b ∧ ∀ H', Same H H' → Q (.bl b) H'
/-- both are objects of the class; of one and itself the answer is True -/
structure DOk (C : Addr) (D : V → V → Hp → Bool → Prop) : Prop where
  ins : ∀ x y H b, D x y H b → ∃ a dx fs a' dx' fs', x = .ref a ∧ H a = some (.ins C dx fs) ∧ y = .ref a' ∧ H a' = some (.ins C dx' fs')
  self : ∀ x H b, D x x H b → b = true
  mono : ∀ x y H H' b, Same H H' → D x y H b → D x y H' b
theorem eqB_ins {D : V → V → Hp → Bool → Prop} (O : DOk C D) (hs : PySem.W.findIn X.K (.ref C) "__eq__" = some (some (.ref g))) (hf : PySem.W.isFn X.K (.ref g) = true) (hn : PySem.W.notFirst X.K C (.ref C) = true)
    (F : FnOk X.prog X.w X.K X.mg X.base CX n g fd ps (spEqB D)) (hb : L2.Binds X.K fd ps []) (hx : Passes CX X E0) : EqB X n D := by
  intro A pins s σ H x y u v b sb I rx ry d
  obtain ⟨a, dx, fs, a', dx', fs', rfl, ha, rfl, ha'⟩ := O.ins x y H b d
  cases (show u = Value.ref a from rx)
  cases (show v = Value.ref a' from ry)
  by_cases e : a = a'
  · subst e
    have e2 := O.self _ _ _ d
    subst e2
    unfold eqBool
    refine wpAny_holding ?_
    simp only [beq_self_eq_true, if_true]
    refine wpAny_bind (wpAny_rule (wpAny_pure ?_))
    exact ⟨rfl, H, I, fun _ _ e => e⟩
  · obtain ⟨od, J⟩ := inst_of I ha
    obtain ⟨od', J'⟩ := inst_of I ha'
    obtain ⟨m, hF⟩ := I.fr
    refine GQ.eqBool_refG e (PySem.W.cmp_K (op := .Eq) (tb := .ref C) sb.room.units0 hF I.ok.mod.kin J J'.type hn hs hf ?_)
    refine wpAny_mono (run_fnA (A := A) (us := [.ref a, .ref a']) (vs := [.ref a, .ref a']) (Q := fun z H' => z = .bl b ∧ Same H H') F sb.room sb.fr hb hx I (.cons rfl (.cons rfl .nil)) ⟨_, _, b, rfl, d, fun H' k => ⟨rfl, k⟩⟩) (fun w s' z => ?_) fun _ _ x => x
    obtain ⟨z', H', I', rz, rfl, k⟩ := z
    cases (show w = Value.bool b from rz)
    exact ⟨b, rfl, rfl, H', I', k⟩
theorem loopB_of {D : V → V → Hp → Bool → Prop} (O : DOk C D) (e : EqB X n D) {A : Around} (sb : L2.Sub X (n + 1) A) {pins : List (Addr × Obj)} {σ : L2.St} {H : Hp} {l : Addr} {xs : List V} {x : V} {u : Value} {bs : Nat → Bool} (hl : H l = some (.lst xs)) (ru : RelV x u)
    (hd : ∀ i y, xs[i]? = some y → D y x H (bs i)) : LoopB X.prog X.w A X.xe l u xs.length bs (fun _ s' => ∃ H', L2.Inv X pins σ H' s' ∧ Same H H') := by
  rintro i s ⟨H', I, k⟩
  obtain ⟨_, its, m, r, hp⟩ := (show ObjOk X.prog X.w H' s.heap l (.lst xs) from I.hok l _ (k _ _ hl))
  refine ⟨its.toArray, m, hp, by simpa using r.length.symm, fun h1 => ?_⟩
  have h1' : i < its.length := by simpa using h1
  have hix : i < xs.length := by rw [r.length]; exact h1'
  obtain ⟨v, hv, rv⟩ := r.get (List.getElem?_eq_getElem hix)
  have ev : its.toArray[i] = v := by
    rw [List.getElem?_eq_getElem h1'] at hv
    simpa using hv
  rw [ev]
  refine wpAny_mono (e A.in1 pins s σ H' _ _ _ _ (bs i) sb.in1 I rv ru (O.mono _ _ _ _ _ k (hd i _ (List.getElem?_eq_getElem hix)))) (fun r s' z => ?_) fun _ _ x => x
  obtain ⟨hr, H2, I2, k2⟩ := z
  exact ⟨hr, H2, I2, k.trans k2⟩
theorem sub_here (hr : Room n X.A) : L2.Sub X n X.A := ⟨hr, rfl⟩
def rCntB (D : V → V → Hp → Bool → Prop) : V → List V → Hp → VK → Prop := fun x xs H Q => ∃ (l : Addr) (ys : List V) (y : V) (bs : Nat → Bool), x = .ref l ∧ xs = [y] ∧ H l = some (.lst ys) ∧ (∀ i z, ys[i]? = some z → D z y H (bs i)) ∧ ∀ H', Same H H' → Q (.int (cntB bs ys.length 0)) H'
theorem mt_countB {D : V → V → Hp → Bool → Prop} (O : DOk C D) (e : EqB X n D) (hr : Room (n + 1) X.A) : MtR X "list.count" (rCntB D) := by
  intro pins s σ H x xs v us Q I rx rxs h
  obtain ⟨l, ys, y, bs, rfl, rfl, hl, hd, q⟩ := h
  cases (show v = Value.ref l from rx)
  obtain ⟨u, rfl, ru⟩ := rxs.one
  obtain ⟨_, its, m, _, hp⟩ := (show ObjOk X.prog X.w H s.heap l (.lst ys) from I.hok l _ hl)
  refine GQ.call_here F.slot_list_count ⟨_, hp, rfl⟩ F.entry_list_count (F.args_list_count_2 _ _) ?_
  refine list_countG l u ys.length bs (fun _ s' => ∃ H', L2.Inv X pins σ H' s' ∧ Same H H') (loopB_of O e (sub_here hr) (pins := pins) (σ := σ) hl ru hd) ⟨H, I, fun _ _ e => e⟩ fun s' z => ?_
  obtain ⟨H', I', k⟩ := z
  exact ⟨.int _, H', I'.tok _, ⟨_, rfl⟩, q H' k⟩
def rIdxB (D : V → V → Hp → Bool → Prop) : V → List V → Hp → VK → Prop := fun x xs H Q => ∃ (l : Addr) (ys : List V) (y : V) (bs : Nat → Bool) (j : Nat), x = .ref l ∧ xs = [y] ∧ H l = some (.lst ys) ∧ (∀ i z, ys[i]? = some z → D z y H (bs i)) ∧ j < ys.length ∧ j < 1000000 ∧ bs j = true ∧ (∀ m, m < j → bs m = false) ∧ ∀ H', Same H H' → Q (.int (j : Nat)) H'
theorem mt_indexB {D : V → V → Hp → Bool → Prop} (O : DOk C D) (e : EqB X n D) (hr : Room (n + 1) X.A) : MtR X "list.index" (rIdxB D) := by
  intro pins s σ H x xs v us Q I rx rxs h
  obtain ⟨l, ys, y, bs, j, rfl, rfl, hl, hd, hj, hj2, hit, hno, q⟩ := h
  cases (show v = Value.ref l from rx)
  obtain ⟨u, rfl, ru⟩ := rxs.one
  obtain ⟨_, its, m, _, hp⟩ := (show ObjOk X.prog X.w H s.heap l (.lst ys) from I.hok l _ hl)
  refine GQ.call_here F.slot_list_index ⟨_, hp, rfl⟩ F.entry_list_index (F.args_list_index_2 _ _) ?_
  refine list_indexG l u ys.length bs (fun _ s' => ∃ H', L2.Inv X pins σ H' s' ∧ Same H H') (loopB_of O e (sub_here hr) (pins := pins) (σ := σ) hl ru hd) j hj (by omega) hit hno (fun s' z => ?_) ⟨H, I, fun _ _ e => e⟩
  obtain ⟨H', I', k⟩ := z
  exact ⟨.int _, H', I'.tok _, ⟨_, rfl⟩, q H' k⟩
def rInB (D : V → V → Hp → Bool → Prop) : R2 := fun y x H Q => ∃ (l : Addr) (ys : List V) (bs : Nat → Bool) (j : Nat), x = .ref l ∧ H l = some (.lst ys) ∧ (∀ i z, ys[i]? = some z → D z y H (bs i)) ∧ j < ys.length ∧ bs j = true ∧ (∀ m, m < j → bs m = false) ∧ ∀ H', Same H H' → Q (.bl true) H'
/-- y in xs, where it is -/
theorem op_inB {D : V → V → Hp → Bool → Prop} (O : DOk C D) (e : EqB X n D) (hr : Room (n + 1) X.A) : OpR X (compareOp .In) (rInB D) := by
  intro pins s σ H y x u v Q I ru rx h
  obtain ⟨l, ys, bs, j, rfl, hl, hd, hj, hit, hno, q⟩ := h
  cases (show v = Value.ref l from rx)
  obtain ⟨_, its, m, _, hp⟩ := (show ObjOk X.prog X.w H s.heap l (.lst ys) from I.hok l _ hl)
  show wpAny _ X.A (do return Value.bool (← PySem.contains (.ref l) u)) _ _ s
  have hT : s.TypeIs (.ref l) "list" := ⟨_, hp, rfl⟩
  refine wpAny_bind (wpAny_contains_slot hT F.slot_list_contains (wpAny_mono (GQ.call_here (Q := fun v s' => v = .bool true ∧ ∃ H', L2.Inv X pins σ H' s' ∧ Same H H') (E := X.xe) F.slot_list_contains hT F.entry_list_contains (F.args_list_contains_2 _ _)
    (list_containsG l u ys.length bs (fun _ s' => ∃ H', L2.Inv X pins σ H' s' ∧ Same H H') (loopB_of O e (sub_here hr) (pins := pins) (σ := σ) hl ru hd) j hj hit hno (fun s' z => ⟨rfl, z⟩) ⟨H, I, fun _ _ e => e⟩)) (fun v s' hv => ?_) fun _ _ e => e))
  obtain ⟨rfl, H', I', k⟩ := hv
  exact wpAny_truthy_bool (wpAny_pure ⟨.bl true, H', I', rfl, q H' k⟩)
end
/-! ### objects of an own class: len and truth by an own __len__; the length of a range -/
section
variable {prog : Program} {w : World} {A : Around} {E : Value → Shared → Prop} {s : Shared} {K : PySem.W.Frag} {x C f : Addr} {ox : Obj} {od : Option Obj}
theorem len_bodyK {Q : Value → Shared → Prop} (X : K.In s.heap) (I : PySem.W.InstAt s.heap x ox C od) (hs : PySem.W.findIn K (.ref C) "__len__" = some (some (.ref f))) (hf : PySem.W.isFn K (.ref f) = true)
    (h : wpAny (model prog w) A (call (.ref f) [.ref x]) (PySem.W.LenBack Q) E s) : wpAny (model prog w) A (Builtin.«len» ⟨[.ref x], []⟩) (fun fin s' => ∃ v, fin = .done (.ret v) ∧ Q v s') E s := by
  unfold Builtin.«len»
  refine wpAny_bind (m := oneArg "len" _) (wpAny_pure ?_)
  refine wpAny_bind (m := callSpecial? (.ref x) (Str.ofString "__len__")) (PySem.W.special_fn X I hs (beq_iff_eq.mp hf) (wpAny_mono h ?_ fun _ _ y => y))
  intro r s' hr
  match r, hr with
  | .int n u, ⟨⟨h0, h1⟩, hq⟩ =>
    refine wpAny_bind (wpAny_holding (wpAny_pure ?_))
    refine wpAny_bind (wpAny_letGo ?_)
    show wpAny _ _ (if n < 0 then _ else _) _ _ _
    rw [if_neg (by omega)]
    show wpAny _ _ (if n ≥ 2 ^ 63 then _ else _) _ _ _
    rw [if_neg (by omega)]
    exact wpAny_bind (wpAny_mkInt (wpAny_pure ⟨_, rfl, hq⟩))
theorem truthy_len {Q : Bool → Shared → Prop} (X : K.In s.heap) (I : PySem.W.InstAt s.heap x ox C od) (hb : PySem.W.findIn K (.ref C) "__bool__" = some none) (hs : PySem.W.findIn K (.ref C) "__len__" = some (some (.ref f))) (hf : PySem.W.isFn K (.ref f) = true)
    (h : wpAny (model prog w) A.in1 (call (.ref f) [.ref x]) (PySem.W.LenBack fun v s' => ∃ n t, v = .int n t ∧ Q (n != 0) s') E s) : wpAny (model prog w) A (truthy (.ref x)) Q E s := by
  unfold truthy
  refine wpAny_bind (m := callSpecial? (.ref x) (Str.ofString "__bool__")) (wpAny_bind (wpAny_bind (I.type.here ((PySem.W.looks_findIn X hb).here (wpAny_pure ?_)))))
  refine wpAny_bind (wpAny_bind (I.type.here ((PySem.W.looks_findIn X hs).here ?_)))
  show wpAny _ _ (runValue (.builtin "len" ⟨[.ref x], []⟩) >>= _) _ _ _
  refine wpAny_bind (wpAny_runValue (codeAny_builtin PySem.entry_len ?_))
  rw [Around.under_plainId PySem.plain_len _]
  refine wpAny_mono (len_bodyK X I hs hf h) ?_ (fun _ _ y => y)
  rintro fin s' ⟨v, rfl, n, t, rfl, q⟩
  exact wpAny_pure q
theorem bool_own {Q : Value → Shared → Prop} (h : wpAny (model prog w) A.in1.in1 (truthy (.ref x)) (fun b s' => Q (.bool b) s') E s) : wpAny (model prog w) A (call (.type "bool") [.ref x]) Q E s := by
  have g : MeetsIn prog w (Builtin.«bool.__new__» ⟨[.type "bool", .ref x], []⟩) (fun A R s => wpAny (model prog w) A.in1 (truthy (.ref x)) (fun b s' => R (.ok (.ret (.bool b))) s') (fun e s' => R (.error e) s') s) := by
    intro A R s hs
    obtain ⟨hp, g, d, tk, os⟩ := s
    have f1 := F.conv_sub_bool
    have hs2 : wpAny (model prog w) A.in1 (truthy (.ref x)) (fun b s' => wpAny (model prog w) A.in1 (ret (.bool b) : Sem Fin) (fun fin s' => match fin with | .done f => R (.ok f) s' | .again c' => c'.quiet = true ∧ codeAny (model prog w) A c' R s') (fun e s' => R (.error e) s') s') (fun e s' => R (.error e) s') ⟨hp, g, d, tk, os⟩ :=
      wpAny_mono hs (fun b s' z => wpAny_pure z) fun _ _ z => z
    repeat (any_goals (first | assumption | exact hs2 | wp_step))
  exact callType_newIn F.called_bool F.newNe_bool (F.typeCall_bool_1 _) (F.newCall_bool_1 _) (fun obj => F.args_object_init_2 obj _) F.entry_bool_new g (wpAny_mono h (fun b s' z => ⟨rfl, z⟩) fun _ _ z => z)
end
section
variable {X : Cx} {CX : CXT} {C g : Addr} {n : Nat} {fd : FuncData} {ps : List Str} {sp : Sp} {E : XK}
def QLen (Q : VK) : VK := fun z H' => ∃ m : Int, z = .int m ∧ 0 ≤ m ∧ m < 2 ^ 62 ∧ Q (.int m) H'
def QTru (Q : VK) : VK := fun z H' => ∃ m : Int, z = .int m ∧ 0 ≤ m ∧ m < 2 ^ 62 ∧ Q (.bl (m != 0)) H'
/-- len(o), by o's own __len__ -/
theorem call_lenOwn (hs : PySem.W.findIn X.K (.ref C) "__len__" = some (some (.ref g))) (hf : PySem.W.isFn X.K (.ref g) = true) (F : FnOk X.prog X.w X.K X.mg X.base CX n g fd ps sp) (hb : L2.Binds X.K fd ps [])
    (hr : Room (n + 1) X.A) (hx : Passes CX X E) : CallR X (.builtin "len") (rOwn1 C sp E QLen) := by
  intro pins s σ H vs us Q I r h
  obtain ⟨a, dx, fs, rfl, ha, q⟩ := h
  obtain ⟨u, rfl, ru⟩ := Vals.one r
  cases (show u = Value.ref a from ru)
  obtain ⟨od, J⟩ := inst_of I ha
  obtain ⟨m, hF⟩ := I.fr
  refine PySem.W.len_K hF I.ok.mod.kin J hs hf ?_
  refine wpAny_mono (run_fnA (A := X.A.in1) (us := [.ref a]) (vs := [.ref a]) F hr.in1 rfl hb hx I (.cons rfl .nil) q) ?_ (fun _ _ x => x)
  rintro v s' ⟨z, H', I', rz, m, rfl, m0, m1, q'⟩
  obtain ⟨t, rfl⟩ := (show ∃ t, v = Value.int m t from rz)
  exact ⟨⟨m0, Int.lt_trans m1 (by decide)⟩, .int m, H', I'.tok _, ⟨_, rfl⟩, q'⟩
theorem truthyOwn (hbl : PySem.W.findIn X.K (.ref C) "__bool__" = some none) (hs : PySem.W.findIn X.K (.ref C) "__len__" = some (some (.ref g))) (hf : PySem.W.isFn X.K (.ref g) = true) (F : FnOk X.prog X.w X.K X.mg X.base CX n g fd ps sp) (hb : L2.Binds X.K fd ps [])
    {A : Around} (hr : Room (n + 1) A) (hA : A.frames = X.A.frames) (hx : Passes CX X E) {pins : List (Addr × Obj)} {σ : L2.St} {H : Hp} {s : Shared} {a dx : Addr} {fs : List (Str × V)} {Q : VK} (I : L2.Inv X pins σ H s) (ha : H a = some (.ins C dx fs))
    (q : sp [.ref a] H (QTru Q) E) : wpAny (model X.prog X.w) A (truthy (.ref a)) (fun b s' => ∃ H', L2.Inv X pins σ H' s' ∧ Q (.bl b) H') X.xe s := by
  obtain ⟨od, J⟩ := inst_of I ha
  refine truthy_len I.kIn J hbl hs hf ?_
  refine wpAny_mono (run_fnA (A := A.in1) (us := [.ref a]) (vs := [.ref a]) F hr.in1 hA hb hx I (.cons rfl .nil) q) ?_ (fun _ _ x => x)
  rintro v s' ⟨z, H', I', rz, m, rfl, m0, m1, q'⟩
  obtain ⟨t, rfl⟩ := (show ∃ t, v = Value.int m t from rz)
  exact ⟨⟨m0, Int.lt_trans m1 (by decide)⟩, m, _, rfl, H', I'.tok _, q'⟩
/-- bool(o), by o's own __len__ -/
theorem call_boolOwn (hbl : PySem.W.findIn X.K (.ref C) "__bool__" = some none) (hs : PySem.W.findIn X.K (.ref C) "__len__" = some (some (.ref g))) (hf : PySem.W.isFn X.K (.ref g) = true) (F : FnOk X.prog X.w X.K X.mg X.base CX n g fd ps sp) (hb : L2.Binds X.K fd ps [])
    (hr : Room (n + 3) X.A) (hx : Passes CX X E) : CallR X (.type "bool") (rOwn1 C sp E QTru) := by
  intro pins s σ H vs us Q I r h
  obtain ⟨a, dx, fs, rfl, ha, q⟩ := h
  obtain ⟨u, rfl, ru⟩ := Vals.one r
  cases (show u = Value.ref a from ru)
  refine bool_own (wpAny_mono (truthyOwn hbl hs hf F hb (A := X.A.in1.in1) hr.in1.in1 rfl hx I ha q) ?_ fun _ _ x => x)
  rintro b s' ⟨H', I', q'⟩
  exact ⟨.bl b, H', I', rfl, q'⟩
/-- len(range(..)) -/
def tLenRg (te : L2.St → Hp → (Int → Int → Hp → Prop) → Prop) : TE := fun σ H Q => te σ H fun a b H1 => (b - a).toNat < 2 ^ 62 ∧ Q (.int ((b - a).toNat : Nat)) H1
theorem pe_lenRg {e : Expr} {te : L2.St → Hp → (Int → Int → Hp → Prop) → Prop} {p pos : Pos} (hg : Gl X "len") (hm : X.mg "len" = none) (he : PRg X e te) (na : starEach [e] X.env = (false, eval e X.env) :: starEach [] X.env := by rfl) : PE X (.Call (.Name "len" p) [e] [] pos) (tLenRg te) := by
  constructor
  intro pins s σ H Q I h
  refine wpAny_Call_Name_kw (ld_blt I hg hm PySem.boot_len ?_ (by decide) (by decide))
  refine PyProof.Rows.callWith_builtin1 (PyProof.Rows.args_cons (thn (he pins s σ H _ I h) ?_) na) na rfl
  rintro x s1 ⟨r, a, b, t, u, v, H1, rfl, hr, I1, hz, q⟩
  refine PyProof.Rows.args_nil (call_len_range (n := (b - a).toNat) hr ?_ ?_ ⟨.int ((b - a).toNat : Nat), H1, I1.tok _, ⟨_, rfl⟩, q⟩)
  · unfold Builtin.Range.rangeSize
    rw [if_pos (by decide)]
    split
    · rw [Int.ediv_one]
      omega
    · omega
  · omega
end
section
variable {X : Cx}
theorem eqBool_bl {prog : Program} {w : World} {A : Around} {E : Value → Shared → Prop} {s : Shared} {i j : Bool} {Q : Bool → Shared → Prop} (h : Q (i == j) s) : wpAny (model prog w) A (eqBool (.bool i) (.bool j)) Q E s := by
  have key : wpAny (model prog w) A (compareOp .Eq (.bool i) (.bool j)) (fun v s' => v = .bool (i == j) ∧ s' = s) E s := PyProof.Rows.eq_bool ⟨rfl, rfl⟩
  have key2 : wpAny (model prog w) A (richCompare .Eq (.bool i) (.bool j)) (fun v s' => v = .bool (i == j) ∧ s' = s) E s := key
  unfold eqBool
  refine wpAny_holding (wpAny_ite_split (fun e => ?_) (fun _ => ?_))
  · have e2 : i = j := by
      have := eq_of_beq e
      injection this
    subst e2
    rw [beq_self_eq_true] at h
    exact wpAny_bind (wpAny_rule (wpAny_pure h))
  · refine wpAny_bind (wpAny_mono key2 ?_ fun _ _ z => z)
    rintro v s' ⟨rfl, rfl⟩
    exact wpAny_truthy_bool h
/-- xs.count(b) of truths -/
def rCntBl : V → List V → Hp → VK → Prop := fun x xs H Q => ∃ (l : Addr) (rs : List Bool) (b : Bool), x = .ref l ∧ xs = [.bl b] ∧ H l = some (.lst (rs.map V.bl)) ∧ Q (.int (cntB (fun i => rs.getD i false == b) rs.length 0)) H
theorem mt_countBl : MtR X "list.count" rCntBl := by
  intro pins s σ H x xs v us Q I rx rxs h
  obtain ⟨l, rs, b, rfl, rfl, hl, q⟩ := h
  cases (show v = Value.ref l from rx)
  obtain ⟨u, rfl, ru⟩ := rxs.one
  cases (show u = Value.bool b from ru)
  obtain ⟨_, its, m, _, hp⟩ := (show ObjOk X.prog X.w H s.heap l (.lst (rs.map V.bl)) from I.hok l _ hl)
  refine GQ.call_here F.slot_list_count ⟨_, hp, rfl⟩ F.entry_list_count (F.args_list_count_2 _ _) ?_
  refine list_countG l (.bool b) rs.length (fun i => rs.getD i false == b) (fun _ s' => L2.Inv X pins σ H s') ?_ I (fun s' I' => ⟨.int _, H, I'.tok _, ⟨_, rfl⟩, q⟩)
  intro i s' I'
  obtain ⟨_, its, m, r, hp⟩ := (show ObjOk X.prog X.w H s'.heap l (.lst (rs.map V.bl)) from I'.hok l _ hl)
  have hlen : its.length = rs.length := by rw [← r.length, List.length_map]
  refine ⟨its.toArray, m, hp, by simpa using hlen, fun h1 => ?_⟩
  have h1' : i < its.length := by simpa using h1
  have hix : i < rs.length := by omega
  obtain ⟨v, hv, rv⟩ := r.get (show (rs.map V.bl)[i]? = some (.bl rs[i]) by rw [List.getElem?_map, List.getElem?_eq_getElem hix]; rfl)
  have ev : its.toArray[i] = v := by
    rw [List.getElem?_eq_getElem h1'] at hv
    simpa using hv
  cases (show v = Value.bool rs[i] from rv)
  rw [ev]
  refine eqBool_bl ⟨?_, I'⟩
  show (rs[i] == b) = (rs.getD i false == b)
  rw [List.getD_eq_getElem?_getD, List.getElem?_eq_getElem hix]
  rfl
end
/-! ### walks by enumerate; counts of texts; calls that may raise, where nothing is raised -/
theorem for_enum {K : PySem.W.Frag} {a : Addr} {xs : List V} {g : TG} {tb : TS} {D : L2.Ends} {σ : L2.St} {H : Hp} (Pv : Nat → L2.St → Hp → Prop) (h0 : Pv 0 σ H) (hl : ∀ i σ H, i ≤ xs.length → Pv i σ H → SqL K H a xs)
    (hs : ∀ i x T σ H, xs[i]? = some x → Pv i σ H → H T = none → g (.ref T) σ (upd H T (.tup [.int (i : Nat), x])) fun σ2 H2 => tb { D with nx := Pv (i + 1), ct := Pv (i + 1), bk := D.nx } σ2 H2) (hd : ∀ σ H, Pv xs.length σ H → D.nx σ H) :
    ∃ W : Nat → Nat → L2.St → Hp → Prop, (∃ m, W 0 m σ H) ∧ ∀ i m σ H, W i m σ H →
      ((Ite K a).stop i H ∧ D.nx σ H) ∨ ((Ite K a).go i H ∧ ∃ N : L2.St → Hp → Prop, (∀ σ' H', N σ' H' → ∃ m', m' < m ∧ W (i + 1) m' σ' H') ∧ ∀ x H', (Ite K a).yld i H x H' → g x σ H' fun σ2 H2 => tb { D with nx := N, ct := N, bk := D.nx } σ2 H2) := by
  refine ⟨fun i m σ H => m = xs.length - i ∧ i ≤ xs.length ∧ Pv i σ H, ⟨xs.length, by simp, Nat.zero_le _, h0⟩, ?_⟩
  rintro i m σ H ⟨rfl, hi, p⟩
  have q := hl i σ H hi p
  by_cases hlt : i < xs.length
  · refine .inr ⟨⟨xs, xs[i], q, by simp [hlt]⟩, Pv (i + 1), fun σ' H' p' => ⟨xs.length - (i + 1), by omega, rfl, hlt, p'⟩, ?_⟩
    rintro x H' ⟨T, y, rfl, hT, rfl, hy⟩
    exact hs i y T σ H (hy xs q) p hT
  · have e : i = xs.length := by omega
    subst e
    exact .inl ⟨⟨xs, q, Nat.le_refl _⟩, hd σ H p⟩
abbrev rLenQ (K : PySem.W.Frag) : List V → Hp → VK → Prop := fun xs H Q => ∃ p ys, xs = [V.ref p] ∧ (SqL K H p ys ∨ SqT K H p ys) ∧ Q (.int ((ys.length : Nat) : Int)) H
section
variable {X : Cx}
theorem eqBool_tx {prog : Program} {w : World} {A : Around} {E : Value → Shared → Prop} {s : Shared} {i j : Str} {t u : Tok} {Q : Bool → Shared → Prop} (h : Q (decide (i = j)) s) : wpAny (model prog w) A (eqBool (.str i t) (.str j u)) Q E s := wpAny_eqBool_str h
/-- xs.count(t) of texts -/
def rCntTx : V → List V → Hp → VK → Prop := fun x xs H Q => ∃ (l : Addr) (rs : List Str) (b : Str), x = .ref l ∧ xs = [.str b] ∧ H l = some (.lst (rs.map V.str)) ∧ Q (.int (cntB (fun i => decide (rs.getD i "" = b)) rs.length 0)) H
theorem mt_countTx : MtR X "list.count" rCntTx := by
  intro pins s σ H x xs v us Q I rx rxs h
  obtain ⟨l, rs, b, rfl, rfl, hl, q⟩ := h
  cases (show v = Value.ref l from rx)
  obtain ⟨u, rfl, ru⟩ := rxs.one
  obtain ⟨tb, rfl⟩ := (show ∃ t, u = Value.str b t from ru)
  obtain ⟨_, its, m, _, hp⟩ := (show ObjOk X.prog X.w H s.heap l (.lst (rs.map V.str)) from I.hok l _ hl)
  refine GQ.call_here F.slot_list_count ⟨_, hp, rfl⟩ F.entry_list_count (F.args_list_count_2 _ _) ?_
  refine list_countG l (.str b tb) rs.length (fun i => decide (rs.getD i "" = b)) (fun _ s' => L2.Inv X pins σ H s') ?_ I (fun s' I' => ⟨.int _, H, I'.tok _, ⟨_, rfl⟩, q⟩)
  intro i s' I'
  obtain ⟨_, its, m, r, hp⟩ := (show ObjOk X.prog X.w H s'.heap l (.lst (rs.map V.str)) from I'.hok l _ hl)
  have hlen : its.length = rs.length := by rw [← r.length, List.length_map]
  refine ⟨its.toArray, m, hp, by simpa using hlen, fun h1 => ?_⟩
  have h1' : i < its.length := by simpa using h1
  have hix : i < rs.length := by omega
  obtain ⟨v, hv, rv⟩ := r.get (show (rs.map V.str)[i]? = some (.str rs[i]) by rw [List.getElem?_map, List.getElem?_eq_getElem hix]; rfl)
  have ev : its.toArray[i] = v := by
    rw [List.getElem?_eq_getElem h1'] at hv
    simpa using hv
  obtain ⟨tv, e2⟩ := (show ∃ t, v = Value.str rs[i] t from rv)
  rw [ev, e2]
  refine eqBool_tx ⟨?_, I'⟩
  show decide (rs[i] = b) = decide (rs.getD i "" = b)
  rw [List.getD_eq_getElem?_getD, List.getElem?_eq_getElem hix]
  rfl
theorem passF {P : Program} {w : World} (hP : X.prog = P) (hw : X.w = w) : Passes (L2.CX P w) X E0 := fun pins σ H s e s' I h => passNo (σ := σ) hP hw pins H s e s' I h
end
theorem cntB_count {rs : List Str} {b : Str} : ∀ (k i : Nat), i + k ≤ rs.length → cntB (fun i => decide (rs.getD i "" = b)) k i = ((((rs.drop i).take k).count b : Nat) : Int)
  | 0, i, _ => by simp [cntB]
  | k + 1, i, h => by
    have hi : i < rs.length := by omega
    have ih := cntB_count (rs := rs) (b := b) k (i + 1) (by omega)
    rw [List.drop_eq_getElem_cons hi, List.take_succ_cons, List.count_cons]
    show (if decide (rs.getD i "" = b) = true then (1 : Int) else 0) + cntB _ k (i + 1) = _
    rw [ih]
    have e : rs.getD i "" = rs[i] := by rw [List.getD_eq_getElem?_getD, List.getElem?_eq_getElem hi]; rfl
    rw [e]
    by_cases c : rs[i] = b
    · simp [c]; omega
    · simp [c]
theorem cnt_all {rs : List Str} {b : Str} : cntB (fun i => decide (rs.getD i "" = b)) rs.length 0 = ((rs.count b : Nat) : Int) := by
  have := cntB_count (rs := rs) (b := b) rs.length 0 (by omega)
  rw [this, List.drop_zero, List.take_length]
theorem nodup_count {rs : List Str} : (∀ z ∈ rs, ((rs.count z : Nat) : Int) = 1) ↔ rs.Nodup := by
  rw [List.nodup_iff_count]
  constructor
  · intro h z
    by_cases c : z ∈ rs
    · have := h z c; omega
    · rw [List.count_eq_zero_of_not_mem c]; omega
  · intro h z hz
    have h1 := h z
    have h2 := List.count_pos_iff.mpr hz
    omega
/-- an exception that is made, not raised: a value, and it stays -/
theorem pe_ofMk {X : Cx} {e : Expr} {t : L2.St → Hp → XK → Prop} (h : PMk X e t) : PE X e (fun σ H Q => t σ H fun cls d H' => ∀ a, H' a = none → Q (.ref a) (upd H' a (keptX cls d a))) := by
  constructor
  intro pins s σ H Q I q
  refine wpAny_mono (h pins s σ H _ I q) ?_ (fun _ _ x => x)
  rintro u s1 ⟨a, oe, vs, sI, H', cls, d, rfl, J, k, ne, ha, hz, hd, _, na, os, ag, _, q2⟩
  have J2 := J.laidN (t' := s1.toks) k ne na (keptX_ok ha hz hd)
  exact ⟨.ref a, upd H' a (keptX cls d a), ⟨J2.ok, os.trans J.os, ag, J2.base, J2.loc, J2.cell, J2.free, J2.freeC, J2.pin, J2.hok, J2.len⟩, rfl, q2 a na⟩
def topS (i : Nat) : Stmt := PySem.Challenge.pw_boatbridge_k68_books_as_objects.main.body.getD i (.Pass ⟨0, 0, 0, 0⟩)
abbrev sShow : Stmt := topS 5
abbrev NShow : List Str := ["minute", "day", "clock", "hours", "minutes", "text"]
theorem scShow : FnScope NShow ["minute"] (defScope sShow) := ⟨rfl, rfl, rfl, by decide +kernel, rfl, by decide +kernel, by decide +kernel⟩
abbrev sFeed : Stmt := topS 9
abbrev NFeed : List Str := ["_law_script"]
theorem scFeed : FnScope NFeed ["_law_script"] (defScope sFeed) := ⟨rfl, rfl, rfl, by decide +kernel, rfl, by decide +kernel, by decide +kernel⟩
abbrev sDraw : Stmt := topS 10
abbrev NDraw : List Str := ["_law_feed_here", "_law_many", "_law_found", "_law_spot", "_law_cell", "_law_mixed"]
theorem scDraw : FnScope NDraw ["_law_feed_here", "_law_many"] (defScope sDraw) := ⟨rfl, rfl, rfl, by decide +kernel, rfl, by decide +kernel, by decide +kernel⟩
abbrev sOf : Stmt := topS 11
abbrev NOf : List Str := ["_law_feed_here", "_law_some"]
theorem scOf : FnScope NOf ["_law_feed_here", "_law_some"] (defScope sOf) := ⟨rfl, rfl, rfl, by decide +kernel, rfl, by decide +kernel, by decide +kernel⟩
abbrev sNames : Stmt := topS 12
abbrev NNames : List Str := ["_law_feed_here", "_law_many", "_law_letters", "_law_k", "_law_some", "_law_place", "_law_short", "_law_found", "_law_turned", "_law_shown", "_law_one"]
theorem scNames : FnScope NNames ["_law_feed_here", "_law_many"] (defScope sNames) := ⟨rfl, rfl, rfl, by decide +kernel, rfl, by decide +kernel, by decide +kernel⟩
abbrev sTime : Stmt := topS 13
abbrev NTime : List Str := ["_law_moment", "_law_clock", "_law_shown"]
theorem scTime : FnScope NTime ["_law_moment"] (defScope sTime) := ⟨rfl, rfl, rfl, by decide +kernel, rfl, by decide +kernel, by decide +kernel⟩
abbrev sRows : Stmt := topS 14
abbrev NRows : List Str := ["_law_feed_here", "_law_names_here", "_law_many", "_law_moment", "_law_found", "_law_k"]
theorem scRows : FnScope NRows ["_law_feed_here", "_law_names_here", "_law_many"] (defScope sRows) := ⟨rfl, rfl, rfl, by decide +kernel, rfl, by decide +kernel, by decide +kernel⟩
abbrev sBook : Stmt := topS 15
abbrev NBook : List Str := ["_law_side", "_law_rows_here", "_law_found", "_law_when", "_law_deed", "_law_who"]
theorem scBook : FnScope NBook ["_law_side", "_law_rows_here"] (defScope sBook) := ⟨rfl, rfl, rfl, by decide +kernel, rfl, by decide +kernel, by decide +kernel⟩
abbrev sText : Stmt := topS 16
abbrev NText : List Str := ["_law_side", "_law_rows_here", "_law_when", "_law_deed", "_law_who"]
theorem scText : FnScope NText ["_law_side", "_law_rows_here"] (defScope sText) := ⟨rfl, rfl, rfl, by decide +kernel, rfl, by decide +kernel, by decide +kernel⟩
abbrev sBackward : Stmt := topS 17
abbrev NBackward : List Str := ["_law_book_here", "_law_when", "_law_error", "e"]
theorem scBackward : FnScope NBackward ["_law_book_here", "_law_when"] (defScope sBackward) := ⟨rfl, rfl, rfl, by decide +kernel, rfl, by decide +kernel, by decide +kernel⟩
abbrev sLooks : Stmt := topS 18
abbrev NLooks : List Str := ["_law_book_here", "_law_side", "_law_rows_here", "_law_told"]
theorem scLooks : FnScope NLooks ["_law_book_here", "_law_side", "_law_rows_here"] (defScope sLooks) := ⟨rfl, rfl, rfl, by decide +kernel, rfl, by decide +kernel, by decide +kernel⟩
abbrev sOtherwise : Stmt := topS 19
abbrev NOtherwise : List Str := ["_law_feed_here", "_law_side", "_law_rows_here", "_law_others", "_law_last", "_law_k", "_law_when", "_law_deed", "_law_who", "_law_turned", "_law_named", "_law_row"]
theorem scOtherwise : FnScope NOtherwise ["_law_feed_here", "_law_side", "_law_rows_here"] (defScope sOtherwise) := ⟨rfl, rfl, rfl, by decide +kernel, rfl, by decide +kernel, by decide +kernel⟩
abbrev sLaw : Stmt := topS 20
abbrev NLaw : List Str := ["_law_script", "_law_feed_here", "_law_k", "_law_side", "_law_names_here", "_law_rows_here", "_law_book_here", "_law_held", "_law_place", "_law_when", "_law_deed", "_law_who", "_law_told", "_law_others", "_law_other", "_law_same", "_law_some", "_law_kept"]
theorem scLaw : FnScope NLaw ["_law_script"] (defScope sLaw) := ⟨rfl, rfl, rfl, by decide +kernel, rfl, by decide +kernel, by decide +kernel⟩
abbrev sBookInit : Stmt := inClass (topS 7) 0
abbrev NBookInit : List Str := ["self", "bank"]
theorem scBookInit : FnScope NBookInit ["self", "bank"] (defScope sBookInit) := ⟨rfl, rfl, rfl, by decide +kernel, rfl, by decide +kernel, by decide +kernel⟩
abbrev sBookEq : Stmt := inClass (topS 7) 1
abbrev NBookEq : List Str := ["self", "other"]
theorem scBookEq : FnScope NBookEq ["self", "other"] (defScope sBookEq) := ⟨rfl, rfl, rfl, by decide +kernel, rfl, by decide +kernel, by decide +kernel⟩
abbrev sBookLen : Stmt := inClass (topS 7) 2
abbrev NBookLen : List Str := ["self"]
theorem scBookLen : FnScope NBookLen ["self"] (defScope sBookLen) := ⟨rfl, rfl, rfl, by decide +kernel, rfl, by decide +kernel, by decide +kernel⟩
abbrev sBookStr : Stmt := inClass (topS 7) 3
abbrev NBookStr : List Str := ["self", "minute", "word", "name"]
theorem scBookStr : FnScope NBookStr ["self"] (defScope sBookStr) := ⟨rfl, rfl, rfl, by decide +kernel, rfl, by decide +kernel, by decide +kernel⟩
abbrev sBookWrite : Stmt := inClass (topS 7) 4
abbrev NBookWrite : List Str := ["self", "minute", "word", "name"]
theorem scBookWrite : FnScope NBookWrite ["self", "minute", "word", "name"] (defScope sBookWrite) := ⟨rfl, rfl, rfl, by decide +kernel, rfl, by decide +kernel, by decide +kernel⟩
abbrev sBookRows : Stmt := inClass (topS 7) 5
abbrev NBookRows : List Str := ["self"]
theorem scBookRows : FnScope NBookRows ["self"] (defScope sBookRows) := ⟨rfl, rfl, rfl, by decide +kernel, rfl, by decide +kernel, by decide +kernel⟩
abbrev sBackwardInit : Stmt := inClass (topS 1) 0
abbrev NBackwardInit : List Str := ["self", "minute"]
theorem scBackwardInit : FnScope NBackwardInit ["self", "minute"] (defScope sBackwardInit) := ⟨rfl, rfl, rfl, by decide +kernel, rfl, by decide +kernel, by decide +kernel⟩

/-- the tape at T: the cells' list, the draws done (at most n), the rest of a great cell -/
structure Tape (H : Hp) (T c : Addr) (n : Nat) : Prop where
  ex : ∃ (t r : Int) (ns : List Int), H T = some (.lst [.ref c, .int t, .int r]) ∧ H c = some (.lst (ns.map V.int)) ∧ c ≠ T ∧ 0 ≤ t ∧ t ≤ n ∧ ns.length ≤ 63
/-- all but the tape stands as it stood -/
def Keep (T : Addr) (H H' : Hp) : Prop := ∀ a o, a ≠ T → H a = some o → H' a = some o
theorem Keep.refl {T : Addr} {H : Hp} : Keep T H H := fun _ _ _ e => e
theorem Keep.trans {T : Addr} {H H1 H2 : Hp} (a : Keep T H H1) (b : Keep T H1 H2) : Keep T H H2 := fun x o n e => b x o n (a x o n e)
theorem Keep.updT {T : Addr} {H H1 : Hp} {o : HO} (a : Keep T H H1) : Keep T H (upd H1 T o) := fun x o n e => by
  rw [upd_ne n]; exact a x o n e
theorem Keep.new {T : Addr} {H H1 : Hp} {p : Addr} {o : HO} (a : Keep T H H1) (h : H1 p = none) : Keep T H (upd H1 p o) := fun x o n e => by
  have z := a x o n e
  rw [upd_ne (ne_of_none z h)]; exact z
theorem Tape.mono {H : Hp} {T c : Addr} {n m : Nat} (h : Tape H T c n) (l : n ≤ m) : Tape H T c m := by
  obtain ⟨t, r, ns, h1, h2, h3, h4, h5, h6⟩ := h.ex
  exact ⟨t, r, ns, h1, h2, h3, h4, by omega, h6⟩
theorem Tape.upd {H : Hp} {T c : Addr} {n : Nat} {p : Addr} {o : HO} (h : Tape H T c n) (n1 : p ≠ T) (n2 : p ≠ c) : Tape (upd H p o) T c n := by
  obtain ⟨t, r, ns, h1, h2, h3, h4, h5, h6⟩ := h.ex
  exact ⟨t, r, ns, by rw [upd_ne n1.symm]; exact h1, by rw [upd_ne n2.symm]; exact h2, h3, h4, h5, h6⟩
theorem Tape.new {H : Hp} {T c : Addr} {n : Nat} {p : Addr} {o : HO} (h : Tape H T c n) (hp : H p = none) : Tape (L2.upd H p o) T c n := by
  obtain ⟨t, r, ns, h1, h2, h3, h4, h5, h6⟩ := h.ex
  exact ⟨t, r, ns, by rw [upd_ne (ne_of_none h1 hp)]; exact h1, by rw [upd_ne (ne_of_none h2 hp)]; exact h2, h3, h4, h5, h6⟩
theorem Tape.nec {H : Hp} {T c : Addr} {n : Nat} {p : Addr} (h : Tape H T c n) (hp : H p = none) : p ≠ c := by
  obtain ⟨t, r, ns, _, h2, _⟩ := h.ex
  exact (ne_of_none h2 hp).symm
theorem Tape.ne {H : Hp} {T c : Addr} {n : Nat} {p : Addr} (h : Tape H T c n) (hp : H p = none) : p ≠ T := by
  obtain ⟨t, r, ns, h1, _⟩ := h.ex
  exact (ne_of_none h1 hp).symm
theorem upd_at {H : Hp} {p a : Addr} {o z : HO} (hp : H p = none) (h : H a = some z) : (upd H p o) a = some z := by
  rw [upd_ne (ne_of_none h hp)]; exact h
def spTape (K : PySem.W.Frag) : Sp := fun vs H Q _ => ∃ (a : Addr) (ns : List Int), vs = [.ref a] ∧ SqL K H a (ns.map V.int) ∧ ns.length ≤ 63 ∧
  ∀ T c H', H T = none → H c = none → Same H H' → Tape H' T c 0 → Q (.ref T) H'
def spDraw : Sp := fun vs H Q _ => ∃ (T c : Addr) (b : Int) (n : Nat), vs = [.ref T, .int b] ∧ 0 < b ∧ b < 1073741824 ∧ n < 1000000 ∧ Tape H T c n ∧
  ∀ d H', 0 ≤ d → d < b → Tape H' T c (n + 1) → Keep T H H' → Q (.int d) H'
/-- an item of a list, any one -/
def spPick : Sp := fun vs H Q _ => ∃ (T c p : Addr) (xs : List V) (n : Nat), vs = [.ref T, .ref p] ∧ H p = some (.lst xs) ∧ p ≠ T ∧ 0 < xs.length ∧ xs.length < 1000000 ∧ n < 1000000 ∧ Tape H T c n ∧
  ∀ (j : Nat) (x : V) H', xs[j]? = some x → Tape H' T c (n + 1) → Keep T H H' → Q x H'
theorem dp_ints {K : PySem.W.Frag} {H : Hp} : ∀ ns : List Int, DpAll K H (ns.map V.int) (ns.map PyData.int)
  | [] => .nil
  | _ :: r => .cons (.int _) (dp_ints r)
theorem cut63 {ns : List Int} (h : ns.length ≤ 63) : cutV (ns.map V.int) none (some 63) = ns.map V.int := by
  unfold cutV
  rw [HT.sIx_none, show HT.sIx (ns.map V.int).length (ns.map V.int).length (some 63) = min 63 (ns.map V.int).length from HT.sIx_nat _ _ 63, List.length_map, Nat.min_eq_right h]
  show ((ns.map V.int).take (ns.length - 0)) = _
  rw [Nat.sub_zero]
  exact List.take_of_length_le (by rw [List.length_map]; exact Nat.le_refl _)
theorem fmod_in {a b : Int} (h : 0 < b) : 0 ≤ a.fmod b ∧ a.fmod b < b := by
  rw [Int.fmod_eq_emod_of_nonneg a (Int.le_of_lt h)]; exact ⟨Int.emod_nonneg a (by omega), Int.emod_lt_of_pos a h⟩
/-- what the law's helpers ask of the module's names -/
structure Txt0 (mg : Str → Option Value) : Prop where
  mlen : mg "len" = none
structure TxtF (mg : Str → Option Value) : Prop where
  mlist : mg "list" = none
section
variable {P : Program} {w : World} {K : PySem.W.Frag} {mg : Str → Option Value} {base : Heap}
theorem ok_draw {f : Addr} {fd : FuncData} {k : Nat} (F : Fun K "_law_draw" "_law_draw" sDraw f fd) (T : Txt0 mg) : FnOk P w K mg base CX0 (k + 1) f fd ["_law_feed_here", "_law_many"] spDraw := by
  refine F.ok scDraw (fun vs H Q E h => ?_) (fun cdv A outer s H vs Q E hr h => ?_)
  · obtain ⟨T, c, b, n, rfl, _⟩ := h
    rfl
  · obtain ⟨a, c, b, n, rfl, hb0, hb1, hn, hT, q⟩ := h
    obtain ⟨t, r, ns, h1, h2, h3, h4, h5, h6⟩ := hT.ex
    refine ⟨_,
      (pss_cons (ps_if (pt_cmpR op_gt (pe_ix ix_list (pv 0) pe_int (fun _ _ => rfl)) pe_int (nomark _))
      (pss_cons (ps_set (i := 2) scDraw.nd rfl (.inl rfl) (pe_op op_modN (pe_ix ix_list (pv 0) pe_int (fun _ _ => rfl)) (pv 1)))
      (pss_cons (ps_asg (pe_op op_fdivN (pe_ix ix_list (pv 0) pe_int (fun _ _ => rfl)) (pv 1)) (pg_sub (pv 0) pe_int set_list))
      (pss_one (ps_ret (pv 2)))))
      pss_nil)
      (pss_cons (ps_set (i := 3) scDraw.nd rfl (.inl rfl) (pe_ix ix_list (pv 0) pe_int (fun _ _ => rfl)))
      (pss_cut (ps_asg (pe_op op_add (pv 3) pe_int) (pg_sub (pv 0) pe_int set_list))
      (pss_cut (ps_set (i := 4) scDraw.nd rfl (.inl rfl) (pe_ifExp (pt_cmpR (op_neD hr.units) (pe_ix ix_list (pv 0) pe_int (fun _ _ => rfl)) (pe_lst pa_nil) (nomark _)) (pe_ix ix_list (pe_ix ix_list (pv 0) pe_int (fun _ _ => rfl)) (pe_op op_modN (pv 3) (pe_callB call_len_seq (by rfl) T.mlen PySem.boot_len (pa_cons (pe_ix ix_list (pv 0) pe_int (fun _ _ => rfl)) pa_nil))) (fun _ _ => rfl)) (pe_op op_add (pe_op op_mul pe_int (pv 3)) pe_int)))
      (pss_cut (ps_if (PW.pt (pw_and (pt_cmpR op_lt (pv 3) (pe_callB call_len_seq (by rfl) T.mlen PySem.boot_len (pa_cons (pe_ix ix_list (pv 0) pe_int (fun _ _ => rfl)) pa_nil)) (nomark _)) (pw_and1 (pt_cmpR op_ge (pv 4) (pe_op op_pow pe_int pe_int) (nomark _)))))
      (pss_cons (ps_asg (pe_op op_fdivN (pv 4) (pv 1)) (pg_sub (pv 0) pe_int set_list))
      (pss_one (ps_ret (pe_op op_modN (pv 4) (pv 1)))))
      pss_nil)
      (pss_cut (ps_set (i := 5) scDraw.nd rfl (.inl rfl) (pe_op op_modN (pe_op op_pow (pe_op op_add (pe_op op_add (pe_op op_modN (pv 4) pe_int) (pe_op op_mul pe_int (pv 3))) pe_int) pe_int) pe_int))
      (pss_cut (ps_set (i := 5) scDraw.nd rfl (.inl rfl) (pe_op op_modN (pe_op op_mul (pe_op op_add (pe_op op_fdivN (pv 5) pe_int) pe_int) (pe_op op_add (pe_op op_modN (pe_op op_mul pe_int (pv 3)) pe_int) pe_int)) pe_int))
      (pss_one (ps_ret (pe_op op_modN (pe_op op_fdivN (pv 5) pe_int) (pv 1)))))))))))
      , ?_⟩
    -- if feed[2] > 0
    refine ⟨_, rfl, a, _, 2, _, rfl, rfl, SqL.of h1, atI_nat (j := 2) rfl, _, _, rfl, rfl, _, rfl, ite2 (fun _ => ?_) (fun _ => ?_)⟩
    · obtain ⟨e1, e2⟩ := fmod_in (a := r) hb0
      refine ⟨_, rfl, a, _, 2, _, rfl, rfl, SqL.of h1, atI_nat (j := 2) rfl, _, rfl, _, _, rfl, rfl, by omega, ?_⟩
      refine ⟨_, rfl, a, _, 2, _, rfl, rfl, SqL.of h1, atI_nat (j := 2) rfl, _, rfl, _, _, rfl, rfl, ⟨by omega, by omega⟩, ?_⟩
      refine ⟨_, rfl, a, _, 2, 2, rfl, rfl, h1, rfl, ?_⟩
      refine ⟨_, rfl, q _ _ e1 e2 ⟨t, _, ns, upd_same, ?_, h3, h4, by omega, h6⟩ Keep.refl.updT⟩
      rw [upd_ne h3]; exact h2
    · refine ⟨_, rfl, a, _, 1, _, rfl, rfl, SqL.of h1, atI_nat (j := 1) rfl, ?_⟩
      refine ⟨fun σ H2 => σ = [some (.ref a), some (.int b), none, some (.int t), none, none] ∧ H2 a = some (.lst [.ref c, .int (t + 1), .int r]) ∧ H2 c = some (.lst (ns.map V.int)) ∧ Keep a H H2, ?_, ?_⟩
      · refine ⟨_, rfl, _, _, rfl, rfl, _, rfl, a, _, 1, 1, rfl, rfl, h1, rfl, rfl, upd_same, ?_, Keep.refl.updT⟩
        rw [upd_ne h3]; exact h2
      rintro σ H1 ⟨rfl, g1, g2, k0⟩
      refine ⟨fun σ H2 => ∃ cell : Int, σ = [some (.ref a), some (.int b), none, some (.int t), some (.int cell), none] ∧ H2 a = some (.lst [.ref c, .int (t + 1), .int r]) ∧ H2 c = some (.lst (ns.map V.int)) ∧ Keep a H H2, ?_, ?_⟩
      · refine ⟨_, rfl, a, _, 0, _, rfl, rfl, SqL.of g1, atI_nat (j := 0) rfl, Nat.zero_le _, fun l hl => ?_⟩
        have u1 := upd_at (o := .lst []) hl g1
        have u2 := upd_at (o := .lst []) hl g2
        refine ⟨_, .list [], .lst (SqL.of u2) (dp_ints _), .lst (SqL.of upd_same) .nil, ke_shaped_ints ns, ke_shaped_ints [], _, rfl, ?_⟩
        cases hns : ns with
        | nil =>
          refine iteF ⟨_, rfl, _, _, rfl, rfl, .inl ⟨by decide, by decide⟩, _, _, rfl, rfl, _, rfl, u1, by rw [← hns]; exact u2, k0.new hl⟩
        | cons z zs =>
          refine iteT ?_
          rw [← hns]
          have hpos : 0 < (ns.length : Int) := by rw [hns]; simp
          refine ⟨_, rfl, a, _, 0, _, rfl, rfl, SqL.of u1, atI_nat (j := 0) rfl, _, rfl, _, rfl, a, _, 0, _, rfl, rfl, SqL.of u1, atI_nat (j := 0) rfl, c, _, rfl, .inl (SqL.of u2), _, _, rfl, rfl, ?_, ?_⟩
          · rw [List.length_map]; omega
          · obtain ⟨e1, e2⟩ := fmod_in (a := t) hpos
            obtain ⟨j, hj⟩ := Int.eq_ofNat_of_zero_le e1
            have hj2 : j < ns.length := by omega
            refine ⟨c, _, (j : Int), .int ns[j], rfl, ?_, SqL.of u2, atI_nat ?_, _, rfl, u1, u2, k0.new hl⟩
            · exact congrArg V.int (by rw [List.length_map]; exact hj)
            · rw [List.getElem?_map, List.getElem?_eq_getElem hj2]; rfl
      · rintro σ H2 ⟨cell, rfl, u1, u2, k2⟩
        have tp : ∀ (r' : Int) (H3 : Hp), H3 a = some (.lst [.ref c, .int (t + 1), .int r']) → H3 c = some (.lst (ns.map V.int)) → Tape H3 a c (n + 1) := fun r' H3 x1 x2 => ⟨t + 1, r', ns, x1, x2, h3, by omega, by omega, h6⟩
        refine ⟨fun σ H3 => σ = [some (.ref a), some (.int b), none, some (.int t), some (.int cell), none] ∧ H3 = H2, ?_, ?_⟩
        · refine ⟨_, rfl, _, rfl, a, _, 0, _, rfl, rfl, SqL.of u1, atI_nat (j := 0) rfl, c, _, rfl, .inl (SqL.of u2), _, _, rfl, rfl, _, rfl, ite2 (fun _ => ?_) (fun _ => iteF ⟨rfl, rfl⟩)⟩
          refine ⟨_, rfl, _, _, rfl, rfl, ⟨by decide, by decide, by decide⟩, _, _, rfl, rfl, _, rfl, ite2 (fun _ => ?_) (fun _ => ⟨rfl, rfl⟩)⟩
          refine ⟨_, rfl, _, rfl, _, _, rfl, rfl, ⟨by omega, by omega⟩, _, rfl, a, _, 2, 2, rfl, rfl, u1, rfl, ?_⟩
          refine ⟨_, rfl, _, rfl, _, _, rfl, rfl, by omega, ?_⟩
          exact q _ _ (fmod_in hb0).1 (fmod_in hb0).2 (tp _ _ upd_same (by rw [upd_ne h3]; exact u2)) k2.updT
        · rintro σ H3 ⟨rfl, rfl⟩
          obtain ⟨c0, c1⟩ := fmod_in (a := cell) (b := 2147483629) (by decide)
          refine ⟨fun σ H4 => ∃ m1 : Int, σ = [some (.ref a), some (.int b), none, some (.int t), some (.int cell), some (.int m1)] ∧ H4 = H3, ?_, ?_⟩
          · refine ⟨_, rfl, _, _, rfl, rfl, (by show (2147483629 : Int) ≠ 0; decide), _, rfl, _, _, rfl, rfl, .inl ⟨by decide, by decide⟩, _, _, rfl, rfl, _, _, rfl, rfl, _, _, rfl, rfl, ⟨by decide, by decide, by omega⟩, _, _, rfl, rfl, (by show (2147483647 : Int) ≠ 0; decide), _, rfl, rfl⟩
          rintro σ H4 ⟨m1, rfl, rfl⟩
          refine ⟨fun σ H5 => ∃ m2 : Int, σ = [some (.ref a), some (.int b), none, some (.int t), some (.int cell), some (.int m2)] ∧ H5 = H4, ?_, ?_⟩
          · obtain ⟨f0, f1⟩ := fmod_in (a := 48271 * t) (b := 65521) (by decide)
            refine ⟨_, rfl, _, _, rfl, rfl, ⟨by decide, by decide⟩, _, _, rfl, rfl, _, rfl, _, _, rfl, rfl, .inl ⟨by decide, by decide⟩, _, _, rfl, rfl, (by show (65521 : Int) ≠ 0; decide), _, _, rfl, rfl, _, _, rfl, rfl, .inr ⟨by omega, by omega⟩, _, _, rfl, rfl, (by show (2147483587 : Int) ≠ 0; decide), _, rfl, rfl⟩
          rintro σ H5 ⟨m2, rfl, rfl⟩
          refine ⟨_, rfl, _, _, rfl, rfl, ⟨by decide, by decide⟩, _, rfl, _, _, rfl, rfl, by omega, ?_⟩
          exact q _ _ (fmod_in hb0).1 (fmod_in hb0).2 (tp _ _ u1 u2) k2
/-- an item of a list by a draw -/
theorem ok_of {f fD : Addr} {fd fdD : FuncData} {k : Nat} (F : Fun K "_law_of" "_law_of" sOf f fd) (T : Txt0 mg) (F_law_draw : Fun K "_law_draw" "_law_draw" sDraw fD fdD) (g_law_draw : mg "_law_draw" = some (.ref fD)) (b_law_draw : Binds K fdD ["_law_feed_here", "_law_many"] []) :
    FnOk P w K mg base CX0 (k + 2) f fd ["_law_feed_here", "_law_some"] spPick := by
  have G_law_draw : FnOk P w K mg base CX0 (k + 1) fD fdD ["_law_feed_here", "_law_many"] spDraw := ok_draw F_law_draw T
  refine F.ok scOf (fun vs H Q E h => ?_) (fun cdv A outer s H vs Q E hr h => ?_)
  · obtain ⟨T, c, p, xs, n, rfl, _⟩ := h
    rfl
  · obtain ⟨a, c, p, xs, n, rfl, hS, hpa, hx0, hx1, hn, hT, q⟩ := h
    have hr_law_draw := hr
    refine ⟨_,
      (pss_one (ps_ret (pe_ix ix_list (pv 1) (pe_call G_law_draw hr_law_draw (by rfl) g_law_draw F_law_draw.kp b_law_draw .nil pass0 (pa_cons (pv 0) (pa_cons (pe_callB call_len_seq (by rfl) T.mlen PySem.boot_len (pa_cons (pv 1) pa_nil)) pa_nil))) (fun _ _ => rfl))))
      , ?_⟩
    refine ⟨_, rfl, _, rfl, _, rfl, p, xs, rfl, .inl (SqL.of hS), a, c, xs.length, n, rfl, by omega, by omega, hn, hT, fun d H' d0 d1 T' k' => ?_⟩
    obtain ⟨j, rfl⟩ := Int.eq_ofNat_of_zero_le d0
    have hj : j < xs.length := by omega
    exact ⟨p, xs, (j : Int), xs[j], rfl, rfl, SqL.of (k' p _ hpa hS), atI_nat (List.getElem?_eq_getElem hj), q j _ _ (List.getElem?_eq_getElem hj) T' k'⟩
/-- the tape's making: the cells in a list of their own -/
theorem ok_feed {f : Addr} {fd : FuncData} {k : Nat} (F : Fun K "_law_feed" "_law_feed" sFeed f fd) (T : TxtF mg) : FnOk P w K mg base CX0 (k + 1) f fd ["_law_script"] (spTape K) := by
  refine F.ok scFeed (fun vs H Q E h => ?_) (fun cdv A outer s H vs Q E hr h => ?_)
  · obtain ⟨a, ns, rfl, _⟩ := h
    rfl
  · obtain ⟨a, ns, rfl, hS, hlen, q⟩ := h
    refine ⟨_,
      (pss_one (ps_ret (pe_lst (pa_cons (pe_callTy call_list_of (by rfl) T.mlist (by decide +kernel) (pa_cons (pe_slice sl_list (pv 0) po_none (po_some pe_int)) pa_nil)) (pa_cons pe_int (pa_cons pe_int pa_nil))))))
      , ?_⟩
    refine ⟨_, rfl, _, rfl, a, _, rfl, hS, fun p0 hp0 => ?_⟩
    refine ⟨p0, _, rfl, .inl (SqL.of upd_same), fun p hp => ?_⟩
    refine ⟨by show 3 ≤ sizeLine; decide, fun l hl => ?_⟩
    have nlp : p ≠ l := fun e => by rw [e, upd_same] at hl; cases hl
    have hp1 : H p = none := by
      by_cases e : p = p0
      · rw [e, upd_same] at hp; cases hp
      · rw [upd_ne e] at hp; exact hp
    have hl0 : H l = none := by
      rw [upd_ne nlp.symm] at hl
      by_cases e : l = p0
      · rw [e, upd_same] at hl; cases hl
      · rw [upd_ne e] at hl; exact hl
    refine q l p _ hl0 hp1 (fun b o e => upd_at hl (upd_at hp (upd_at hp0 e))) ⟨0, 0, ns, upd_same, ?_, nlp, by omega, by omega, hlen⟩
    rw [upd_ne nlp, upd_same, cut63 hlen]
end
/-! ### heaps that grow -/
theorem Tape.same {H H' : Hp} {T c : Addr} {n : Nat} (h : Tape H T c n) (s : Same H H') : Tape H' T c n := by
  obtain ⟨t, r, ns, h1, h2, h3, h4, h5, h6⟩ := h.ex
  exact ⟨t, r, ns, s _ _ h1, s _ _ h2, h3, h4, h5, h6⟩
theorem Keep.same {T : Addr} {H H1 H2 : Hp} (a : Keep T H H1) (b : Same H1 H2) : Keep T H H2 := fun x o n e => b x o (a x o n e)
theorem same_upd {H : Hp} {p : Addr} {o : HO} (h : H p = none) : Same H (upd H p o) := fun b x e => by
  rw [upd_ne (ne_of_none e h)]; exact e
theorem same_refl {H : Hp} : Same H H := fun _ _ e => e
theorem small_line {n : Nat} (h : n ≤ 100) : n ≤ sizeLine := Nat.le_trans h (by decide)
/-! ### data over heaps that change -/
mutual
/-- data without lists -/
def noL : PyData → Bool
  | .list _ => false
  | .tuple ds => noLs ds
  | .dict _ => false
  | _ => true
def noLs : List PyData → Bool
  | [] => true
  | d :: ds => noL d && noLs ds
end
theorem sqT_same {K : PySem.W.Frag} {H H' : Hp} {a : Addr} {xs : List V} (h : SqT K H a xs) (s : Same H H') : SqT K H' a xs := by
  rcases h with (h | ⟨o, h⟩) | h
  · exact .inl (.inl (s _ _ h))
  · exact .inl (.inr ⟨o, s _ _ h⟩)
  · exact .inr h
theorem sqL_same {K : PySem.W.Frag} {H H' : Hp} {a : Addr} {xs : List V} (h : SqL K H a xs) (s : Same H H') : SqL K H' a xs := by
  rcases h with (h | ⟨o, h⟩) | h
  · exact .inl (.inl (s _ _ h))
  · exact .inl (.inr ⟨o, s _ _ h⟩)
  · exact .inr h
theorem sqT_keep {K : PySem.W.Frag} {T : Addr} {H H' : Hp} {ys : List V} {a : Addr} {xs : List V} (hT : H T = some (.lst ys)) (h : SqT K H a xs) (s : Keep T H H') : SqT K H' a xs := by
  rcases h with (h | ⟨o, h⟩) | h
  · exact .inl (.inl (s _ _ (ne_of h hT (by intro z; cases z)) h))
  · exact .inl (.inr ⟨o, s _ _ (ne_of h hT (by intro z; cases z)) h⟩)
  · exact .inr h
mutual
theorem dp_same {K : PySem.W.Frag} {H H' : Hp} (s : Same H H') : ∀ (d : PyData) (v : V), Dp K H v d → Dp K H' v d
  | .none, _, h => by cases h; exact .non
  | .bool b, _, h => by cases h; exact .bl b
  | .int i, _, h => by cases h; exact .int i
  | .str x, _, h => by cases h; exact .str x
  | .list ds, _, h => by cases h with | lst a b => exact .lst (sqL_same a s) (dps_same s ds _ b)
  | .tuple ds, _, h => by cases h with | tup a b => exact .tup (sqT_same a s) (dps_same s ds _ b)
  | .dict _, _, h => by cases h
theorem dps_same {K : PySem.W.Frag} {H H' : Hp} (s : Same H H') : ∀ (ds : List PyData) (vs : List V), DpAll K H vs ds → DpAll K H' vs ds
  | [], _, h => by cases h; exact .nil
  | d :: ds, _, h => by cases h with | cons a b => exact .cons (dp_same s d _ a) (dps_same s ds _ b)
end
mutual
theorem dp_tups {K : PySem.W.Frag} {H H' : Hp} (s : ∀ a xs, SqT K H a xs → SqT K H' a xs) : ∀ (d : PyData) (v : V), noL d = true → Dp K H v d → Dp K H' v d
  | .none, _, _, h => by cases h; exact .non
  | .bool b, _, _, h => by cases h; exact .bl b
  | .int i, _, _, h => by cases h; exact .int i
  | .str x, _, _, h => by cases h; exact .str x
  | .list ds, _, n, h => by simp [noL] at n
  | .tuple ds, _, n, h => by cases h with | tup a b => exact .tup (s _ _ a) (dps_tups s ds _ (by simpa [noL] using n) b)
  | .dict _, _, _, h => by cases h
theorem dps_tups {K : PySem.W.Frag} {H H' : Hp} (s : ∀ a xs, SqT K H a xs → SqT K H' a xs) : ∀ (ds : List PyData) (vs : List V), noLs ds = true → DpAll K H vs ds → DpAll K H' vs ds
  | [], _, _, h => by cases h; exact .nil
  | d :: ds, _, n, h => by
    have n' : noL d = true ∧ noLs ds = true := by simpa [noLs] using n
    cases h with | cons a b => exact .cons (dp_tups s d _ n'.1 a) (dps_tups s ds _ n'.2 b)
end
theorem dps_keep {K : PySem.W.Frag} {T : Addr} {H H' : Hp} {ys : List V} {ds : List PyData} {vs : List V} (h : DpAll K H vs ds) (hT : H T = some (.lst ys)) (s : Keep T H H') (n : noLs ds = true) : DpAll K H' vs ds := dps_tups (fun _ _ z => sqT_keep hT z s) ds vs n h
theorem dp_keep {K : PySem.W.Frag} {T : Addr} {H H' : Hp} {ys : List V} {d : PyData} {v : V} (h : Dp K H v d) (hT : H T = some (.lst ys)) (s : Keep T H H') (n : noL d = true) : Dp K H' v d := dp_tups (fun _ _ z => sqT_keep hT z s) d v n h
theorem dps_len {K : PySem.W.Frag} {H : Hp} : ∀ {vs : List V} {ds : List PyData}, DpAll K H vs ds → vs.length = ds.length
  | _, _, .nil => rfl
  | _, _, .cons _ r => congrArg (· + 1) (dps_len r)
theorem dps_at {K : PySem.W.Frag} {H : Hp} : ∀ {vs : List V} {ds : List PyData} {i : Nat} {x : V}, DpAll K H vs ds → vs[i]? = some x → ∃ d, ds[i]? = some d ∧ Dp K H x d
  | _, _, _, _, .nil, e => by cases e
  | _, _, 0, _, .cons h _, e => by cases e; exact ⟨_, rfl, h⟩
  | _, _, i + 1, _, .cons _ r, e => dps_at (i := i) r e
theorem dps_app {K : PySem.W.Frag} {H : Hp} : ∀ {vs ws : List V} {ds es : List PyData}, DpAll K H vs ds → DpAll K H ws es → DpAll K H (vs ++ ws) (ds ++ es)
  | _, _, _, _, .nil, h => h
  | _, _, _, _, .cons a r, h => .cons a (dps_app r h)
theorem dp_tup {K : PySem.W.Frag} {H : Hp} {v : V} {ds : List PyData} (h : Dp K H v (.tuple ds)) : ∃ a xs, v = .ref a ∧ SqT K H a xs ∧ DpAll K H xs ds := by cases h with | tup a b => exact ⟨_, _, rfl, a, b⟩
theorem dp_lst {K : PySem.W.Frag} {H : Hp} {v : V} {ds : List PyData} (h : Dp K H v (.list ds)) : ∃ a xs, v = .ref a ∧ SqL K H a xs ∧ DpAll K H xs ds := by cases h with | lst a b => exact ⟨_, _, rfl, a, b⟩
theorem noLs_map {α : Type} (f : α → PyData) (h : ∀ x, noL (f x) = true) : ∀ l : List α, noLs (l.map f) = true
  | [] => rfl
  | x :: l => by rw [List.map_cons, noLs, h x, noLs_map f h l]; rfl
theorem lc_str {z : Str} {g : TG} {tt : TT} {te : TE} {vs : List Nat} {σ : L2.St} {H1 : Hp} {D : Addr} {Qd : Hp → Prop} (Pv : Nat → Hp → Prop) (h0 : Pv 0 (upd H1 D (.lst [])))
    (hs : ∀ i c H, z.cps[i]? = some c → Pv i H → g (.str ⟨#[c]⟩) (wipe σ vs) H fun σ2 H2 => wipe σ2 vs = wipe σ vs ∧ tt σ2 H2 fun b H3 =>
      if b = true then te σ2 H3 fun y H4 => ∃ acc, H4 D = some (.lst acc) ∧ acc.length < sizeLine ∧ Pv (i + 1) (upd H4 D (.lst (acc ++ [y]))) else Pv (i + 1) H3) (hd : ∀ H, Pv z.cps.size H → Qd H) :
    ∃ W : Nat → Nat → Hp → Prop, (∃ m, W 0 m (upd H1 D (.lst []))) ∧ ∀ i m H, W i m H →
      ((Its z).stop i H ∧ Qd H) ∨ ((Its z).go i H ∧ ∃ Nx : Hp → Prop, (∀ H', Nx H' → ∃ m', m' < m ∧ W (i + 1) m' H') ∧ ∀ x H', (Its z).yld i H x H' → g x (wipe σ vs) H' fun σ2 H2 => wipe σ2 vs = wipe σ vs ∧ tt σ2 H2 fun b H3 =>
        if b = true then te σ2 H3 fun y H4 => ∃ acc, H4 D = some (.lst acc) ∧ acc.length < sizeLine ∧ Nx (upd H4 D (.lst (acc ++ [y]))) else Nx H3) := by
  refine ⟨fun i m H => m = z.cps.size - i ∧ i ≤ z.cps.size ∧ Pv i H, ⟨z.cps.size, by simp, Nat.zero_le _, h0⟩, ?_⟩
  rintro i m H ⟨rfl, hi, p⟩
  by_cases hlt : i < z.cps.size
  · refine .inr ⟨hlt, Pv (i + 1), fun H' p' => ⟨z.cps.size - (i + 1), by omega, rfl, hlt, p'⟩, fun x H' y => ?_⟩
    obtain ⟨rfl, c, hc, rfl⟩ := y
    exact hs i c _ hc p
  · have e : i = z.cps.size := by omega
    subst e
    exact .inl ⟨Nat.le_refl _, hd H p⟩
/-! ### a test of an own object, by its __len__ -/
section
variable {X : Cx} {CX : CXT} {n : Nat} {C g : Addr} {fd : FuncData} {ps : List Str} {sp : Sp} {E : XK} {a : Expr} {ta : TE} {pos : Pos}
def rTruO (C : Addr) (sp : Sp) (E : XK) (x : V) (H : Hp) (Q : Bool → Hp → Prop) : Prop := ∃ a dx fs, x = .ref a ∧ H a = some (.ins C dx fs) ∧ sp [.ref a] H (QTru fun z H2 => ∃ k, z = .bl k ∧ Q k H2) E
def tTruO (C : Addr) (sp : Sp) (E : XK) (ta : TE) : TT := fun σ H Q => ta σ H fun x H1 => rTruO C sp E x H1 Q
theorem pt_truthO (hbl : PySem.W.findIn X.K (.ref C) "__bool__" = some none) (hs : PySem.W.findIn X.K (.ref C) "__len__" = some (some (.ref g))) (hf : PySem.W.isFn X.K (.ref g) = true) (F : FnOk X.prog X.w X.K X.mg X.base CX n g fd ps sp) (hb : L2.Binds X.K fd ps [])
    (hr : Room (n + 1) X.A) (hx : Passes CX X E) (ha : PE X a ta) (he : ∀ whole, isTrue a X.env whole = (do let v ← whole; standAt a.pos; holding [v] (truthy v))) : PT X a (tTruO C sp E ta) := by
  refine ⟨fun pins s σ H Q I h => ?_⟩
  refine isTrue_plain (thn (ha.run pins s σ H _ I h) fun v s1 ⟨x, H1, I1, r1, q1⟩ => ?_) (he _)
  obtain ⟨p, dx, fs, rfl, hp, q⟩ := q1
  cases (show v = Value.ref p from r1)
  refine thn (truthyOwn hbl hs hf F hb (A := X.A) hr rfl hx I1 hp q) ?_
  rintro b s' ⟨H', I', k, e, q'⟩
  cases e
  exact ⟨H', I', q'⟩
def tNotO (C : Addr) (sp : Sp) (E : XK) (ta : TE) : TE := fun σ H Q => ta σ H fun x H1 => rTruO C sp E x H1 fun k H2 => Q (.bl (!k)) H2
theorem pe_notO (hbl : PySem.W.findIn X.K (.ref C) "__bool__" = some none) (hs : PySem.W.findIn X.K (.ref C) "__len__" = some (some (.ref g))) (hf : PySem.W.isFn X.K (.ref g) = true) (F : FnOk X.prog X.w X.K X.mg X.base CX n g fd ps sp) (hb : L2.Binds X.K fd ps [])
    (hr : Room (n + 1) X.A) (hx : Passes CX X E) (ha : PE X a ta) : PE X (.UnaryOp .Not a pos) (tNotO C sp E ta) := by
  refine ⟨fun pins s σ H Q I h => ?_⟩
  refine UnaryOp_ (thn (ha.run pins s σ H _ I h) fun v s1 ⟨x, H1, I1, r1, q1⟩ => ?_)
  obtain ⟨p, dx, fs, rfl, hp, q⟩ := q1
  cases (show v = Value.ref p from r1)
  refine not_of (thn (truthyOwn hbl hs hf F hb (A := X.A) hr rfl hx I1 hp q) ?_)
  rintro b s' ⟨H', I', k, e, q'⟩
  cases e
  exact ⟨.bl (!b), H', I', rfl, q'⟩
theorem i_truO {σ : L2.St} {H : Hp} {Q : Bool → Hp → Prop} (h : ta σ H fun x H1 => rTruO C sp E x H1 Q) : tTruO C sp E ta σ H Q := h
theorem i_notO {σ : L2.St} {H : Hp} {Q : VK} (h : ta σ H fun x H1 => rTruO C sp E x H1 fun k H2 => Q (.bl (!k)) H2) : tNotO C sp E ta σ H Q := h
end
/-! ### f"{o}" of an own object; slices of lists by steps; zip in comprehensions -/
section
variable {X : Cx}
section
variable {CX : CXT} {C g : Addr} {n : Nat} {fd : FuncData} {ps : List Str} {sp : Sp} {E : XK}
def tFmtO (C : Addr) (sp : Sp) (E : XK) (te : TE) : TE := fun σ H Q => te σ H fun x H1 => rOwn1 C sp E QStr [x] H1 Q
theorem pe_fmtO {e : Expr} {te : TE} {pos : Pos} (he : PE X e te) (hfm : PySem.W.findIn X.K (.ref C) "__format__" = some (some (.builtin "object.__format__"))) (hm : PySem.W.mroIn X.K C (.type "object") = some true)
    (hs : PySem.W.findIn X.K (.ref C) "__str__" = some (some (.ref g))) (hf : PySem.W.isFn X.K (.ref g) = true) (F : FnOk X.prog X.w X.K X.mg X.base CX n g fd ps sp) (hb : L2.Binds X.K fd ps []) (hr : Room (n + 1) X.A) (hx : Passes CX X E) : PE X (.FormattedValue e (-1) none pos) (tFmtO C sp E te) := by
  refine ⟨fun pins s σ H Q I h => ?_⟩
  refine wpAny_FormattedValue_plain (thn (he.run pins s σ H _ I h) fun v s1 hv => ?_)
  obtain ⟨x, H1, I1, r1, a, dx, fs, ex, ha, q⟩ := hv
  cases ex
  cases (show v = Value.ref a from r1)
  obtain ⟨od, J⟩ := inst_of I1 ha
  have hr2 : Room n X.A.in1 := hr.in1
  refine PySem.W.kfo_fieldS hr2.units0 I1.kIn J hfm hm hs hf ?_
  exact wpAny_mono (run_fnA (A := X.A.in1) (us := [.ref a]) (vs := [.ref a]) F hr2 rfl hb hx (I1.tok _) (.cons rfl .nil) q) (fun v s' z => strback z) fun _ _ x => x
end
/-- f'..' within a comprehension -/
def tJoined (ts : List TE) : TE := fun σ H Q => tJs ts Str.empty σ H fun out H1 => Q (.str out) H1
theorem pe_joinedN {v1 v2 : Expr} {rest : List Expr} {ts : List TE} {pos : Pos} (h : PJ X (v1 :: v2 :: rest) ts) : PE X (.JoinedStr (v1 :: v2 :: rest) pos) (tJoined ts) := pe_joined h
/-- what xs[lo::k] picks -/
def stepIx (lo : Option Int) (k : Int) (n : Nat) : List Nat := sliceRange (sliceBounds lo none (some k) n).1 (sliceBounds lo none (some k) n).2.1 (sliceBounds lo none (some k) n).2.2
def stepV {α : Type} (xs : List α) (lo : Option Int) (k : Int) : List α := (stepIx lo k xs.length).filterMap (xs[·]?)
theorem vals_pick {xs : List V} {its : List Value} (r : Vals xs its) : ∀ ix : List Nat, Vals (ix.filterMap (xs[·]?)) (ix.filterMap (its[·]?))
  | [] => .nil
  | i :: ix => by
    rw [List.filterMap_cons, List.filterMap_cons]
    have hl := r.length
    by_cases h : i < xs.length
    · obtain ⟨u, eu, ru⟩ : ∃ u, its[i]? = some u ∧ RelV xs[i] u := by
        clear hl
        revert i
        induction r with
        | nil => intro i h; exact absurd h (Nat.not_lt_zero _)
        | cons a _ ih =>
          intro i h
          cases i with
          | zero => exact ⟨_, rfl, a⟩
          | succ i => exact ih i (Nat.lt_of_succ_lt_succ h)
      rw [List.getElem?_eq_getElem h, eu]
      exact .cons ru (vals_pick r ix)
    · rw [List.getElem?_eq_none (by omega), List.getElem?_eq_none (by omega)]
      exact vals_pick r ix
def tStepL (K : PySem.W.Frag) (te : TE) (tl : TO) (k : Int) : TE := fun σ H Q => te σ H fun x H1 => tl σ H1 fun lo H2 => ∃ a xs, x = .ref a ∧ SqL K H2 a xs ∧ (stepV xs lo k).length ≤ sizeLine ∧ ∀ p, H2 p = none → Q (.ref p) (upd H2 p (.lst (stepV xs lo k)))
theorem pe_stepL {e : Expr} {lo : Option Expr} {te : TE} {tl : TO} {k : Int} {kk : Nat} {p1 p3 pos : Pos} (he : PE X e te) (hlo : PO X lo tl) (hk : k ≠ 0) : PE X (.Subscript e (.Slice lo none (some (.Constant (.int k) kk p1)) p3) pos) (tStepL X.K te tl k) := by
  refine ⟨fun pins s σ H Q I h => ?_⟩
  refine Subscript_ (thn (he.run pins s σ H _ I h) fun v s1 ⟨x, H1, I1, r1, q1⟩ => ?_)
  have hst : PO X (some (.Constant (.int k) kk p1)) (tPart (tC (.int k))) := po_some pe_int
  refine wpAny_Slice (thn (hlo.run pins s1 σ H1 _ I1 q1) fun vl s2 ⟨l, H2, I2, pl, q2⟩ => ?_)
  obtain ⟨a, xs, ex, hx, hz2, q⟩ := q2
  subst ex
  cases r1
  refine thn (po_none.run pins s2 σ H2 (fun o H3 => o = none ∧ H3 = H2) I2 ⟨rfl, rfl⟩) fun vu s3 ⟨u, H3, I3, pu, eu, e3⟩ => ?_
  subst eu e3
  refine thn (hst.run pins s3 σ H3 (fun o H4 => o = some k ∧ H4 = H3) I3 ⟨k, rfl, rfl, rfl⟩) fun vs s4 ⟨o, H4, I4, ps, eo, e4⟩ => ?_
  subst eo e4
  have I5 : Inv X pins σ H4 { s4 with heap := s4.heap.push { cls := .type "slice", data := .fields #[vl, vu, vs] } } := I4.kept (t' := s4.toks) fun b ob q => Heap.get?_push_of_some _ q
  obtain ⟨its, r, ht, hz⟩ := I5.list hx
  have hlen := r.length
  show wpAny (model X.prog X.w) X.A (subscriptTail e (.Slice lo none (some (.Constant (.int k) kk p1)) p3) (.ref a) (.ref s4.heap.objs.size)) (EP X pins σ Q) X.xe { s4 with heap := s4.heap.push { cls := .type "slice", data := .fields #[vl, vu, vs] } }
  refine tail_any (ops := [.ref a, .ref s4.heap.objs.size]) ht.isList.typeIs (PySem.slot_list_getitem.lookup) ?_ (by with_unfolding_all rfl)
  refine wpAny_getItem_list_slice ht.isList (Heap.IsSliceOf.new _ vl vu vs) pl pu ps (fun e => hk (Option.some.inj e)) ?_ (by rw [List.size_toArray]; omega)
  have hp := vals_pick r (stepIx l k xs.length)
  have e1 : slicePick its.toArray l none (some k) = ((stepIx l k xs.length).filterMap (its[·]?)).toArray := by
    unfold slicePick stepIx
    rw [List.size_toArray, hlen]
    simp
  rw [e1]
  refine ⟨.ref _, _, I5.laid (t' := s4.toks) (o := .lst (stepV xs l k)) (fun b ob q => Heap.get?_push_of_some _ q) (Nat.le_refl _) ?_, rfl, q _ (I5.hok.fresh (Nat.le_refl _))⟩
  exact ⟨hz2, _, 0, hp, Heap.get?_push_size _ rfl⟩
end
/-- all the places -/
theorem fm_range {α : Type} : ∀ (l : List α), (List.range l.length).filterMap (fun k => l[k]?) = l
  | [] => rfl
  | x :: l => by
    rw [List.length_cons, List.range_succ_eq_map, List.filterMap_cons]
    show x :: _ = _
    rw [List.filterMap_map]
    congr 1
    exact fm_range l
/-- two lists by turns -/
def weave {α : Type} : List α → List α → List α
  | b :: bs, s :: ss => b :: s :: weave bs ss
  | _, _ => []
theorem weave_at {α : Type} : ∀ (bs ss : List α) (k : Nat), bs.length = ss.length → (weave bs ss)[2 * k]? = bs[k]? ∧ (weave bs ss)[2 * k + 1]? = ss[k]?
  | [], [], k, _ => ⟨by simp [weave], by simp [weave]⟩
  | b :: bs, s :: ss, 0, _ => ⟨rfl, rfl⟩
  | b :: bs, s :: ss, k + 1, h => by
    have := weave_at bs ss k (Nat.succ.inj h)
    exact this
theorem weave_len {α : Type} : ∀ (bs ss : List α), bs.length = ss.length → (weave bs ss).length = 2 * bs.length
  | [], [], _ => rfl
  | b :: bs, s :: ss, h => by
    have := weave_len bs ss (Nat.succ.inj h)
    show (weave bs ss).length + 1 + 1 = 2 * (bs.length + 1)
    omega
theorem step_odd {α : Type} {s0 : α} {bs ss : List α} (h : bs.length = ss.length) : stepV (s0 :: weave bs ss) (some 1) 2 = bs := by
  have hl := weave_len bs ss h
  unfold stepV stepIx
  have e : sliceBounds (some 1) none (some 2) (s0 :: weave bs ss).length = (1, ((2 * bs.length + 1 : Nat) : Int), 2) := by
    rw [List.length_cons, hl]
    show (max 0 (min 1 _), _, _) = _
    congr 1
    omega
  rw [e]
  show ((List.range (if (2 : Int) > 0 then (if (1 : Int) < ((2 * bs.length + 1 : Nat) : Int) then (((2 * bs.length + 1 : Nat) : Int) - 1 + 2 - 1) / 2 else 0) else _).toNat).map fun (k : Nat) => ((1 : Int) + 2 * (k : Int)).toNat).filterMap _ = bs
  rw [if_pos (by decide)]
  have hc : (if (1 : Int) < ((2 * bs.length + 1 : Nat) : Int) then (((2 * bs.length + 1 : Nat) : Int) - 1 + 2 - 1) / 2 else 0).toNat = bs.length := by split <;> omega
  rw [hc, List.filterMap_map]
  refine Eq.trans ?_ (fm_range bs)
  refine congrArg (fun f => List.filterMap f (List.range bs.length)) (funext fun k => ?_)
  show (s0 :: weave bs ss)[((1 : Int) + 2 * (k : Int)).toNat]? = _
  rw [show ((1 : Int) + 2 * (k : Int)).toNat = 2 * k + 1 by omega, List.getElem?_cons_succ, (weave_at bs ss k h).1]
theorem step_even {α : Type} {s0 : α} {bs ss : List α} (h : bs.length = ss.length) : stepV (s0 :: weave bs ss) none 2 = s0 :: ss := by
  have hl := weave_len bs ss h
  unfold stepV stepIx
  have e : sliceBounds none none (some 2) (s0 :: weave bs ss).length = (0, ((2 * bs.length + 1 : Nat) : Int), 2) := by
    rw [List.length_cons, hl]
    rfl
  rw [e]
  show ((List.range (if (2 : Int) > 0 then (if (0 : Int) < ((2 * bs.length + 1 : Nat) : Int) then (((2 * bs.length + 1 : Nat) : Int) - 0 + 2 - 1) / 2 else 0) else _).toNat).map fun (k : Nat) => ((0 : Int) + 2 * (k : Int)).toNat).filterMap _ = s0 :: ss
  rw [if_pos (by decide)]
  have hc : (if (0 : Int) < ((2 * bs.length + 1 : Nat) : Int) then (((2 * bs.length + 1 : Nat) : Int) - 0 + 2 - 1) / 2 else 0).toNat = (s0 :: ss).length := by rw [List.length_cons, ← h]; split <;> omega
  rw [hc, List.filterMap_map]
  refine Eq.trans ?_ (fm_range (s0 :: ss))
  refine congrArg (fun f => List.filterMap f (List.range (s0 :: ss).length)) (funext fun k => ?_)
  show (s0 :: weave bs ss)[((0 : Int) + 2 * (k : Int)).toNat]? = _
  rw [show ((0 : Int) + 2 * (k : Int)).toNat = 2 * k by omega]
  cases k with
  | zero => rfl
  | succ k =>
    rw [show 2 * (k + 1) = (2 * k + 1) + 1 by omega, List.getElem?_cons_succ, List.getElem?_cons_succ, (weave_at bs ss k h).2]
/-! ### exceptions with no fields; a clause of two classes; calls whose exceptions go out, or are caught -/
theorem flyingZ_grow {base h h' : Heap} {l : List Env} {e : Addr} {Z : Obj → Prop} (x : HandSPX.FlyingZ base l e Z h) (k : ∀ b o, h.get? b = some o → h'.get? b = some o) : HandSPX.FlyingZ base l e Z h' := by
  obtain ⟨a, b, c, oe, vs, T, oT, ts, t1, t2, t3, t4, t5, t6, t7, t8, t9⟩ := x
  exact ⟨fun p o q => k _ _ (a p o q), b, c.of_keeps fun p o q _ => ⟨o, k _ _ q, rfl⟩, oe, vs, T, oT, ts, k _ _ t1, t2, t3, t4, t5, t6, k _ _ t7, t8, t9⟩
def wKeep2 (K : PySem.W.Frag) (c c2 : Value) (i : Nat) (ts : Addr → Value → Option Addr → TS) (D : Ends) : WX := fun cls d σ H =>
  PySem.W.exmAny K cls [c, c2] = some true ∧ ∀ a, H a = none → ts a cls d (goneE i D) (σ.set i (some (.ref a))) (upd H a (keptX cls d a))
section
variable {X : Cx} {x x2 n : Str} {c c2 : Value} {i : Nat} {body suite : List Stmt} {b₀ : Stmt} {np np2 tpos pos pos' : Pos} {kk : Nat} {tb : WX → TS} {ts : Addr → Value → Option Addr → TS}
theorem ps_try_keep2 (hs : X.stack = X.env :: X.outer) (hf : X.env.frame = some X.env.locals) (hex : X.ex = []) (hN : X.N.Nodup) (hi : X.N[i]? = some n) (hln : X.env.kindOf n = some .local) (hc : Names X x c) (hc2 : Names X x2 c2)
    (hb : ∀ (W : WX) (pn : List (Addr × Obj)) (xe : Value → Shared → Prop), Takes (X.tr pn xe) W → PassesOwn (model X.prog X.w) X.A X.env xe → PSs (X.tr pn xe) body (tb W))
    (hsu : ∀ (a : Addr) (cls : Value) (d : Option Addr) (pn : List (Addr × Obj)), PSs (X.suite a pn) (b₀ :: suite) (ts a cls d)) :
    PS X (.Try body [.ExceptHandler (some (.Tuple [.Name x np, .Name x2 np2] kk tpos)) (some n) (b₀ :: suite) pos'] [] [] pos) (fun D σ H => tb (wKeep2 X.K c c2 i ts D) D σ H) := by
  constructor
  intro pins s σ H D I h
  have ok := I.ok
  have fr0 : X.A.frames = some (X.env :: X.outer) := by
    rw [ok.frames, hs]
  refine wpAny_Try_except ?_
  let xe' : Value → Shared → Prop := fun e s₁ => wpAny (model X.prog X.w) X.A (noteFrame e X.env) (fun _ s₂ => wpAny (model X.prog X.w) X.A (setFlight e none) (fun _ s₃ =>
    wpAny (model X.prog X.w) X.A (handleBy e X.env [.ExceptHandler (some (.Tuple [.Name x np, .Name x2 np2] kk tpos)) (some n) (b₀ :: suite) pos']) (SP X pins D) X.xe s₃) X.xe s₂) X.xe s₁
  have catches : Takes (X.tr (X.pn ++ pins) xe') (wKeep2 X.K c c2 i ts D) := by
    rintro u s' ⟨a, B, sI, pins', σ', H', cls, d, rfl, J', nb, up, sky, na, os, ag, hm, hyes⟩
    have J : Inv X pins σ' H' sI := J'.ofTry ok
    rw [show (X.tr (X.pn ++ pins) xe').stack = X.env :: X.outer from hs] at sky
    show wpAny (model X.prog X.w) X.A (noteFrame (.ref a) X.env) _ _ _
    refine Sky.land Zc.steady fr0 hf sky ?_
    intro h3 fl3 up3
    have J3 : Inv X pins σ' H' { s' with heap := h3 } := J.landed nb fl3.1 (up.trans up3) os ag
    refine wpAny_handleBy_cons (codeAny_handlers_test ?_) (fun q => nomatch q)
    -- the class is looked up and held against
    have look : PySem.W.Looks (model X.prog X.w) h3 (typeOf (.ref a)) cls := by
      obtain ⟨o3, v3, e3, z3, d3⟩ := fl3.there
      intro A Q E s k q
      refine wpAny_typeOf_ref (k _ _ e3) ?_
      rw [z3.1]
      exact q
    have named : ∀ {y : Str} {d : Value} {npy : Pos} {Q : Value → Shared → Prop} {E : Value → Shared → Prop}, Names X y d → Q d { s' with heap := h3 } → wpAny (model X.prog X.w) (X.A.mark (some (.ref a))) (eval (.Name y npy) X.env) Q E { s' with heap := h3 } := by
      intro y d npy Q E hy q
      have S3 := inv_into J3 a
      obtain ⟨hg, hdb, hv⟩ := hy
      rcases hv with hv | ⟨hv, hw, hn⟩
      · exact ld_glob (X := X.suite a (X.pn ++ pins)) S3 hg hv q hdb
      · exact ld_blt (X := X.suite a (X.pn ++ pins)) S3 hg hv hw q hn hdb
    refine wpAny_Tuple ?_
    refine wpAny_items_cons (named hc ?_)
    refine wpAny_items_cons (named hc2 ?_)
    refine wpAny_items_nil ⟨by size_fits, ?_⟩
    have kp : ∀ b o, h3.get? b = some o → (h3.push { cls := .type "tuple", data := .seq [c, c2].toArray }).get? b = some o := fun _ _ z => Heap.get?_push_of_some _ z
    have fl5 := flyingZ_grow fl3 kp
    have up5 : h3.UpToSlots (h3.push { cls := .type "tuple", data := .seq [c, c2].toArray }) := Heap.UpToSlots.of_keeps kp
    refine (PySem.W.exm_tup2 (M := model X.prog X.w) (J3.kIn.keeps kp) (look.keeps kp) (Heap.get?_push_size h3 rfl) hm).here (codeAny_handlers_suite_as (HandSPX.lands_againZ fl5 ?_))
    intro h4 fl4 up4
    have J4 : Inv X pins σ' H' { s' with heap := h4 } := J.landed nb fl4.1 (((up.trans up3).trans up5).trans up4) os ag
    obtain ⟨o4, v4, e4, z4, d4⟩ := fl4.there
    have ge : sI.heap.get? a = none := by
      cases q : sI.heap.get? a with
      | none => rfl
      | some o =>
        exfalso
        by_cases hm' : a ∈ frs (X.env :: X.outer)
        · obtain ⟨_, o', q', nf⟩ := fl4.2.2.1.mem hm'
          rw [e4] at q'
          cases q'
          exact nf _ d4
        · have z := nb a o q (by rw [show (X.tr (X.pn ++ pins) xe').stack = X.env :: X.outer from hs]; exact hm')
          rw [fl4.2.1] at z
          cases z
    have S4 := inv_into (inv_keep J ge J4 hex e4 z4 d4 na) a
    refine store_ok (X := X.suite a (X.pn ++ pins)) (v := .ref a) S4 hN hi (.inl hln) rfl ?_ (.inr hln)
    intro s5 S5
    refine wpAny_mono ((hsu a cls d (X.pn ++ pins)).run [] s5 _ _ (goneE i D) S5 (hyes a na)) ?_ (fun _ _ z => False.elim z)
    intro f s6 sp
    have out : ∀ {σ6 : L2.St} {H6 : Hp} {Q : Shared → Prop}, Inv (X.suite a (X.pn ++ pins)) [] σ6 H6 s6 → (∀ s7, Inv X pins (σ6.set i none) H6 s7 → Q s7) →
        wpAny (model X.prog X.w) X.A (do bindName X.env n .none; unbindBehindTheSuite X.env n pos') (fun _ s7 => Q s7) X.xe s6 := by
      intro σ6 H6 Q S6 hq
      exact gone_ok (inv_outof S6 ok) hN hi hln hq
    match f, sp with
    | .next, ⟨_, _, S6, q⟩ => exact out S6 fun s7 J7 => ⟨_, _, J7, q⟩
    | .brk, ⟨_, _, S6, q⟩ => exact out S6 fun s7 J7 => ⟨_, _, J7, q⟩
    | .cont, ⟨_, _, S6, q⟩ => exact out S6 fun s7 J7 => ⟨_, _, J7, q⟩
    | .ret u, ⟨_, _, _, S6, r, q⟩ => exact out S6 fun s7 J7 => ⟨_, _, _, J7, r, q⟩
  refine wpAny_mono ((hb (wKeep2 X.K c c2 i ts D) (X.pn ++ pins) xe' catches PassesOwn.looking).run [] s σ H D (I.toTry _) h) ?_ (fun _ _ z => z)
  intro f s1 sp
  match f, sp with
  | .next, ⟨σ', H', J, q⟩ => exact wpAny_execs_nil ⟨σ', H', J.ofTry ok, q⟩
  | .brk, ⟨σ', H', J, q⟩ => exact ⟨σ', H', J.ofTry ok, q⟩
  | .cont, ⟨σ', H', J, q⟩ => exact ⟨σ', H', J.ofTry ok, q⟩
  | .ret u, ⟨v, σ', H', J, r, q⟩ => exact ⟨v, σ', H', J.ofTry ok, r, q⟩
end
section
variable {X : Cx} {C : Addr} {B : String}
def tMk0 (C : Addr) : L2.St → Hp → XK → Prop := fun _ H Q => Q (.ref C) none H
/-- X() -/
theorem pmk_own0 {x : Str} {p pos : Pos} (hF : ∃ (bm : List Value) (ni ii : String), PySem.ExcBaseFacts B ni ii bm ∧ PySem.W.excIn X.K C bm ni = true) (ex : PySem.W.subIn X.K (.ref C) (.type "BaseException") = some true) (ty : PySem.W.typeIn X.K (.ref C) = some (.type "type"))
    (gC : X.mg x = some (.ref C)) (kC : PySem.W.keepIn X.K (.ref C) = true) (hg : Gl X x) (hdb : (x == ("__debug__" : Str)) = false := by decide) : PMk X (.Call (.Name x p) [] [] pos) (tMk0 C) := by
  intro pins s σ H Q I h
  obtain ⟨bm0, ni, ii, F, q⟩ := hF
  refine wpAny_Call_Name_kw (ld_glob I hg gC ?_ hdb)
  refine PySem.W.callWith_K0 (I.kIn) kC ?_
  show wpAny _ _ (call (.ref C) []) _ _ _
  obtain ⟨bm, N, nm, qn, bs, hdct, sn, sub, ab, col, dd, k0, k1, k2, k3, k5, mN, hC, hN, hni, T⟩ := exc_obj I.kIn q
  refine wpAny_call_exc_subT F T hC hN hni (fun h' e hm => ?_) (by show 0 ≤ sizeLine; rw [sizeLine_eq]; omega)
  exact mk_of I hm (raises_own ex ty) h (I.hok.gone hm.new)
/-- what a callee lets out goes out of the def -/
theorem passOut {E : XK} (hs : X.stack = X.env :: X.outer) (hf : X.env.frame = some X.env.locals) (hex : X.ex = []) {E₁ : Value → Shared → Prop}
    (hx : X.xe = fun e s' => wpAny (model X.prog X.w) X.A (leaving X.env e) (fun _ s'' => L2.CX X.prog X.w X.outer X.H_0 X.s_0 E e s'') E₁ s') : Passes (L2.CX X.prog X.w) X E := fun pins σ H s e s' I c =>
  takes_of (E := E) hs hf hex hx e s' (XE.of_call I (fun _ _ _ h => h) c)
end
section
variable {X : Cx} {CX : CXT} {k : Nat} {f C : Addr} {fd : FuncData} {ps : List Str} {sp : Sp} {E : L2.St → XK} {m : Str} {apos pos : Pos} {e o : Expr} {es : List Expr} {ta : TE} {t : TA}
def tMethSd (C : Addr) (m : Str) (sp : Sp) (E : L2.St → XK) (ta : TE) (t : TA) : TE := fun σ H Q => ta σ H fun x H1 => ∃ a dx fs, x = .ref a ∧ H1 a = some (.ins C dx fs) ∧ fs.lookup m = none ∧ t σ H1 fun vs H2 => sp (x :: vs) H2 Q (E σ)
/-- o.m(..) within a try -/
theorem pe_methSd {pl : Sem Bool} (he : PE X o ta) (c : Cls X.K C) (hm : Meth X.K C m f) (F : FnOk X.prog X.w X.K X.mg X.base CX k f fd ps sp) (hr : Room k X.A) (hb : Binds X.K fd ps []) (hx : ∀ σ, PassesAt CX X σ (E σ)) (ha : PA X (e :: es) t)
    (hst : starEach (e :: es) X.env = (false, eval e X.env) :: starEach es X.env := by rfl) (hpl : (backTo pos (starEach es X.env)).any (·.1) = false := by rfl)
    (ht : eval (.Call (.Attribute o m apos) (e :: es) [] pos) X.env = (do
      let ov ← eval o X.env
      standAt apos.atName
      let (f, first) ← holding [ov] (getMethod ov m pl)
      callWith pos f first (backTo pos (starEach (e :: es) X.env)) (backToKw pos (keywordEach [] X.env))) := by rfl) :
    PE X (.Call (.Attribute o m apos) (e :: es) [] pos) (tMethSd C m sp E ta t) := by
  refine ⟨fun pins s σ H Q I h => ?_⟩
  refine PySem.W.methodCall_KW (pl := pl) (thn (he.run pins s σ H _ I h) fun u s1 ⟨x, H1, I1, rx, a, dx, fs, ex, ea, l, q⟩ => ?_) ht
  subst ex
  obtain rfl : u = Value.ref a := rx
  refine getmeth_ok I1 ea c hm l ?_
  refine PySem.W.callWith_K (first := [.ref a]) (h₀ := X.base) I.ok.mod.kin hm.kp (thn (ha.run pos pins s1 σ H1 _ I1 q) fun us s2 ⟨vs, H2, I2, r, q2⟩ => ⟨I2.kIn, ?_⟩) hst hpl
  exact run_fnS (us := .ref a :: us) (vs := .ref a :: vs) F hr hb (hx σ) I2 (.cons rfl r) q2
end
theorem i_methSd {C : Addr} {m : Str} {sp : Sp} {E : L2.St → XK} {ta : TE} {t : TA} {σ : L2.St} {H : Hp} {Q : VK} (h : ta σ H fun x H1 => ∃ a dx fs, x = .ref a ∧ H1 a = some (.ins C dx fs) ∧ fs.lookup m = none ∧ t σ H1 fun vs H2 => sp (x :: vs) H2 Q (E σ)) : tMethSd C m sp E ta t σ H Q := h
/-- try: x = o.m(..) -/
def tbSetM (C : Addr) (m : Str) (sp : Sp) (ta : TE) (t : TA) (j : Nat) : WX → TS := fun W => tAsg (tMethSd C m sp (fun σ cls d H' => W cls d σ H') ta t) (gName j)
/-! ### a kept exception with no fields -/
def KeptN (H : Hp) (a C : Addr) : Prop := H a = some (keptX (.ref C) none a)
theorem keptN_inst {X : Cx} {pins : List (Addr × Obj)} {σ : L2.St} {H : Hp} {s : Shared} {a C : Addr} (I : Inv X pins σ H s) (h : KeptN H a C) : ∃ ox : Obj, PySem.W.InstAt s.heap a ox C none := by
  obtain ⟨oe, vs, ho, hz, hd⟩ := keptX_at I.hok h
  refine ⟨oe, ho, hz.1, ?_, ?_⟩
  · unfold PySem.W.notCls
    rw [hd] <;> rfl
  · rw [hz.2]
    trivial
def rIsN (K : PySem.W.Frag) : List V → Hp → VK → Prop := fun xs H Q => rIsO K xs H Q ∨ ∃ (a C : Addr) (c : V) (u : Value) (b : Bool), xs = [.ref a, c] ∧ KeptN H a C ∧ ExcC K C ∧ ClsV c u ∧ PySem.W.kitOne K (.ref C) u = some b ∧ Q (.bl b) H
theorem call_isN {X : Cx} : CallR X (.builtin "isinstance") (rIsN X.K) := by
  intro pins s σ H xs us Q I r h
  rcases h with h | ⟨a, C, c, u, b, rfl, hk, T, k, e, q⟩
  · exact call_isO pins s σ H xs us Q I r h
  obtain ⟨u1, u2, rfl, r1, r2⟩ := vals2 r
  obtain rfl : u1 = Value.ref a := r1
  have e2 := k.eq r2
  subst e2
  obtain ⟨ox, J⟩ := keptN_inst I hk
  exact PySem.W.kia_one (keptE_kit T) I.kIn J e (fun z => nomatch z) fun tk => ⟨.bl b, H, I.tok tk, rfl, q⟩
def rIsNT (K : PySem.W.Frag) : List V → Hp → VK → Prop := fun xs H Q => rIsOT K xs H Q ∨ ∃ (a C : Addr) (tp : Addr) (cs : List V) (us : List Value) (b : Bool), xs = [.ref a, .ref tp] ∧ KeptN H a C ∧ ExcC K C ∧ H tp = some (.tup cs) ∧ Paired ClsV cs us ∧
  PySem.W.kitAny K (.ref C) us = some b ∧ Q (.bl b) H
theorem call_isNT {X : Cx} : CallR X (.builtin "isinstance") (rIsNT X.K) := by
  intro pins s σ H xs us Q I r h
  rcases h with h | ⟨a, C, tp, cs, ws, b, rfl, hk, T, hT, k, e, q⟩
  · exact call_isOT pins s σ H xs us Q I r h
  obtain ⟨u1, u2, rfl, r1, r2⟩ := vals2 r
  obtain rfl : u1 = Value.ref a := r1
  obtain rfl : u2 = Value.ref tp := r2
  obtain ⟨ox, J⟩ := keptN_inst I hk
  have ht : ObjOk X.prog X.w H s.heap tp (.tup cs) := I.hok tp _ hT
  obtain ⟨_, its, rv, o, h1, h2, n, h3⟩ := ht
  have e3 := ClsV.all k rv
  subst e3
  obtain ⟨oc, od', dt, sl⟩ := o
  simp only at h2 h3
  subst h2 h3
  exact PySem.W.kia_tup (keptE_kit T) I.kIn J h1 e (fun z => nomatch z) fun tk => ⟨.bl b, H, I.tok tk, rfl, q⟩
/-! ### x in a list of own objects and other things, x an own object -/
section
open SeqAt AutoSeq1 MeetsSeq MeetsSeq2 MeetsSeq3 SeqRoads2
open PySem.Builtin
variable {prog : Program} {w : World} {A : Around} {R : Result → Shared → Prop}
theorem contains_loopN (l : Addr) (x : Value) (N : Nat) (bs : Nat → Bool) (I : Nat → Shared → Prop) (hl : LoopB prog w A (fun e s' => R (.error e) s') l x N bs I) (hno : ∀ m, m < N → bs m = false)
    (fin : ∀ s, I N s → R (.ok (.ret (.bool false))) s) (k : Nat) :
    ∀ i : Nat, N - i = k → i ≤ N → ∀ s, I i s →
      wpAny (model prog w) A.in1 (Builtin.«list.__contains__.loop» ⟨[.ref l, x, rawInt i], []⟩) (GQ.FinOf prog w A R) (fun e s' => R (.error e) s') s := by
  induction k with
  | zero =>
    intro i hk hij s h
    have hij' : i = N := by omega
    subst hij'
    obtain ⟨items, n, hl1, hs1, turn⟩ := hl _ _ h
    have hR := fin s h
    obtain ⟨hp, g, d, tk, os⟩ := s
    wp_walk using wpAny_loadPart' hl1
    have hi : items[((i : Nat) : Int).toNat]? = none := by simp; omega
    rw [hi]
    wp_walk
    exact hR
  | succ k ih =>
    intro i hk hij s h
    obtain ⟨items, n, hl1, hs1, turn⟩ := hl _ _ h
    have hlt : i < items.size := by omega
    have ht := turn hlt
    obtain ⟨hp, g, d, tk, os⟩ := s
    wp_walk using wpAny_loadPart' hl1
    have hi : items[((i : Nat) : Int).toNat]? = some items[i] := by simp [hlt]
    have hc : ((i : Int) + 1) = ((i + 1 : Nat) : Int) := by omega
    rw [hi]
    refine wpAny_bind (wpAny_mono ht (fun r s2 h2 => ?_) fun _ _ x => x)
    obtain ⟨hr, h2⟩ := h2
    subst hr
    rw [hno i (by omega)]
    have hrec := ih (i + 1) (by omega) (by omega) s2 h2
    obtain ⟨hp2, g2, d2, tk2, os2⟩ := s2
    wp_walk
    rw [hc]
    exact ⟨plainId_quiet plain_contains_loop _, codeAny_builtin entry_contains_loop (by
      rw [Around.under_plainId plain_contains_loop _]
      exact hrec)⟩
theorem list_containsN (l : Addr) (x : Value) (N : Nat) (bs : Nat → Bool) (I : Nat → Shared → Prop) (hl : LoopB prog w A (fun e s' => R (.error e) s') l x N bs I) (hno : ∀ m, m < N → bs m = false)
    (fin : ∀ s, I N s → R (.ok (.ret (.bool false))) s) {s : Shared} (h : I 0 s) :
    wpAny (model prog w) A.in1 (Builtin.«list.__contains__» ⟨[.ref l, x], []⟩) (GQ.FinOf prog w A R) (fun e s' => R (.error e) s') s := by
  obtain ⟨items, n, hl1, hs1, _⟩ := hl _ _ h
  have hrec := contains_loopN (A := A) (R := R) l x N bs I hl hno fin N 0 (by omega) (Nat.zero_le _) s h
  obtain ⟨hp, g, d, tk, os⟩ := s
  wp_walk using wpAny_loadPart' hl1
  exact ⟨plainId_quiet plain_contains_loop _, codeAny_builtin entry_contains_loop (by
    rw [Around.under_plainId plain_contains_loop _]
    exact hrec)⟩
end
section
open SeqAt
open PySem.Builtin
variable {X : Cx} {CX : CXT} {C g : Addr} {n : Nat} {fd : FuncData} {ps : List Str} {sp : Sp} {E : XK}
theorem loopB_mono {D : V → V → Hp → Bool → Prop} (mono : ∀ x y H H' b, Same H H' → D x y H b → D x y H' b) (e : EqB X n D) {A : Around} (sb : L2.Sub X (n + 1) A) {pins : List (Addr × Obj)} {σ : L2.St} {H : Hp} {l : Addr} {xs : List V} {x : V} {u : Value} {bs : Nat → Bool} (hl : H l = some (.lst xs)) (ru : RelV x u)
    (hd : ∀ i y, xs[i]? = some y → D y x H (bs i)) : LoopB X.prog X.w A X.xe l u xs.length bs (fun _ s' => ∃ H', L2.Inv X pins σ H' s' ∧ Same H H') := by
  rintro i s ⟨H', I, k⟩
  obtain ⟨_, its, m, r, hp⟩ := (show ObjOk X.prog X.w H' s.heap l (.lst xs) from I.hok l _ (k _ _ hl))
  refine ⟨its.toArray, m, hp, by simpa using r.length.symm, fun h1 => ?_⟩
  have h1' : i < its.length := by simpa using h1
  have hix : i < xs.length := by rw [r.length]; exact h1'
  obtain ⟨v, hv, rv⟩ := r.get (List.getElem?_eq_getElem hix)
  have ev : its.toArray[i] = v := by
    rw [List.getElem?_eq_getElem h1'] at hv
    simpa using hv
  rw [ev]
  refine wpAny_mono (e A.in1 pins s σ H' _ _ _ _ (bs i) sb.in1 I rv ru (mono _ _ _ _ _ k (hd i _ (List.getElem?_eq_getElem hix)))) (fun r s' z => ?_) fun _ _ x => x
  obtain ⟨hr, H2, I2, k2⟩ := z
  exact ⟨hr, H2, I2, k.trans k2⟩
/-- y in xs, or not -/
def rInX (neg : Bool) (D : V → V → Hp → Bool → Prop) : R2 := fun y x H Q => ∃ (l : Addr) (ys : List V) (bs : Nat → Bool), x = .ref l ∧ H l = some (.lst ys) ∧ (∀ i z, ys[i]? = some z → D z y H (bs i)) ∧
  ((∃ j, j < ys.length ∧ bs j = true ∧ (∀ m, m < j → bs m = false) ∧ ∀ H', Same H H' → Q (.bl (!neg)) H') ∨ ((∀ m, m < ys.length → bs m = false) ∧ ∀ H', Same H H' → Q (.bl neg) H'))
theorem contains_X {D : V → V → Hp → Bool → Prop} (mono : ∀ x y H H' b, Same H H' → D x y H b → D x y H' b) (e : EqB X n D) (hr : Room (n + 1) X.A) {neg : Bool} {pins : List (Addr × Obj)} {s : Shared} {σ : L2.St} {H : Hp} {y x : V} {u v : Value} {Q : VK} (I : L2.Inv X pins σ H s) (ru : RelV y u) (rx : RelV x v) (h : rInX neg D y x H Q) :
    wpAny (model X.prog X.w) X.A (PySem.contains v u) (fun b s' => ∃ H', L2.Inv X pins σ H' s' ∧ Q (.bl (if neg then !b else b)) H') X.xe s := by
  obtain ⟨l, ys, bs, rfl, hl, hd, h⟩ := h
  cases (show v = Value.ref l from rx)
  obtain ⟨_, its, m, _, hp⟩ := (show ObjOk X.prog X.w H s.heap l (.lst ys) from I.hok l _ hl)
  have hT : s.TypeIs (.ref l) "list" := ⟨_, hp, rfl⟩
  rcases h with ⟨j, hj, hit, hno, q⟩ | ⟨hno, q⟩
  · refine wpAny_contains_slot hT F.slot_list_contains (wpAny_mono (GQ.call_here (Q := fun v s' => v = .bool true ∧ ∃ H', L2.Inv X pins σ H' s' ∧ Same H H') (E := X.xe) F.slot_list_contains hT F.entry_list_contains (F.args_list_contains_2 _ _)
      (list_containsG l u ys.length bs (fun _ s' => ∃ H', L2.Inv X pins σ H' s' ∧ Same H H') (loopB_mono mono e (sub_here hr) (pins := pins) (σ := σ) hl ru hd) j hj hit hno (fun s' z => ⟨rfl, z⟩) ⟨H, I, fun _ _ e => e⟩)) (fun v s' hv => ?_) fun _ _ e => e)
    obtain ⟨rfl, H', I', k⟩ := hv
    refine wpAny_truthy_bool ⟨H', I', ?_⟩
    have := q H' k
    cases neg <;> exact this
  · refine wpAny_contains_slot hT F.slot_list_contains (wpAny_mono (GQ.call_here (Q := fun v s' => v = .bool false ∧ ∃ H', L2.Inv X pins σ H' s' ∧ Same H H') (E := X.xe) F.slot_list_contains hT F.entry_list_contains (F.args_list_contains_2 _ _)
      (list_containsN l u ys.length bs (fun _ s' => ∃ H', L2.Inv X pins σ H' s' ∧ Same H H') (loopB_mono mono e (sub_here hr) (pins := pins) (σ := σ) hl ru hd) hno (fun s' z => ⟨rfl, z⟩) ⟨H, I, fun _ _ e => e⟩)) (fun v s' hv => ?_) fun _ _ e => e)
    obtain ⟨rfl, H', I', k⟩ := hv
    refine wpAny_truthy_bool ⟨H', I', ?_⟩
    have := q H' k
    cases neg <;> exact this
theorem op_inX {D : V → V → Hp → Bool → Prop} (mono : ∀ x y H H' b, Same H H' → D x y H b → D x y H' b) (e : EqB X n D) (hr : Room (n + 1) X.A) : OpR X (compareOp .In) (rInX false D) := by
  intro pins s σ H y x u v Q I ru rx h
  show wpAny _ X.A (do return Value.bool (← PySem.contains v u)) _ _ s
  refine wpAny_bind (thn (contains_X mono e hr I ru rx h) ?_)
  rintro b s' ⟨H', I', q⟩
  exact wpAny_pure ⟨.bl b, H', I', rfl, q⟩
theorem op_notInX {D : V → V → Hp → Bool → Prop} (mono : ∀ x y H H' b, Same H H' → D x y H b → D x y H' b) (e : EqB X n D) (hr : Room (n + 1) X.A) : OpR X (compareOp .NotIn) (rInX true D) := by
  intro pins s σ H y x u v Q I ru rx h
  show wpAny _ X.A (do return Value.bool (!(← PySem.contains v u))) _ _ s
  refine wpAny_bind (thn (contains_X mono e hr I ru rx h) ?_)
  rintro b s' ⟨H', I', q⟩
  exact wpAny_pure ⟨.bl (!b), H', I', rfl, q⟩
/-- another thing ahead of an own object: its == is asked then -/
def DOth (C : Addr) (G : V → V → Hp → Prop) : V → V → Hp → Bool → Prop := fun x y H b => b = false ∧ LeftOk H x ∧ (∃ a dx fs, y = .ref a ∧ H a = some (.ins C dx fs)) ∧ G y x H
theorem eqB_oth {G : V → V → Hp → Prop} (hs : PySem.W.findIn X.K (.ref C) "__eq__" = some (some (.ref g))) (hf : PySem.W.isFn X.K (.ref g) = true) (N : NotSub X.K C) (Fn : FnOk X.prog X.w X.K X.mg X.base CX n g fd ps sp) (hb : L2.Binds X.K fd ps []) (hx : Passes CX X E0)
    (hsp : ∀ y x H Q, G y x H → (∀ H', Same H H' → Q (.bl false) H') → sp [y, x] H Q E0) : EqB X n (DOth C G) := by
  intro A pins s σ H x y v u b sb I rx ry d
  obtain ⟨rfl, lo, ⟨a, dx, fs, rfl, ha⟩, hG⟩ := d
  cases (show u = Value.ref a from ry)
  obtain ⟨od, J⟩ := inst_of I ha
  have hx0 : s.heap.get? a = some (instObj C dx) := J.at_
  have ne : (v == Value.ref a) = false := by
    cases lo with
    | non => cases (show v = Value.none from rx); rfl
    | int i => obtain ⟨t, rfl⟩ := (show ∃ t, v = Value.int i t from rx); rfl
    | str z => obtain ⟨t, rfl⟩ := (show ∃ t, v = Value.str z t from rx); rfl
    | @lst p xs h =>
      cases (show v = Value.ref p from rx)
      exact beq_eq_false_iff_ne.mpr fun e => by cases e; rw [ha] at h; cases h
    | @tup p xs h =>
      cases (show v = Value.ref p from rx)
      exact beq_eq_false_iff_ne.mpr fun e => by cases e; rw [ha] at h; cases h
    | @dK p xs h =>
      cases (show v = Value.ref p from rx)
      exact beq_eq_false_iff_ne.mpr fun e => by cases e; rw [ha] at h; cases h
  have fin : wpAny (model X.prog X.w) A (call (.ref g) [.ref a, v]) (PySem.W.CmpBack (fun w s' => w = .bool false ∧ ∃ H', L2.Inv X pins σ H' s' ∧ Same H H')) X.xe s :=
    wpAny_mono (run_fnA (A := A) (us := [.ref a, v]) (vs := [.ref a, x]) (Q := fun z H' => z = .bl false ∧ Same H H') Fn sb.room sb.fr hb hx I (.cons rfl (.cons rx .nil)) (hsp _ _ _ _ hG fun H' k => ⟨rfl, k⟩)) (fun w s' z => by
      obtain ⟨z', H', I', rz, rfl, k⟩ := z
      have rz' := rz
      cases (show w = Value.bool false from rz')
      exact SlX.cmpback rz ⟨rfl, H', I', k⟩) fun _ _ x => x
  have isI : ∀ T : String, PySem.W.subIn X.K (.ref C) (.type T) = some false → Looks (model X.prog X.w) s.heap (isInstance (.ref a) (.type T)) false := fun T e => J.type.andThen (looks_subIn I.kIn e)
  have cmp : wpAny (model X.prog X.w) A (richCompare .Eq v (.ref a)) (fun w s' => w = .bool false ∧ ∃ H', L2.Inv X pins σ H' s' ∧ Same H H') X.xe s := by
    cases lo with
    | non =>
      cases (show v = Value.none from rx)
      exact refl_K (T := "NoneType") (ta := .none) sb.room.units0 I.kIn J rfl N.non (decl_ofM rfl F.slot_NoneType_eq F.entry_NoneType_eq (F.args_NoneType_eq_2 _ _) none_decl hx0) hs hf fin
    | int i =>
      obtain ⟨t, rfl⟩ := (show ∃ t, v = Value.int i t from rx)
      exact refl_K (T := "int") (ta := .none) sb.room.units0 I.kIn J (typeIs_int _ _ _) N.int (decl_ofM (typeIs_int _ _ _) F.slot_int_eq F.entry_int_eq (F.args_int_eq_2 _ _) (int_decl _ _) hx0) hs hf fin
    | str z =>
      obtain ⟨t, rfl⟩ := (show ∃ t, v = Value.str z t from rx)
      exact refl_K (T := "str") (ta := .none) sb.room.units0 I.kIn J (typeIs_str _ _ _) N.str (decl_ofM (typeIs_str _ _ _) F.slot_str_eq F.entry_str_eq (F.args_str_eq_2 _ _) (str_decl _ _) hx0) hs hf fin
    | @lst p xs h =>
      cases (show v = Value.ref p from rx)
      obtain ⟨_, its, k, _, hp⟩ := (show ObjOk X.prog X.w H s.heap p (.lst xs) from I.hok p _ h)
      have hT : s.TypeIs (.ref p) "list" := ⟨_, hp, rfl⟩
      exact refl_K (T := "list") (ta := .none) sb.room.units0 I.kIn J hT N.lst (decl_of hT F.slot_list_eq F.entry_list_eq (F.args_list_eq_2 _ _) fun Q' q' => list_decl (isI _ N.lst) q') hs hf fin
    | @tup p xs h =>
      cases (show v = Value.ref p from rx)
      obtain ⟨_, its, _, o, h1, h2, _⟩ := (show ObjOk X.prog X.w H s.heap p (.tup xs) from I.hok p _ h)
      have hT : s.TypeIs (.ref p) "tuple" := ⟨_, h1, h2⟩
      exact refl_K (T := "tuple") (ta := .none) sb.room.units0 I.kIn J hT N.tup (decl_of hT F.slot_tuple_eq F.entry_tuple_eq (F.args_tuple_eq_2 _ _) fun Q' q' => tuple_decl (isI _ N.tup) q') hs hf fin
    | @dK p kvs h =>
      cases (show v = Value.ref p from rx)
      obtain ⟨_, _, vs, _, o, es, ep, h1, h2, _⟩ := (show ObjOk X.prog X.w H s.heap p (.dK kvs) from I.hok p _ h)
      have hT : s.TypeIs (.ref p) "dict" := ⟨_, h1, h2.1⟩
      exact refl_K (T := "dict") (ta := .none) sb.room.units0 I.kIn J hT N.dct (decl_of hT F.slot_dict_eq F.entry_dict_eq (F.args_dict_eq_2 _ _) fun Q' q' => dict_decl (isI _ N.dct) q') hs hf fin
  unfold eqBool
  refine wpAny_holding ?_
  rw [ne]
  simp only [Bool.false_eq_true, if_false]
  have last : wpAny (model X.prog X.w) A (do truthOfDropped (← richCompare .Eq v (.ref a))) (fun r s' => r = false ∧ ∃ H', L2.Inv X pins σ H' s' ∧ Same H H') X.xe s := by
    refine wpAny_bind (wpAny_mono cmp (fun w s' z => ?_) fun _ _ x => x)
    obtain ⟨rfl, z⟩ := z
    exact wpAny_truthy_bool ⟨rfl, z⟩
  cases v <;> exact last
end
def DOr (D D' : V → V → Hp → Bool → Prop) : V → V → Hp → Bool → Prop := fun x y H b => D x y H b ∨ D' x y H b
theorem eqB_or {X : Cx} {n : Nat} {D D' : V → V → Hp → Bool → Prop} (e : EqB X n D) (e' : EqB X n D') : EqB X n (DOr D D') := fun A pins s σ H x y u v b sb I rx ry d => d.elim (e A pins s σ H x y u v b sb I rx ry) (e' A pins s σ H x y u v b sb I rx ry)
theorem emp (x : Str) : Str.empty ++ x = x := ext_tl (by show (Str.empty ++ x).cps.toList = _; rw [Str.cps_append]; simp [Str.empty])
section
open PySem.Builtin PySem.Builtin.Str PySem.Builtin.Int
/-- two figures -/
def two (n : Nat) : Str := ⟨#[48 + n / 10, 48 + n % 10]⟩
theorem gives_cut {v : Value} {T : String} {k : String → Sem PySem.Fin} {m : Made} (hT : ∀ s : Shared, s.TypeIs v T)
    (hn : (Value.type T == Value.type "builtin_function_or_method") = false) (g : ∀ n, Gives (k n) m) : Gives (do let n ← typeNameOfCut 200 v; k n) m := by
  intro prog w A R s hq
  refine wpAny_bind ?_
  unfold typeNameOfCut shownTypeOf
  refine wpAny_bind (wpAny_bind (wpAny_typeOf (hT s) ?_))
  simp only [hn, Bool.false_eq_true, if_false]
  exact wpAny_pure (wpAny_pure (g _ prog w A R s hq))
set_option maxHeartbeats 4000000 in
theorem eq_02d (t u : Tok) : ∀ n : Nat, n < 60 → «int.__format__» ⟨[.int (n : Int) t, .str "02d" u], []⟩ = (do let _ ← typeNameOf (.str "02d" u); let _ ← typeNameOfCut 200 (.int (n : Int) t); retStr (two n))
  | 0, _ => by kernel_rfl
  | 1, _ => by kernel_rfl
  | 2, _ => by kernel_rfl
  | 3, _ => by kernel_rfl
  | 4, _ => by kernel_rfl
  | 5, _ => by kernel_rfl
  | 6, _ => by kernel_rfl
  | 7, _ => by kernel_rfl
  | 8, _ => by kernel_rfl
  | 9, _ => by kernel_rfl
  | 10, _ => by kernel_rfl
  | 11, _ => by kernel_rfl
  | 12, _ => by kernel_rfl
  | 13, _ => by kernel_rfl
  | 14, _ => by kernel_rfl
  | 15, _ => by kernel_rfl
  | 16, _ => by kernel_rfl
  | 17, _ => by kernel_rfl
  | 18, _ => by kernel_rfl
  | 19, _ => by kernel_rfl
  | 20, _ => by kernel_rfl
  | 21, _ => by kernel_rfl
  | 22, _ => by kernel_rfl
  | 23, _ => by kernel_rfl
  | 24, _ => by kernel_rfl
  | 25, _ => by kernel_rfl
  | 26, _ => by kernel_rfl
  | 27, _ => by kernel_rfl
  | 28, _ => by kernel_rfl
  | 29, _ => by kernel_rfl
  | 30, _ => by kernel_rfl
  | 31, _ => by kernel_rfl
  | 32, _ => by kernel_rfl
  | 33, _ => by kernel_rfl
  | 34, _ => by kernel_rfl
  | 35, _ => by kernel_rfl
  | 36, _ => by kernel_rfl
  | 37, _ => by kernel_rfl
  | 38, _ => by kernel_rfl
  | 39, _ => by kernel_rfl
  | 40, _ => by kernel_rfl
  | 41, _ => by kernel_rfl
  | 42, _ => by kernel_rfl
  | 43, _ => by kernel_rfl
  | 44, _ => by kernel_rfl
  | 45, _ => by kernel_rfl
  | 46, _ => by kernel_rfl
  | 47, _ => by kernel_rfl
  | 48, _ => by kernel_rfl
  | 49, _ => by kernel_rfl
  | 50, _ => by kernel_rfl
  | 51, _ => by kernel_rfl
  | 52, _ => by kernel_rfl
  | 53, _ => by kernel_rfl
  | 54, _ => by kernel_rfl
  | 55, _ => by kernel_rfl
  | 56, _ => by kernel_rfl
  | 57, _ => by kernel_rfl
  | 58, _ => by kernel_rfl
  | 59, _ => by kernel_rfl
  | n + 60, h => absurd h (by omega)
theorem gives_02d (n : Nat) (hn : n < 60) (t u : Tok) : Gives («int.__format__» ⟨[.int n t, .str "02d" u], []⟩) (.str (two n)) := by
  rw [eq_02d t u n hn]
  refine gives_after_typeNameOf (T := "str") (fun s => typeIs_str s _ _) (by decide) fun _ => ?_
  refine gives_cut (T := "int") (fun s => typeIs_int s _ _) (by decide) fun _ => ?_
  exact .of_eq rfl
section
variable {X : Cx}
/-- {x:02d}, x of at most two figures -/
def tFmt02 (te : TE) : TE := fun σ H Q => te σ H fun x H1 => ∃ n : Nat, x = .int n ∧ n < 60 ∧ Q (.str (two n)) H1
theorem two_len (n : Nat) : (two n).length ≤ sizeLine := by show 2 ≤ sizeLine; decide
theorem pe_fmt02 {e : Expr} {te : TE} {j : Nat} {pos p1 p2 : Pos} (he : PE X e te) : PE X (.FormattedValue e (-1) (some (.JoinedStr [.Constant (.str "02d") j p1] p2)) pos) (tFmt02 te) := by
  refine ⟨fun pins s σ H Q I h => ?_⟩
  refine wpAny_FormattedValue_spec (thn (he.run pins s σ H _ I h) fun v s1 hv => ?_)
  obtain ⟨x, H1, I1, r1, n, rfl, hn, q⟩ := hv
  obtain ⟨t, rfl⟩ := r1
  refine wpAny_JoinedStr_one (wpAny_Constant_str ⟨"02d", _, rfl, ?_⟩)
  exact wpAny_formatField_spec (by decide) (fun s' => typeIs_int s' n t) F.slot_int_format F.entry_int_format F.args_int_format_2 (fun u => gives_02d n hn t u)
    ⟨.str (two n), H1, I1.tok _, ⟨_, rfl⟩, q⟩ (by decide) (two_len n)
end
end
/-! ### minutes as texts -/
theorem log_small {i : Int} (h : i.natAbs < 2 ^ 64) : i.natAbs.log2 < 1920 := by
  by_cases z : i.natAbs = 0
  · rw [z]; decide
  · have := (Nat.log2_lt z).mpr (Nat.lt_of_lt_of_le h (Nat.pow_le_pow_right (by decide) (by decide : 64 ≤ 1920)))
    exact this
def clockS (m : Nat) : Str := ((Str.empty ++ two (m % 1440 / 60)) ++ ":") ++ two (m % 1440 % 60)
def dayT (m : Nat) : Str := Str.ofString (toString ((m / 1440 : Nat) : Int))
def showS (m : Nat) : Str := if m / 1440 > 0 then ((Str.empty ++ clockS m) ++ "+") ++ dayT m else clockS m
theorem clock_len (m : Nat) : (clockS m).length = 5 := by
  unfold clockS
  rw [Str.length_append, Str.length_append, Str.length_append]; rfl
theorem day_len {m : Nat} (h : m < 14400000000) : (dayT m).length ≤ 8 := toString_length_le (by omega) (by decide) (by omega)
theorem show_len {m : Nat} (h : m < 14400000000) : (showS m).length ≤ 14 := by
  unfold showS
  have := day_len h
  have e := clock_len m
  split
  · rw [Str.length_append, Str.length_append, Str.length_append, e]
    show 0 + 5 + 1 + (dayT m).length ≤ 14
    omega
  · omega
theorem div_nat (m n : Nat) : (m : Int) / (n : Int) = ((m / n : Nat) : Int) := rfl
theorem mod_nat (m n : Nat) : (m : Int) % (n : Int) = ((m % n : Nat) : Int) := rfl
def spShow : Sp := fun vs H Q _ => ∃ m : Nat, vs = [.int (m : Int)] ∧ m < 14400000000 ∧ ∀ H', Same H H' → Q (.str (showS m)) H'
/-- what show_time asks of the module's names -/
structure TxtS (mg : Str → Option Value) : Prop where
  mdivmod : mg "divmod" = none
  mDAY : ∃ t, mg "DAY" = some (.int 1440 t)
  mHOUR : ∃ t, mg "HOUR" = some (.int 60 t)
section
variable {P : Program} {w : World} {K : PySem.W.Frag} {mg : Str → Option Value} {base : Heap}
theorem ok_show {f : Addr} {fd : FuncData} {k : Nat} (F : Fun K "show_time" "show_time" sShow f fd) (T : TxtS mg) : FnOk P w K mg base CX0 (k + 1) f fd ["minute"] spShow := by
  obtain ⟨tDAY, mDAY⟩ := T.mDAY
  obtain ⟨tHOUR, mHOUR⟩ := T.mHOUR
  refine F.ok scShow (fun vs H Q E h => ?_) (fun cdv A outer s H vs Q E hr h => ?_)
  · obtain ⟨m, rfl, _⟩ := h
    rfl
  · obtain ⟨m, rfl, hm, q⟩ := h
    refine ⟨_,
      (pss_cons (ps_asg (pe_callB call_divmod (by rfl) T.mdivmod (by decide +kernel) (pa_cons (pv 0) (pa_cons (pe_glob (v := .int 1440) (by rfl) mDAY ⟨_, rfl⟩) pa_nil))) (pg_tup rfl (pgs_cons (pg_name (i := 1) scShow.nd rfl (.inl rfl)) (pgs_cons (pg_name (i := 2) scShow.nd rfl (.inl rfl)) pgs_nil))))
      (pss_cons (ps_asg (pe_callB call_divmod (by rfl) T.mdivmod (by decide +kernel) (pa_cons (pv 2) (pa_cons (pe_glob (v := .int 60) (by rfl) mHOUR ⟨_, rfl⟩) pa_nil))) (pg_tup rfl (pgs_cons (pg_name (i := 3) scShow.nd rfl (.inl rfl)) (pgs_cons (pg_name (i := 4) scShow.nd rfl (.inl rfl)) pgs_nil))))
      (pss_cons (ps_set (i := 5) scShow.nd rfl (.inl rfl) (pe_joined (.cons (pe_fmt02 (pv 3)) (.cons pe_str (.cons (pe_fmt02 (pv 4)) .nil)))))
      (pss_cons (ps_if (pt_cmpR op_gt (pv 1) pe_int (nomark _))
      (pss_one (ps_ret (pe_joined (.cons (pe_fmt (pv 5)) (.cons pe_str (.cons (pe_fmt (pv 1)) .nil))))))
      pss_nil)
      (pss_one (ps_ret (pv 5)))))))
      , ?_⟩
    refine ⟨_, rfl, _, _, rfl, ⟨by decide, by decide⟩, fun p hp => ?_⟩
    refine ⟨p, _, rfl, .inl (.inl upd_same), rfl, _, _, rfl, _, _, rfl, rfl, ?_⟩
    refine ⟨_, rfl, _, _, rfl, ⟨by decide, by decide⟩, fun p2 hp2 => ?_⟩
    refine ⟨p2, _, rfl, .inl (.inl upd_same), rfl, _, _, rfl, _, _, rfl, rfl, ?_⟩
    have sm : Same H (upd (upd H p (.tup [.int ((m / 1440 : Nat) : Int), .int ((m % 1440 : Nat) : Int)])) p2 (.tup [.int ((m % 1440 / 60 : Nat) : Int), .int ((m % 1440 % 60 : Nat) : Int)])) := (same_upd hp).trans (same_upd hp2)
    refine ⟨_, rfl, m % 1440 / 60, rfl, by omega, _, rfl, small_line (by rw [Str.length_append]; show 0 + 2 ≤ 100; omega), _, rfl, small_line (by rw [Str.length_append, Str.length_append]; show 0 + 2 + 1 ≤ 100; omega), _, rfl, m % 1440 % 60, rfl, by omega, _, rfl, small_line (by rw [Str.length_append, Str.length_append, Str.length_append]; show 0 + 2 + 1 + 2 ≤ 100; omega), ?_⟩
    refine ⟨_, rfl, _, _, rfl, rfl, _, rfl, ite2 (fun c => ?_) (fun c => ?_)⟩
    · have c1 : m / 1440 > 0 := by
        have : (0 : Int) < ((m / 1440 : Nat) : Int) := of_decide_eq_true c
        omega
      have dl := day_len hm
      refine ⟨_, rfl, .inl ⟨clockS m, rfl, small_line (by rw [clock_len]; decide), _, rfl, small_line (by rw [Str.length_append, clock_len]; show 0 + 5 ≤ 100; omega), _, rfl, small_line (by rw [Str.length_append, Str.length_append, clock_len]; show 0 + 5 + 1 ≤ 100; omega), _, rfl, .inr ⟨_, rfl, ?_, _, rfl, small_line ?_, ?_⟩⟩⟩
      · exact log_small (show (m / 1440) < 2 ^ 64 by omega)
      · rw [Str.length_append, Str.length_append, Str.length_append, clock_len]
        show 0 + 5 + 1 + (dayT m).length ≤ 100
        omega
      · have e : showS m = ((Str.empty ++ clockS m) ++ "+") ++ dayT m := if_pos c1
        have z := q _ sm
        rw [e] at z
        exact z
    · have c1 : ¬ m / 1440 > 0 := fun z => c (decide_eq_true (show (0 : Int) < ((m / 1440 : Nat) : Int) by omega))
      have e : showS m = clockS m := if_neg c1
      have z := q _ sm
      rw [e] at z
      exact ⟨_, rfl, z⟩
end
structure TxtX (mg : Str → Option Value) : Prop where
  mstr : mg "str" = none
theorem fmod_nat (m n : Nat) : (m : Int).fmod (n : Int) = ((m % n : Nat) : Int) := by rw [Int.fmod_eq_emod_of_nonneg _ (by omega)]; rfl
theorem fdiv_nat (m n : Nat) : (m : Int).fdiv (n : Int) = ((m / n : Nat) : Int) := by rw [Int.fdiv_eq_ediv_of_nonneg _ (by omega)]; rfl
def nS (n : Nat) : Str := Str.ofString (toString (n : Int))
theorem time_eq : ∀ c : Nat, c < 1440 → (((nS (c / 600) ++ nS (c / 60 % 10)) ++ ":") ++ nS (c % 60 / 10)) ++ nS (c % 10) = ((Str.empty ++ two (c / 60)) ++ ":") ++ two (c % 60) := by decide +kernel
def spTime : Sp := fun vs H Q _ => ∃ m : Nat, vs = [.int (m : Int)] ∧ m < 14400000000 ∧ ∀ H', Same H H' → Q (.str (showS m)) H'
section
variable {P : Program} {w : World} {K : PySem.W.Frag} {mg : Str → Option Value} {base : Heap}
theorem ok_time {f : Addr} {fd : FuncData} {k : Nat} (F : Fun K "_law_time" "_law_time" sTime f fd) (T : TxtX mg) : FnOk P w K mg base CX0 (k + 1) f fd ["_law_moment"] spTime := by
  refine F.ok scTime (fun vs H Q E h => ?_) (fun cdv A outer s H vs Q E hr h => ?_)
  · obtain ⟨m, rfl, _⟩ := h
    rfl
  · obtain ⟨m, rfl, hm, q⟩ := h
    refine ⟨_,
      (pss_cons (ps_set (i := 1) scTime.nd rfl (.inl rfl) (pe_op op_modN (pv 0) pe_int))
      (pss_cons (ps_set (i := 2) scTime.nd rfl (.inl rfl) (pe_op op_add_str (pe_op op_add_str (pe_callTy call_str_int (by rfl) T.mstr (by decide +kernel) (pa_cons (pe_op op_fdivN (pv 1) pe_int) pa_nil)) (pe_callTy call_str_int (by rfl) T.mstr (by decide +kernel) (pa_cons (pe_op op_modN (pe_op op_fdivN (pv 1) pe_int) pe_int) pa_nil))) pe_str))
      (pss_cons (ps_set (i := 2) scTime.nd rfl (.inl rfl) (pe_op op_add_str (pe_op op_add_str (pv 2) (pe_callTy call_str_int (by rfl) T.mstr (by decide +kernel) (pa_cons (pe_op op_fdivN (pe_op op_modN (pv 1) pe_int) pe_int) pa_nil))) (pe_callTy call_str_int (by rfl) T.mstr (by decide +kernel) (pa_cons (pe_op op_modN (pv 1) pe_int) pa_nil))))
      (pss_one (ps_ret (pe_ifExp (pt_cmpR op_lt (pv 0) pe_int (nomark _)) (pv 2) (pe_op op_add_str (pe_op op_add_str (pv 2) pe_str) (pe_callTy call_str_int (by rfl) T.mstr (by decide +kernel) (pa_cons (pe_op op_fdivN (pv 0) pe_int) pa_nil)))))))))
      , ?_⟩
    have a1 : ((m : Int).fmod 1440).fdiv 600 = ((m % 1440 / 600 : Nat) : Int) := by
      rw [show (1440 : Int) = ((1440 : Nat) : Int) from rfl, show (600 : Int) = ((600 : Nat) : Int) from rfl, fmod_nat, fdiv_nat]
    have a2 : (((m : Int).fmod 1440).fdiv 60).fmod 10 = ((m % 1440 / 60 % 10 : Nat) : Int) := by
      rw [show (1440 : Int) = ((1440 : Nat) : Int) from rfl, show (60 : Int) = ((60 : Nat) : Int) from rfl, show (10 : Int) = ((10 : Nat) : Int) from rfl, fmod_nat, fdiv_nat, fmod_nat]
    have a3 : (((m : Int).fmod 1440).fmod 60).fdiv 10 = ((m % 1440 % 60 / 10 : Nat) : Int) := by
      rw [show (1440 : Int) = ((1440 : Nat) : Int) from rfl, show (60 : Int) = ((60 : Nat) : Int) from rfl, show (10 : Int) = ((10 : Nat) : Int) from rfl, fmod_nat, fmod_nat, fdiv_nat]
    have a4 : ((m : Int).fmod 1440).fmod 10 = ((m % 1440 % 10 : Nat) : Int) := by
      rw [show (1440 : Int) = ((1440 : Nat) : Int) from rfl, show (10 : Int) = ((10 : Nat) : Int) from rfl, fmod_nat, fmod_nat]
    have a5 : (m : Int).fdiv 1440 = ((m / 1440 : Nat) : Int) := by
      rw [show (1440 : Int) = ((1440 : Nat) : Int) from rfl, fdiv_nat]
    have te := time_eq (m % 1440) (Nat.mod_lt _ (by decide))
    have ln : ∀ k : Nat, k < 10000 → (nS k).length ≤ 4 := fun k hk => toString_length_le (by omega) (by decide) (by omega)
    have l1 := ln (m % 1440 / 600) (by omega)
    have l2 := ln (m % 1440 / 60 % 10) (by omega)
    have l3 := ln (m % 1440 % 60 / 10) (by omega)
    have l4 := ln (m % 1440 % 10) (by omega)
    refine ⟨_, rfl, _, _, rfl, rfl, (by show (1440 : Int) ≠ 0; decide), ?_⟩
    refine ⟨_, rfl, _, _, rfl, rfl, ⟨by decide, by decide⟩, ((m % 1440 / 600 : Nat) : Int), congrArg (fun z => [V.int z]) a1, log_small (by omega), ?_⟩
    refine ⟨_, rfl, _, _, rfl, rfl, ⟨by decide, by decide⟩, _, _, rfl, rfl, (by show (10 : Int) ≠ 0; decide), ((m % 1440 / 60 % 10 : Nat) : Int), congrArg (fun z => [V.int z]) a2, log_small (by omega), _, _, rfl, rfl, small_line (by show (nS _).length + (nS _).length ≤ 100; omega), _, _, rfl, rfl, small_line (by rw [Str.length_append]; show (nS _).length + (nS _).length + 1 ≤ 100; omega), ?_⟩
    refine ⟨_, rfl, _, rfl, _, _, rfl, rfl, (by show (60 : Int) ≠ 0; decide), _, _, rfl, rfl, ⟨by decide, by decide⟩, ((m % 1440 % 60 / 10 : Nat) : Int), congrArg (fun z => [V.int z]) a3, log_small (by omega), _, _, rfl, rfl, small_line (by rw [Str.length_append, Str.length_append]; show (nS _).length + (nS _).length + 1 + (nS _).length ≤ 100; omega), ?_⟩
    refine ⟨_, rfl, _, _, rfl, rfl, (by show (10 : Int) ≠ 0; decide), ((m % 1440 % 10 : Nat) : Int), congrArg (fun z => [V.int z]) a4, log_small (by omega), _, _, rfl, rfl, small_line (by rw [Str.length_append, Str.length_append, Str.length_append]; show (nS _).length + (nS _).length + 1 + (nS _).length + (nS _).length ≤ 100; omega), ?_⟩
    have z := q H (fun _ _ e => e)
    have hc : (((nS (m % 1440 / 600) ++ nS (m % 1440 / 60 % 10)) ++ ":") ++ nS (m % 1440 % 60 / 10)) ++ nS (m % 1440 % 10) = clockS m := te
    refine ⟨_, rfl, _, _, rfl, rfl, _, rfl, ite2 (fun c => ?_) (fun c => ?_)⟩
    · have c1 : (m : Int) < 1440 := of_decide_eq_true c
      have e : showS m = clockS m := if_neg (by omega)
      rw [e, ← hc] at z
      exact ⟨_, rfl, z⟩
    · have c1 : ¬ (m : Int) < 1440 := fun h => c (decide_eq_true h)
      have e : showS m = ((Str.empty ++ clockS m) ++ "+") ++ dayT m := if_pos (by omega)
      have dl := day_len hm
      rw [e, emp, ← hc] at z
      refine ⟨_, rfl, _, _, rfl, rfl, small_line (by show ((((nS _ ++ nS _) ++ ":") ++ nS _) ++ nS _).length + 1 ≤ 100; rw [hc, clock_len]; decide), _, rfl, _, _, rfl, rfl, ⟨by decide, by decide⟩, ((m / 1440 : Nat) : Int), congrArg (fun z => [V.int z]) a5, log_small (by omega), _, _, rfl, rfl, ?_, z⟩
      show (((((nS _ ++ nS _) ++ ":") ++ nS _) ++ nS _) ++ "+").length + (dayT m).length ≤ sizeLine
      rw [hc, Str.length_append, clock_len]
      exact small_line (by show 5 + 1 + (dayT m).length ≤ 100; omega)
end
/-! ### readings, a step at a time -/
section
variable {σ : L2.St} {H : Hp} {Q : VK} {D : Ends} {ta tb te : TE} {tr t : TA} {E : XK} {sp : Sp} {dvs : List V}
theorem i_var {i : Nat} {v : V} (e : σ[i]? = some (some v)) (h : Q v H) : tVar i σ H Q := ⟨v, e, h⟩
theorem i_c {v : V} (h : Q v H) : tC v σ H Q := h
theorem i_nil {Q : List V → Hp → Prop} (h : Q [] H) : tNil σ H Q := h
theorem i_cons {Q : List V → Hp → Prop} (h : ta σ H fun x H1 => tr σ H1 fun xs H2 => Q (x :: xs) H2) : tCons ta tr σ H Q := h
theorem i_op {r : R2} (h : ta σ H fun x H1 => tb σ H1 fun y H2 => r x y H2 Q) : tOp r ta tb σ H Q := h
theorem i_un {r : V → Hp → VK → Prop} (h : ta σ H fun x H1 => r x H1 Q) : tUn r ta σ H Q := h
theorem i_call (h : t σ H fun vs H1 => sp (vs ++ dvs) H1 Q E) : tCall sp dvs E t σ H Q := h
theorem i_cb {r : List V → Hp → VK → Prop} (h : t σ H fun vs H1 => r vs H1 Q) : tCB r t σ H Q := h
theorem i_asg {g : TG} (h : te σ H fun x H1 => g x σ H1 D.nx) : tAsg te g D σ H := h
theorem i_name {i : Nat} {v : V} {Q : L2.St → Hp → Prop} (h : Q (σ.set i (some v)) H) : gName i v σ H Q := h
theorem i_seq {u v : TS} (h : u { D with nx := v D } σ H) : tSeq u v D σ H := h
theorem i_next (h : D.nx σ H) : tNext D σ H := h
theorem i_ret (h : te σ H D.rt) : tRet te D σ H := h
theorem i_drop (h : te σ H fun _ H1 => D.nx σ H1) : tDrop te D σ H := h
theorem i_if {c : TT} {u v : TS} (h : c σ H fun b H1 => if b = true then u D σ H1 else v D σ H1) : tIfS c u v D σ H := h
theorem i_and {u v : TT} {Q : Bool → Hp → Prop} (h : u σ H fun c H1 => if c = true then v σ H1 Q else Q false H1) : tAnd u v σ H Q := h
theorem i_or {u v : TT} {Q : Bool → Hp → Prop} (h : u σ H fun c H1 => if c = true then Q true H1 else v σ H1 Q) : tOr u v σ H Q := h
theorem i_not {u : TT} {Q : Bool → Hp → Prop} (h : u σ H fun c H1 => Q (!c) H1) : tNot u σ H Q := h
theorem i_test {Q : Bool → Hp → Prop} (h : te σ H fun x H1 => ∃ k, x = .bl k ∧ Q k H1) : tTest te σ H Q := h
theorem i_ite {c : TT} (h : c σ H fun b H1 => if b = true then ta σ H1 Q else tb σ H1 Q) : tIf c ta tb σ H Q := h
theorem i_lst (h : t σ H fun xs H1 => xs.length ≤ sizeLine ∧ ∀ p, H1 p = none → Q (.ref p) (upd H1 p (.lst xs))) : tLst t σ H Q := h
theorem i_tup (h : t σ H fun xs H1 => xs.length ≤ sizeLine ∧ ∀ p, H1 p = none → Q (.ref p) (upd H1 p (.tup xs))) : tTup t σ H Q := h
theorem i_bm {K : PySem.W.Frag} {S : String} {r : V → List V → Hp → VK → Prop} (h : ta σ H fun x H1 => tyV K S x H1 ∧ t σ H1 fun xs H2 => r x xs H2 Q) : tBM K S r ta t σ H Q := h
theorem i_aug {i : Nat} {ti : TIp} {x : V} (e : σ[i]? = some (some x)) (h : te σ H fun y H1 => ti x y H1 fun z H2 => D.nx (σ.set i (some z)) H2) : tAug i te ti D σ H := ⟨x, e, h⟩
theorem i_par {i j : Nat} {v w : V} (h : t σ H fun vs H1 => ∃ v w, vs = [v, w] ∧ D.nx ((σ.set i (some v)).set j (some w)) H1) : tPar i j t D σ H := h
theorem i_gsub {to ti : TE} {ts : TSet} {v : V} {Q : L2.St → Hp → Prop} (h : to σ H fun o H1 => ti σ H1 fun i H2 => ts o i v H2 fun H3 => Q σ H3) : gSub to ti ts v σ H Q := h
theorem i_chain {r r' : R2} {tc : TE} (h : ta σ H fun x H1 => tb σ H1 fun y H2 => r x y H2 fun z H3 => ∃ k, z = .bl k ∧ if k = true then tc σ H3 fun v H4 => r' y v H4 Q else Q (.bl false) H3) : tChain r r' ta tb tc σ H Q := h
theorem i_sl {r : V → Option Int → Option Int → Hp → VK → Prop} {tl th : TO} (h : te σ H fun x H1 => tl σ H1 fun l H2 => th σ H2 fun u H3 => r x l u H3 Q) : tSl r te tl th σ H Q := h
theorem i_nopart {Q : Option Int → Hp → Prop} (h : Q none H) : tNoPart σ H Q := h
theorem i_part {Q : Option Int → Hp → Prop} (h : te σ H fun x H1 => ∃ i, x = .int i ∧ Q (some i) H1) : tPart te σ H Q := h
end
section
variable {σ : L2.St} {H : Hp} {Q : VK} {ta te : TE} {t : TA}
theorem i_m1 {r : V → List V → Hp → VK → Prop} (h : ta σ H fun x H1 => (∃ a, x = .str a) ∧ te σ H1 fun y H2 => r x [y] H2 Q) : tM1 r ta te σ H Q := h
theorem i_m0 {r : V → List V → Hp → VK → Prop} (h : ta σ H fun x H1 => (∃ a, x = .str a) ∧ r x [] H1 Q) : tM0 r ta σ H Q := h
theorem i_iList {K : PySem.W.Frag} {R : It → Hp → Prop} (h : ta σ H fun x H1 => ∃ a, x = .ref a ∧ (∃ xs, SqL K H1 a xs) ∧ R (Itl K a) H1) : iList K ta σ H R := h
theorem i_iTup {K : PySem.W.Frag} {R : It → Hp → Prop} (h : ta σ H fun x H1 => ∃ a, x = .ref a ∧ (∃ xs, SqT K H1 a xs) ∧ R (Itt K a) H1) : iTup K ta σ H R := h
theorem i_iStr {R : It → Hp → Prop} (h : ta σ H fun v H1 => ∃ x, v = .str x ∧ R (Its x) H1) : iStr ta σ H R := h
theorem i_r1 {R : It → Hp → Prop} (h : t σ H fun vs H1 => ∃ j : Int, vs = [.int j] ∧ -(2 ^ 62) ≤ j ∧ j < 2 ^ 62 ∧ R (Itr 0 j.toNat) H1) : iRng1 t σ H R := h
theorem i_lc {wi : TI} {g : TG} {tt : TT} {vs : List Nat} (h : wi σ H fun J H1 => ∀ D, H1 D = none → ∃ W : Nat → Nat → Hp → Prop, (∃ m, W 0 m (upd H1 D (.lst []))) ∧ ∀ i m H, W i m H →
  (J.stop i H ∧ Q (.ref D) H) ∨ (J.go i H ∧ ∃ Nx : Hp → Prop, (∀ H', Nx H' → ∃ m', m' < m ∧ W (i + 1) m' H') ∧ ∀ x H', J.yld i H x H' → g x (wipe σ vs) H' fun σ2 H2 => wipe σ2 vs = wipe σ vs ∧ tt σ2 H2 fun b H3 =>
    if b = true then te σ2 H3 fun y H4 => ∃ acc, H4 D = some (.lst acc) ∧ acc.length < sizeLine ∧ Nx (upd H4 D (.lst (acc ++ [y]))) else Nx H3)) : tLc wi g tt te vs σ H Q := h
end
theorem app_same {H1 H4 : Hp} {D : Addr} {o : HO} (hD : H1 D = none) (s : Same H1 H4) : Same H1 (upd H4 D o) := fun y u e => by rw [upd_ne (ne_of_none e hD)]; exact s _ _ e
theorem app_keep {F : Addr} {H1 H4 : Hp} {D : Addr} {o : HO} (hD : H1 D = none) (s : Keep F H1 H4) : Keep F H1 (upd H4 D o) := fun y u n e => by rw [upd_ne (ne_of_none e hD)]; exact s _ _ n e
theorem lt_line {n : Nat} (h : n < 100000) : n < sizeLine := Nat.lt_of_lt_of_le h (by decide)
theorem le_line {n : Nat} (h : n ≤ 100000) : n ≤ sizeLine := Nat.le_trans h (by decide)
theorem ixN_nat {n j : Nat} (h : j < n) : ixN n (j : Int) = some j := by
  unfold ixN
  rw [if_pos (by omega), if_pos (by omega)]
  simp
theorem i_callk {σ : L2.St} {H : Hp} {Q : VK} {sp : Sp} {gV : List V → List V → List V} {E : XK} {t tk : TA} (h : t σ H fun vs H1 => tk σ H1 fun zs H2 => sp (gV vs zs) H2 Q E) : tCallK sp gV E t tk σ H Q := h
theorem i_callN {σ : L2.St} {H : Hp} {Q : VK} {n m : Nat} {sp : Sp} {gV : List V → List V → List V} {E : XK} {t tk : TA} (h : t σ H fun vs H1 => tk σ H1 fun zs H2 => vs.length = n ∧ zs.length = m ∧ sp (gV vs zs) H2 Q E) : tCallN n m sp gV E t tk σ H Q := h
theorem i_ckw {σ : L2.St} {H : Hp} {Q : VK} {r : List V → List V → Hp → VK → Prop} {t tk : TA} (h : t σ H fun vs H1 => tk σ H1 fun zs H2 => r vs zs H2 Q) : tCKw r t tk σ H Q := h
theorem i_revL {K : PySem.W.Frag} {σ : L2.St} {H : Hp} {Q : VK} {te : TE} (h : te σ H fun x H1 => ∃ a xs, x = .ref a ∧ SqL K H1 a xs ∧ ∀ p, H1 p = none → Q (.ref p) (upd H1 p (.lst xs.reverse))) : tRevL K te σ H Q := h
theorem ite_str {a b : Str} {A B : Prop} (h1 : a = b → A) (h2 : ¬ a = b → B) : if decide (V.str a = V.str b) = true then A else B := by
  by_cases c : a = b
  · rw [if_pos (decide_eq_true (congrArg V.str c))]; exact h1 c
  · rw [if_neg (fun z => c (V.str.inj (of_decide_eq_true z)))]; exact h2 c
theorem ite_nstr {a b : Str} {A B : Prop} (h1 : ¬ a = b → A) (h2 : a = b → B) : if (!decide (V.str a = V.str b)) = true then A else B := by
  by_cases c : a = b
  · rw [decide_eq_true (congrArg V.str c)]; exact iteF (h2 c)
  · rw [decide_eq_false (fun z => c (V.str.inj z))]; exact iteT (h1 c)
theorem i_tB {te : TE} {σ : L2.St} {H : Hp} {Q : Bool → Hp → Prop} (h : te σ H fun x H1 => ∃ c, x = .bl c ∧ Q c H1) : tB te σ H Q := h
theorem i_kw {K : PySem.W.Frag} {n : Nat} {gs : TGs} {a : Addr} {xs : List V} {σ : L2.St} {H : Hp} {Q : L2.St → Hp → Prop} (h : SqT K H a xs) (e : xs.length = n) (q : gs xs σ H Q) : gTup K n gs (.ref a) σ H Q := ⟨a, xs, rfl, h, e, q⟩
theorem i_andV {ta tb : TE} {σ : L2.St} {H : Hp} {Q : VK} (h : ta σ H fun x H1 => ∃ c, x = .bl c ∧ if c = true then tb σ H1 Q else Q (.bl false) H1) : tAndV ta tb σ H Q := h
theorem i_orV {ta tb : TE} {σ : L2.St} {H : Hp} {Q : VK} (h : ta σ H fun x H1 => ∃ c, x = .bl c ∧ if c = true then Q (.bl true) H1 else tb σ H1 Q) : tOrV ta tb σ H Q := h
theorem i_notV {ta : TE} {σ : L2.St} {H : Hp} {Q : VK} (h : ta σ H fun x H1 => ∃ c, x = .bl c ∧ Q (.bl (!c)) H1) : tNotV ta σ H Q := h
theorem i_ixT {K : PySem.W.Frag} {H : Hp} {p : Addr} {xs : List V} {j : Nat} {v : V} {Q : VK} (h : SqT K H p xs) (e : xs[j]? = some v) (q : Q v H) : rIxT K (.ref p) (.int (j : Int)) H Q := ⟨p, xs, _, v, rfl, rfl, h, atI_nat e, q⟩
theorem i_ixL {K : PySem.W.Frag} {H : Hp} {p : Addr} {xs : List V} {j : Nat} {v : V} {Q : VK} (h : SqL K H p xs) (e : xs[j]? = some v) (q : Q v H) : rIxL K (.ref p) (.int (j : Int)) H Q := ⟨p, xs, _, v, rfl, rfl, h, atI_nat e, q⟩
theorem i_ixT0 {K : PySem.W.Frag} {H : Hp} {p : Addr} {x : V} {xs : List V} {Q : VK} (h : SqT K H p (x :: xs)) (q : Q x H) : rIxT K (.ref p) (.int 0) H Q := ⟨p, _, 0, x, rfl, rfl, h, atI_nat (j := 0) rfl, q⟩
theorem i_ixT1 {K : PySem.W.Frag} {H : Hp} {p : Addr} {x y : V} {xs : List V} {Q : VK} (h : SqT K H p (x :: y :: xs)) (q : Q y H) : rIxT K (.ref p) (.int 1) H Q := ⟨p, _, 1, y, rfl, rfl, h, atI_nat (j := 1) rfl, q⟩
theorem i_ixT2 {K : PySem.W.Frag} {H : Hp} {p : Addr} {x y z : V} {xs : List V} {Q : VK} (h : SqT K H p (x :: y :: z :: xs)) (q : Q z H) : rIxT K (.ref p) (.int 2) H Q := ⟨p, _, 2, z, rfl, rfl, h, atI_nat (j := 2) rfl, q⟩
theorem i_ixT3 {K : PySem.W.Frag} {H : Hp} {p : Addr} {x y z w : V} {xs : List V} {Q : VK} (h : SqT K H p (x :: y :: z :: w :: xs)) (q : Q w H) : rIxT K (.ref p) (.int 3) H Q := ⟨p, _, 3, w, rfl, rfl, h, atI_nat (j := 3) rfl, q⟩
theorem i_ixLe {K : PySem.W.Frag} {H : Hp} {p : Addr} {xs : List V} {i : Int} (j : Nat) {v : V} {Q : VK} (h : SqL K H p xs) (ei : i = (j : Int)) (e : xs[j]? = some v) (q : Q v H) : rIxL K (.ref p) (.int i) H Q := by subst ei; exact i_ixL h e q
theorem i_ixTe {K : PySem.W.Frag} {H : Hp} {p : Addr} {xs : List V} {i : Int} (j : Nat) {v : V} {Q : VK} (h : SqT K H p xs) (ei : i = (j : Int)) (e : xs[j]? = some v) (q : Q v H) : rIxT K (.ref p) (.int i) H Q := by subst ei; exact i_ixT h e q
def rFld (K : PySem.W.Frag) (f : Str) : V → Hp → VK → Prop := fun x H Q => ∃ a C dx fs v, x = .ref a ∧ H a = some (.ins C dx fs) ∧ Cls K C ∧ NoAttr K C f ∧ fs.lookup f = some v ∧ Q v H
theorem i_fld {K : PySem.W.Frag} {ta : TE} {f : Str} {σ : L2.St} {H : Hp} {Q : VK} (h : ta σ H fun x H1 => rFld K f x H1 Q) : tFld K ta f σ H Q := h
theorem i_sfld {K : PySem.W.Frag} {ta tv : TE} {f : Str} {D : Ends} {σ : L2.St} {H : Hp} (h : tv σ H fun y H1 => ta σ H1 fun x H2 => ∃ a C dx fs, x = .ref a ∧ H2 a = some (.ins C dx fs) ∧ Cls K C ∧ NoAttr K C f ∧ fs.length < 1000 ∧ D.nx σ (upd H2 a (.ins C dx (putF f y fs)))) : sFld K ta tv f D σ H := h
/-- a new object, to be made by its __init__ -/
def rMkN (C : Addr) (sp : Sp) (gV : List V → List V → List V) (E : XK) (vs zs : List V) (H : Hp) (Q : VK) : Prop := ∀ x dx, H x = none → H dx = none → dx ≠ x → sp (gV (.ref x :: vs) zs) (upd (upd H dx (.own x)) x (.ins C dx [])) (fun v H3 => v = .non ∧ Q (.ref x) H3) E
def rMk (C : Addr) (sp : Sp) (dvs : List V) (E : XK) (vs : List V) (H : Hp) (Q : VK) : Prop := ∀ x dx, H x = none → H dx = none → dx ≠ x → sp (.ref x :: (vs ++ dvs)) (upd (upd H dx (.own x)) x (.ins C dx [])) (fun v H3 => v = .non ∧ Q (.ref x) H3) E
theorem i_make {C : Addr} {sp : Sp} {dvs : List V} {E : XK} {t : TA} {σ : L2.St} {H : Hp} {Q : VK} (h : t σ H fun vs H1 => rMk C sp dvs E vs H1 Q) : tMake C sp dvs E t σ H Q := h
theorem i_makeN {C : Addr} {n m : Nat} {sp : Sp} {gV : List V → List V → List V} {E : XK} {t tk : TA} {σ : L2.St} {H : Hp} {Q : VK} (h : t σ H fun vs H1 => tk σ H1 fun zs H2 => vs.length = n ∧ zs.length = m ∧ rMkN C sp gV E vs zs H2 Q) : tMakeN C n m sp gV E t tk σ H Q := h
theorem i_meth {C : Addr} {m : Str} {sp : Sp} {dvs : List V} {E : XK} {ta : TE} {t : TA} {σ : L2.St} {H : Hp} {Q : VK} (h : ta σ H fun x H1 => ∃ a dx fs, x = .ref a ∧ H1 a = some (.ins C dx fs) ∧ fs.lookup m = none ∧ t σ H1 fun vs H2 => sp (x :: (vs ++ dvs)) H2 Q E) : tMeth C m sp dvs E ta t σ H Q := h
theorem ixN_last {n : Nat} : ixN (n + 1) (-1) = some n := by
  unfold ixN
  rw [if_neg (by decide), if_pos (by omega)]
  congr 1
  omega
theorem i_ixLast {K : PySem.W.Frag} {H : Hp} {p : Addr} {xs : List V} {v : V} {Q : VK} (h : SqL K H p (xs ++ [v])) (q : Q v H) : rIxL K (.ref p) (.int (-1)) H Q := by
  refine ⟨p, xs ++ [v], -1, v, rfl, rfl, h, ?_, q⟩
  unfold atI
  rw [List.length_append, List.length_singleton, ixN_last]
  simp
theorem i_setLast {H : Hp} {p : Addr} {xs : List V} {v w : V} {Q : Hp → Prop} (h : H p = some (.lst (xs ++ [v]))) (q : Q (upd H p (.lst (xs ++ [w])))) : rSetL (.ref p) (.int (-1)) w H Q := by
  refine ⟨p, xs ++ [v], -1, xs.length, rfl, rfl, h, by rw [List.length_append, List.length_singleton, ixN_last], ?_⟩
  rw [show (xs ++ [v]).set xs.length w = xs ++ [w] by simp]
  exact q
theorem isi_list {K : PySem.W.Frag} {H : Hp} {p : Addr} {xs : List V} {Q : VK} (e : H p = some (.lst xs)) (q : Q (.bl true) H) : rIsi K [.ref p, .ty "list"] H Q := ⟨_, _, _, _, true, rfl, .ty _, .base (.lst e), rfl, q⟩
theorem isi_own {K : PySem.W.Frag} {H : Hp} {x : V} {C : Addr} {Q : VK} (e : TyX K H x (.ref C)) (q : Q (.bl true) H) : rIsi K [x, .ref C] H Q := ⟨_, _, _, _, true, rfl, .own C, e, if_pos (beq_self_eq_true _), q⟩
theorem i_yes {σ : L2.St} {H : Hp} {Q : Bool → Hp → Prop} (h : Q true H) : tYes σ H Q := h
set_option maxHeartbeats 8000000
local macro_rules | `(tactic| walk_at "c") => `(tactic| first | omega | decide | exact ⟨by omega, by omega⟩ | exact ⟨by decide, by decide⟩ | exact .inl ⟨by omega, by omega⟩ | exact .inr ⟨by omega, by omega⟩ | exact ⟨by omega, by omega, by omega⟩ | exact ⟨by decide, by decide, by decide⟩ | exact le_line (Nat.le_of_ble_eq_true rfl))
local macro_rules | `(tactic| walk_at "a") => `(tactic| with_reducible (first | refine i_seq ?_ | refine i_asg ?_ | refine i_cons ?_ | refine i_c ?_ | refine i_nil ?_ | refine i_op ?_ | refine i_call ?_ | refine i_cb ?_ | refine i_name ?_ | refine i_next ?_ | refine i_ret ?_ | refine i_drop ?_ | refine i_if ?_ | refine i_test ?_ | refine i_and ?_ | refine i_or ?_ | refine i_not ?_ | refine i_ite ?_ | refine i_lst ?_ | refine i_tup ?_ | refine i_bm ?_ | refine i_un ?_ | refine i_par ?_ | refine i_gsub ?_ | refine i_chain ?_ | refine i_sl ?_ | refine i_nopart ?_ | refine i_part ?_ | refine i_m1 ?_ | refine i_m0 ?_ | refine i_lc ?_ | refine i_iList ?_ | refine i_iTup ?_ | refine i_iStr ?_ | refine i_r1 ?_ | refine i_set ?_ | refine i_callk ?_ | refine i_callN ?_ | refine i_ckw ?_ | refine i_revL ?_ | refine i_tB ?_ | refine i_fld ?_ | refine i_sfld ?_ | refine i_make ?_ | refine i_makeN ?_ | refine i_meth ?_ | refine i_andV ?_ | refine i_orV ?_ | refine i_notV ?_ | refine iteT ?_ | refine iteF ?_ | refine i_yes ?_))
local macro_rules | `(tactic| walk_at "s") => `(tactic| repeat (first | walk_at "a" | refine i_var rfl ?_ | refine i_aug rfl ?_ | refine And.intro ⟨_, rfl⟩ ?_ | refine ⟨_, rfl, ?_⟩ | refine ⟨_, _, rfl, rfl, ?_⟩ | refine ⟨_, _, rfl, ?_⟩ | refine ⟨rfl, ?_⟩ | refine And.intro (by walk_at "c") ?_))
structure Ev (K : PySem.W.Frag) (mg : Str → Option Value) where
  fshow_time : Addr
  fdshow_time : FuncData
  Fshow_time : Fun K "show_time" "show_time" sShow fshow_time fdshow_time
  bshow_time : Binds K fdshow_time ["minute"] []
  gshow_time : mg "show_time" = some (.ref fshow_time)
  f_law_feed : Addr
  fd_law_feed : FuncData
  F_law_feed : Fun K "_law_feed" "_law_feed" sFeed f_law_feed fd_law_feed
  b_law_feed : Binds K fd_law_feed ["_law_script"] []
  g_law_feed : mg "_law_feed" = some (.ref f_law_feed)
  f_law_draw : Addr
  fd_law_draw : FuncData
  F_law_draw : Fun K "_law_draw" "_law_draw" sDraw f_law_draw fd_law_draw
  b_law_draw : Binds K fd_law_draw ["_law_feed_here", "_law_many"] []
  g_law_draw : mg "_law_draw" = some (.ref f_law_draw)
  f_law_of : Addr
  fd_law_of : FuncData
  F_law_of : Fun K "_law_of" "_law_of" sOf f_law_of fd_law_of
  b_law_of : Binds K fd_law_of ["_law_feed_here", "_law_some"] []
  g_law_of : mg "_law_of" = some (.ref f_law_of)
  f_law_names : Addr
  fd_law_names : FuncData
  F_law_names : Fun K "_law_names" "_law_names" sNames f_law_names fd_law_names
  b_law_names : Binds K fd_law_names ["_law_feed_here", "_law_many"] []
  g_law_names : mg "_law_names" = some (.ref f_law_names)
  f_law_time : Addr
  fd_law_time : FuncData
  F_law_time : Fun K "_law_time" "_law_time" sTime f_law_time fd_law_time
  b_law_time : Binds K fd_law_time ["_law_moment"] []
  g_law_time : mg "_law_time" = some (.ref f_law_time)
  f_law_rows : Addr
  fd_law_rows : FuncData
  F_law_rows : Fun K "_law_rows" "_law_rows" sRows f_law_rows fd_law_rows
  b_law_rows : Binds K fd_law_rows ["_law_feed_here", "_law_names_here", "_law_many"] []
  g_law_rows : mg "_law_rows" = some (.ref f_law_rows)
  f_law_book : Addr
  fd_law_book : FuncData
  F_law_book : Fun K "_law_book" "_law_book" sBook f_law_book fd_law_book
  b_law_book : Binds K fd_law_book ["_law_side", "_law_rows_here"] []
  g_law_book : mg "_law_book" = some (.ref f_law_book)
  f_law_text : Addr
  fd_law_text : FuncData
  F_law_text : Fun K "_law_text" "_law_text" sText f_law_text fd_law_text
  b_law_text : Binds K fd_law_text ["_law_side", "_law_rows_here"] []
  g_law_text : mg "_law_text" = some (.ref f_law_text)
  f_law_backward : Addr
  fd_law_backward : FuncData
  F_law_backward : Fun K "_law_backward" "_law_backward" sBackward f_law_backward fd_law_backward
  b_law_backward : Binds K fd_law_backward ["_law_book_here", "_law_when"] []
  g_law_backward : mg "_law_backward" = some (.ref f_law_backward)
  f_law_looks : Addr
  fd_law_looks : FuncData
  F_law_looks : Fun K "_law_looks" "_law_looks" sLooks f_law_looks fd_law_looks
  b_law_looks : Binds K fd_law_looks ["_law_book_here", "_law_side", "_law_rows_here"] []
  g_law_looks : mg "_law_looks" = some (.ref f_law_looks)
  f_law_otherwise : Addr
  fd_law_otherwise : FuncData
  F_law_otherwise : Fun K "_law_otherwise" "_law_otherwise" sOtherwise f_law_otherwise fd_law_otherwise
  b_law_otherwise : Binds K fd_law_otherwise ["_law_feed_here", "_law_side", "_law_rows_here"] []
  g_law_otherwise : mg "_law_otherwise" = some (.ref f_law_otherwise)
  flaw : Addr
  fdlaw : FuncData
  Flaw : Fun K "law" "law" sLaw flaw fdlaw
  blaw : Binds K fdlaw ["_law_script"] []
  glaw : mg "law" = some (.ref flaw)
  fBook___init__ : Addr
  fdBook___init__ : FuncData
  FBook___init__ : Fun K "__init__" "Book.__init__" sBookInit fBook___init__ fdBook___init__
  bBook___init__ : Binds K fdBook___init__ ["self", "bank"] []
  fBook___eq__ : Addr
  fdBook___eq__ : FuncData
  FBook___eq__ : Fun K "__eq__" "Book.__eq__" sBookEq fBook___eq__ fdBook___eq__
  bBook___eq__ : Binds K fdBook___eq__ ["self", "other"] []
  fBook___len__ : Addr
  fdBook___len__ : FuncData
  FBook___len__ : Fun K "__len__" "Book.__len__" sBookLen fBook___len__ fdBook___len__
  bBook___len__ : Binds K fdBook___len__ ["self"] []
  fBook___str__ : Addr
  fdBook___str__ : FuncData
  FBook___str__ : Fun K "__str__" "Book.__str__" sBookStr fBook___str__ fdBook___str__
  bBook___str__ : Binds K fdBook___str__ ["self"] []
  fBook_write : Addr
  fdBook_write : FuncData
  FBook_write : Fun K "write" "Book.write" sBookWrite fBook_write fdBook_write
  bBook_write : Binds K fdBook_write ["self", "minute", "word", "name"] []
  fBook_rows : Addr
  fdBook_rows : FuncData
  FBook_rows : Fun K "rows" "Book.rows" sBookRows fBook_rows fdBook_rows
  bBook_rows : Binds K fdBook_rows ["self"] []
  fBackward___init__ : Addr
  fdBackward___init__ : FuncData
  FBackward___init__ : Fun K "__init__" "Backward.__init__" sBackwardInit fBackward___init__ fdBackward___init__
  bBackward___init__ : Binds K fdBackward___init__ ["self", "minute"] []
  tDAY : Tok
  mDAY : mg "DAY" = some (.int 1440 tDAY)
  tHOUR : Tok
  mHOUR : mg "HOUR" = some (.int 60 tHOUR)
  mRuntimeError : mg "RuntimeError" = none
  mValueError : mg "ValueError" = none
  mbool : mg "bool" = none
  mdivmod : mg "divmod" = none
  mint : mg "int" = none
  misinstance : mg "isinstance" = none
  mlen : mg "len" = none
  mlist : mg "list" = none
  mmax : mg "max" = none
  mrange : mg "range" = none
  mrepr : mg "repr" = none
  mstr : mg "str" = none
  CBook : Addr
  CBackward : Addr
  gCBackward : mg "Backward" = some (.ref CBackward)
  oxBackward : OexB K CBackward
  exBackward : PySem.W.subIn K (.ref CBackward) (.type "BaseException") = some true
  hdBackward : PySem.W.hasDictIn K CBackward = true
  tyBackward : PySem.W.typeIn K (.ref CBackward) = some (.type "type")
  icBackward : PySem.W.isClsIn K CBackward = true
  seBackward : PySem.W.subIn K (.ref CBackward) (.ref CBackward) = some true
  upBackward : PySem.W.subIn K (.ref CBackward) (.type "RuntimeError") = some true
  gaBackward : PySem.W.findIn K (.ref CBackward) "__getattribute__" = some (some (.builtin "BaseException.__getattribute__"))
  ggBackward : PySem.W.findIn K (.ref CBackward) "__getattr__" = some none
  haBackward : PySem.W.findIn K (.ref CBackward) "__class__" = some (some (.builtin "object.__class__"))
  hnBackward : PySem.W.specialIn K (.builtin "object.__class__") "__get__" = some (some (.builtin "getset_descriptor.__get__"))
  htBackward : PySem.W.takesIn K (.builtin "object.__class__") = some true
  hmBackward : PySem.W.mroIn K CBackward (.type "object") = some true
  nBackward_minute : PySem.W.findIn K (.ref CBackward) "minute" = some none
  snBackward_ValueError : PySem.W.subIn K (.ref CBackward) (.type "ValueError") = some false
  aBackward___init__ : PySem.W.findIn K (.ref CBackward) "__init__" = some (some (.ref fBackward___init__))
  iBackward___init__ : PySem.W.isFn K (.ref fBackward___init__) = true
  kBackward___init__ : PySem.W.keepIn K (.ref fBackward___init__) = true
  gCBook : mg "Book" = some (.ref CBook)
  pgBook : PySem.W.plainGet K CBook Str.empty = true
  hdBook : PySem.W.hasDictIn K CBook = true
  poBook : PySem.W.plainOver K CBook = true
  saBook : PySem.W.findIn K (.ref CBook) "__setattr__" = some (some (.builtin "object.__setattr__"))
  mkBook : PySem.W.makesIn K CBook = true
  kcBook : PySem.W.keepIn K (.ref CBook) = true
  haBook : PySem.W.findIn K (.ref CBook) "__class__" = some (some (.builtin "object.__class__"))
  hnBook : PySem.W.specialIn K (.builtin "object.__class__") "__get__" = some (some (.builtin "getset_descriptor.__get__"))
  htBook : PySem.W.takesIn K (.builtin "object.__class__") = some true
  hmBook : PySem.W.mroIn K CBook (.type "object") = some true
  nfBook : PySem.W.notFirst K CBook (.ref CBook) = true
  nBook_bank : PySem.W.findIn K (.ref CBook) "bank" = some none
  nBook__rows : PySem.W.findIn K (.ref CBook) "_rows" = some none
  neBook : PySem.W.findIn K (.ref CBook) "__ne__" = some (some (.builtin "object.__ne__"))
  icBook : PySem.W.isClsIn K CBook = true
  tyBook : PySem.W.typeIn K (.ref CBook) = some (.type "type")
  subBook_NoneType : PySem.W.subIn K (.ref CBook) (.type "NoneType") = some false
  kitBook_NoneType : PySem.W.subIn K (.type "NoneType") (.ref CBook) = some false
  ntBook_NoneType : PySem.W.notFirst K CBook (.type "NoneType") = true
  subBook_int : PySem.W.subIn K (.ref CBook) (.type "int") = some false
  kitBook_int : PySem.W.subIn K (.type "int") (.ref CBook) = some false
  ntBook_int : PySem.W.notFirst K CBook (.type "int") = true
  subBook_str : PySem.W.subIn K (.ref CBook) (.type "str") = some false
  kitBook_str : PySem.W.subIn K (.type "str") (.ref CBook) = some false
  ntBook_str : PySem.W.notFirst K CBook (.type "str") = true
  subBook_list : PySem.W.subIn K (.ref CBook) (.type "list") = some false
  kitBook_list : PySem.W.subIn K (.type "list") (.ref CBook) = some false
  ntBook_list : PySem.W.notFirst K CBook (.type "list") = true
  subBook_tuple : PySem.W.subIn K (.ref CBook) (.type "tuple") = some false
  kitBook_tuple : PySem.W.subIn K (.type "tuple") (.ref CBook) = some false
  ntBook_tuple : PySem.W.notFirst K CBook (.type "tuple") = true
  subBook_dict : PySem.W.subIn K (.ref CBook) (.type "dict") = some false
  kitBook_dict : PySem.W.subIn K (.type "dict") (.ref CBook) = some false
  ntBook_dict : PySem.W.notFirst K CBook (.type "dict") = true
  blBook : PySem.W.findIn K (.ref CBook) "__bool__" = some none
  fmBook : PySem.W.findIn K (.ref CBook) "__format__" = some (some (.builtin "object.__format__"))
  aBook___init__ : PySem.W.findIn K (.ref CBook) "__init__" = some (some (.ref fBook___init__))
  iBook___init__ : PySem.W.isFn K (.ref fBook___init__) = true
  kBook___init__ : PySem.W.keepIn K (.ref fBook___init__) = true
  aBook___eq__ : PySem.W.findIn K (.ref CBook) "__eq__" = some (some (.ref fBook___eq__))
  iBook___eq__ : PySem.W.isFn K (.ref fBook___eq__) = true
  kBook___eq__ : PySem.W.keepIn K (.ref fBook___eq__) = true
  aBook___len__ : PySem.W.findIn K (.ref CBook) "__len__" = some (some (.ref fBook___len__))
  iBook___len__ : PySem.W.isFn K (.ref fBook___len__) = true
  kBook___len__ : PySem.W.keepIn K (.ref fBook___len__) = true
  aBook___str__ : PySem.W.findIn K (.ref CBook) "__str__" = some (some (.ref fBook___str__))
  iBook___str__ : PySem.W.isFn K (.ref fBook___str__) = true
  kBook___str__ : PySem.W.keepIn K (.ref fBook___str__) = true
  aBook_write : PySem.W.findIn K (.ref CBook) "write" = some (some (.ref fBook_write))
  iBook_write : PySem.W.isFn K (.ref fBook_write) = true
  kBook_write : PySem.W.keepIn K (.ref fBook_write) = true
  aBook_rows : PySem.W.findIn K (.ref CBook) "rows" = some (some (.ref fBook_rows))
  iBook_rows : PySem.W.isFn K (.ref fBook_rows) = true
  kBook_rows : PySem.W.keepIn K (.ref fBook_rows) = true
theorem kb_Book___init___1_bank {K : PySem.W.Frag} {mg : Str → Option Value} (T : Ev K mg) : KBn K T.fdBook___init__ ["self", "bank"] 1 ["bank"] (fun us ws => pickL (us ++ ws) [0, 1]) (fun vs zs => pickL (vs ++ zs) [0, 1]) :=
  kbF T.FBook___init__ 1 ["bank"] [0, 1] fun _ _ _ _ _ _ us ws h1 h2 => match us, ws, h1, h2 with | [_], [_], _, _ => rfl
theorem kb_Book_write_1_minute_word_name {K : PySem.W.Frag} {mg : Str → Option Value} (T : Ev K mg) : KBn K T.fdBook_write ["self", "minute", "word", "name"] 1 ["minute", "word", "name"] (fun us ws => pickL (us ++ ws) [0, 1, 2, 3]) (fun vs zs => pickL (vs ++ zs) [0, 1, 2, 3]) :=
  kbF T.FBook_write 1 ["minute", "word", "name"] [0, 1, 2, 3] fun _ _ _ _ _ _ us ws h1 h2 => match us, ws, h1, h2 with | [_], [_, _, _], _, _ => rfl
theorem cl_Book {K : PySem.W.Frag} {mg : Str → Option Value} (T : Ev K mg) : Cls K T.CBook := ⟨T.pgBook, T.hdBook, T.poBook, T.saBook⟩
theorem mt_Book___init__ {K : PySem.W.Frag} {mg : Str → Option Value} (T : Ev K mg) : Meth K T.CBook "__init__" T.fBook___init__ := ⟨T.aBook___init__, T.iBook___init__, T.kBook___init__⟩
theorem mk_Book {K : PySem.W.Frag} {mg : Str → Option Value} (T : Ev K mg) : Mk K T.CBook T.fBook___init__ := ⟨T.mkBook, T.aBook___init__, T.iBook___init__, T.kcBook⟩
theorem mt_Book___eq__ {K : PySem.W.Frag} {mg : Str → Option Value} (T : Ev K mg) : Meth K T.CBook "__eq__" T.fBook___eq__ := ⟨T.aBook___eq__, T.iBook___eq__, T.kBook___eq__⟩
theorem mt_Book___len__ {K : PySem.W.Frag} {mg : Str → Option Value} (T : Ev K mg) : Meth K T.CBook "__len__" T.fBook___len__ := ⟨T.aBook___len__, T.iBook___len__, T.kBook___len__⟩
theorem mt_Book___str__ {K : PySem.W.Frag} {mg : Str → Option Value} (T : Ev K mg) : Meth K T.CBook "__str__" T.fBook___str__ := ⟨T.aBook___str__, T.iBook___str__, T.kBook___str__⟩
theorem mt_Book_write {K : PySem.W.Frag} {mg : Str → Option Value} (T : Ev K mg) : Meth K T.CBook "write" T.fBook_write := ⟨T.aBook_write, T.iBook_write, T.kBook_write⟩
theorem mt_Book_rows {K : PySem.W.Frag} {mg : Str → Option Value} (T : Ev K mg) : Meth K T.CBook "rows" T.fBook_rows := ⟨T.aBook_rows, T.iBook_rows, T.kBook_rows⟩
/-! ### the tape, by what is known of the names -/
section
variable {P : Program} {w : World} {K : PySem.W.Frag} {mg : Str → Option Value} {base : Heap} (T : Ev K mg)
theorem ok_law_draw : FnOk P w K mg base CX0 1 T.f_law_draw T.fd_law_draw ["_law_feed_here", "_law_many"] spDraw := ok_draw T.F_law_draw ⟨T.mlen⟩
theorem ok_law_of : FnOk P w K mg base CX0 2 T.f_law_of T.fd_law_of ["_law_feed_here", "_law_some"] spPick := ok_of T.F_law_of ⟨T.mlen⟩ T.F_law_draw T.g_law_draw T.b_law_draw
theorem ok_law_feed : FnOk P w K mg base CX0 1 T.f_law_feed T.fd_law_feed ["_law_script"] (spTape K) := ok_feed T.F_law_feed ⟨T.mlist⟩
end
theorem dr {H : Hp} {F c : Addr} (b : Int) {n : Nat} {Q : VK} {E : XK} (hT : Tape H F c n) (b0 : 0 < b) (b1 : b < 1073741824) (hn : n < 1000000)
    (q : ∀ d H', 0 ≤ d → d < b → Tape H' F c (n + 1) → Keep F H H' → Q (.int d) H') : spDraw [.ref F, .int b] H Q E := ⟨F, c, b, n, rfl, b0, b1, hn, hT, q⟩
theorem pk {H : Hp} {F c p : Addr} {xs : List V} {n : Nat} {Q : VK} {E : XK} (hT : Tape H F c n) (hp : H p = some (.lst xs)) (ne : p ≠ F) (l0 : 0 < xs.length) (l1 : xs.length < 1000000) (hn : n < 1000000)
    (q : ∀ x H', x ∈ xs → Tape H' F c (n + 1) → Keep F H H' → Q x H') : spPick [.ref F, .ref p] H Q E := ⟨F, c, p, xs, n, rfl, hp, ne, l0, l1, hn, hT, fun _ x H' e => q x H' (List.mem_of_getElem? e)⟩
/-- of a list that is written there -/
theorem pkn {H : Hp} {F c : Addr} {xs : List V} {n : Nat} {Q : VK} {E : XK} (hT : Tape H F c n) (l0 : 0 < xs.length) (l1 : xs.length < 1000000) (hn : n < 1000000)
    (q : ∀ x H', x ∈ xs → Tape H' F c (n + 1) → Keep F H H' → Q x H') : ∀ p, H p = none → spPick [.ref F, .ref p] (upd H p (.lst xs)) Q E := fun p hp =>
  pk (hT.new hp) upd_same (hT.ne hp) l0 l1 hn fun x H' m t k => q x H' m t ((Keep.refl.new hp).trans k)
theorem Tape.tape {H : Hp} {F c : Addr} {n : Nat} (h : Tape H F c n) : ∃ ys, H F = some (.lst ys) := by
  obtain ⟨t, r, ns, h1, _⟩ := h.ex
  exact ⟨_, h1⟩
/-- a place that was free ahead of all that is kept -/
theorem Keep.free {F : Addr} {H H' : Hp} {p : Addr} (k : Keep F H H') (hp : H' p = none) (ne : p ≠ F) : H p = none := by
  cases e : H p with
  | none => rfl
  | some o => have := k p o ne e; rw [hp] at this; cases this
theorem tl_app (x y : Str) : tl (x ++ y) = tl x ++ tl y := by unfold tl; rw [Str.cps_append]; simp
/-- texts of at most m small letters -/
def LowN (m : Nat) (z : Str) : Prop := z.length ≤ m ∧ ∀ c ∈ tl z, 97 ≤ c ∧ c ≤ 122
theorem tl_cut (z : Str) (lo hi : Option Int) : tl (cutS z lo hi) = ((tl z).drop (HT.sIx z.length 0 lo)).take (HT.sIx z.length z.length hi - HT.sIx z.length 0 lo) := by
  unfold tl cutS; simp
theorem cut_low {m : Nat} {z : Str} {lo hi : Option Int} (h : LowN m z) : LowN m (cutS z lo hi) := by
  refine ⟨?_, fun c hc => ?_⟩
  · have := TL.len_tl (cutS z lo hi)
    have h2 := TL.len_tl z
    rw [this, tl_cut, List.length_take, List.length_drop]
    have := h.1
    omega
  · rw [tl_cut] at hc
    exact h.2 c (List.mem_of_mem_drop (List.mem_of_mem_take hc))
theorem app_low {m k : Nat} {y z : Str} (h : LowN m y) (h2 : LowN k z) : LowN (m + k) (y ++ z) := by
  refine ⟨by rw [Str.length_append]; exact Nat.add_le_add h.1 h2.1, fun c hc => ?_⟩
  rw [tl_app] at hc
  rcases List.mem_append.mp hc with hc | hc
  · exact h.2 c hc
  · exact h2.2 c hc
theorem one_low {c : Nat} (h : 97 ≤ c ∧ c ≤ 122) : LowN 1 ⟨#[c]⟩ := ⟨Nat.le_refl _, fun d hd => by
  have : d = c := by simpa [tl] using hd
  rw [this]; exact h⟩
theorem join_low : ∀ ys : List Str, (∀ y ∈ ys, LowN 1 y ∧ y.length = 1) → (TL.joinL [] (ys.map tl)).length = ys.length ∧ ∀ c ∈ TL.joinL [] (ys.map tl), 97 ≤ c ∧ c ≤ 122
  | [], _ => ⟨rfl, fun c hc => by cases hc⟩
  | [y], h => by
    have hy := h y List.mem_cons_self
    exact ⟨by show (tl y).length = 1; rw [← TL.len_tl]; exact hy.2, hy.1.2⟩
  | y :: z :: r, h => by
    have hy := h y List.mem_cons_self
    obtain ⟨i1, i2⟩ := join_low (z :: r) fun w hw => h w (List.mem_cons_of_mem _ hw)
    refine ⟨?_, fun c hc => ?_⟩
    · show (tl y ++ ([] ++ TL.joinL [] ((z :: r).map tl))).length = (z :: r).length + 1
      rw [List.length_append, List.nil_append, i1, ← TL.len_tl, hy.2]
      omega
    · have hc' : c ∈ tl y ++ ([] ++ TL.joinL [] ((z :: r).map tl)) := hc
      rw [List.nil_append] at hc'
      rcases List.mem_append.mp hc' with hc' | hc'
      · exact hy.1.2 c hc'
      · exact i2 c hc'
theorem base_low {ys : List Str} (h : ∀ y ∈ ys, LowN 1 y ∧ y.length = 1) : LowN ys.length (Txt.join Str.empty ys) ∧ (Txt.join Str.empty ys).length = ys.length := by
  obtain ⟨a, b⟩ := join_low ys h
  have e : tl (Txt.join Str.empty ys) = TL.joinL [] (ys.map tl) := by rw [TL.join_eq, TL.tl_join]; rfl
  have l : (Txt.join Str.empty ys).length = ys.length := by rw [TL.len_tl, e, a]
  exact ⟨⟨Nat.le_of_eq l, fun c hc => b c (by rw [← e]; exact hc)⟩, l⟩
theorem letter : ∀ j : Nat, j < 26 → ∃ c, (tl "abcdefghijklmnopqrstuvwxyz")[j]? = some c ∧ 97 ≤ c ∧ c ≤ 122 := by
  have : ∀ j : Nat, j < 26 → (tl "abcdefghijklmnopqrstuvwxyz")[j]? = some (97 + j) := by decide +kernel
  intro j h
  exact ⟨_, this j h, by omega, by omega⟩
theorem LowN.mono {m k : Nat} {z : Str} (h : LowN m z) (l : m ≤ k) : LowN k z := ⟨Nat.le_trans h.1 l, h.2⟩
theorem letter_at {j : Nat} (h : j < 26) : (tl "abcdefghijklmnopqrstuvwxyz")[j]? = some (97 + j) := by
  have : ∀ j : Nat, j < 26 → (tl "abcdefghijklmnopqrstuvwxyz")[j]? = some (97 + j) := by decide +kernel
  exact this j h
theorem cut_before_len {z : Str} {t : Nat} (h : t < z.length) : (tl (cutS z none (some (t : Int)))).length = t := by
  have lz := TL.len_tl z
  rw [tl_cut, HT.sIx_none, show HT.sIx z.length z.length (some (t : Int)) = min t z.length from HT.sIx_nat z.length _ t, List.length_take, List.length_drop]
  omega
theorem cut_before {m : Nat} {z : Str} {t : Nat} (h : LowN m z) (ht : t < z.length) : LowN t (cutS z none (some (t : Int))) :=
  ⟨by rw [TL.len_tl]; exact Nat.le_of_eq (cut_before_len ht), (cut_low h).2⟩
theorem cut_after {m : Nat} {z : Str} {t : Nat} (h : LowN m z) (ht : t < z.length) : LowN (z.length - (t + 1)) (cutS z (some ((t : Int) + 1)) none) := by
  refine ⟨?_, (cut_low h).2⟩
  have lz := TL.len_tl z
  rw [TL.len_tl, tl_cut, HT.sIx_none, show HT.sIx z.length 0 (some ((t : Int) + 1)) = min (t + 1) z.length from HT.sIx_nat z.length _ (t + 1), List.length_take, List.length_drop]
  omega
theorem cut_from {xs : List V} {t : Nat} (h : t ≤ xs.length) : cutV xs (some (t : Int)) none = xs.drop t := by
  unfold cutV
  rw [show HT.sIx xs.length 0 (some (t : Int)) = min t xs.length from HT.sIx_nat xs.length 0 t, HT.sIx_none, Nat.min_eq_left h]
  exact List.take_of_length_le (by rw [List.length_drop]; exact Nat.le_refl _)
theorem cut_to {xs : List V} {t : Nat} (h : t ≤ xs.length) : cutV xs none (some (t : Int)) = xs.take t := by
  unfold cutV
  rw [HT.sIx_none, show HT.sIx xs.length xs.length (some (t : Int)) = min t xs.length from HT.sIx_nat xs.length _ t, Nat.min_eq_left h]
  show (xs.drop 0).take (t - 0) = _
  rw [Nat.sub_zero]; rfl
/-! ### data: of what depth, and how long its text -/
structure OkD (d : PyData) (k m : Nat) : Prop where
  lay : d.canLay0 = true
  dep : d.depth ≤ k
  sho : d.showable = true
  len : d.shown.length ≤ m
theorem logs {i : Int} (h : i.natAbs < 10000000000) : i.natAbs.log2 < 1920 := by
  by_cases z : i.natAbs = 0
  · rw [z]; decide
  · exact (Nat.log2_lt z).mpr (Nat.lt_of_lt_of_le h (Nat.le_trans (show 10000000000 ≤ 2 ^ 64 by decide) (Nat.pow_le_pow_right (by decide) (by decide : 64 ≤ 1920))))
theorem small10 {i : Int} (h : i.natAbs < 10000000000) : (Str.ofString (toString i)).length ≤ 11 := by
  have := PySem.int_text_length_le10 (a := i) (k := 10) (by decide) h
  rw [PySem.ofString_length]
  exact this
theorem okd_none : OkD .none 0 4 := ⟨by simp [PyData.canLay0], by simp [PyData.depth], by simp [PyData.showable], by rw [PyData.shown]; decide⟩
theorem okd_bool (b : Bool) : OkD (.bool b) 0 5 := ⟨by simp [PyData.canLay0], by simp [PyData.depth], by simp [PyData.showable], by rw [PyData.shown]; cases b <;> decide⟩
theorem okd_int {i : Int} (h : i.natAbs < 10000000000) : OkD (.int i) 0 11 := ⟨by simp [PyData.canLay0], by simp [PyData.depth], by simp [PyData.showable, logs h], by rw [PyData.shown]; exact small10 h⟩
theorem okd_str {x : Str} {n : Nat} (h : PyData.strOk x = true) (l : x.length ≤ n) : OkD (.str x) 0 (10 * n + 2) := by
  refine ⟨by simp [PyData.canLay0, h], by simp [PyData.depth], by simp [PyData.showable], ?_⟩
  rw [PyData.shown]
  refine Nat.le_trans (PySem.StrLaws.reprText_len x fun c hc => ?_) (by omega)
  unfold PyData.strOk at h
  have := Array.all_eq_true_iff_forall_mem.mp h c (by simpa using hc)
  exact Nat.lt_trans (of_decide_eq_true this) (by decide)
theorem OkD.mono {d : PyData} {k m k' m' : Nat} (h : OkD d k m) (a : k ≤ k') (b : m ≤ m') : OkD d k' m' := ⟨h.lay, Nat.le_trans h.dep a, h.sho, Nat.le_trans h.len b⟩
theorem okd_all {k m : Nat} : ∀ ds : List PyData, (∀ d ∈ ds, OkD d k m) → PyData.canLayAll0 ds = true ∧ PyData.depthAll ds ≤ k ∧ PyData.showableAll ds = true ∧ piled (PyData.shownAll ds) ≤ ds.length * (m + 2)
  | [], _ => ⟨by simp [PyData.canLayAll0], by simp [PyData.depthAll], by simp [PyData.showableAll], by simp [PyData.shownAll, piled_nil]⟩
  | d :: ds, h => by
    have h1 := h d List.mem_cons_self
    obtain ⟨a, b, c, e⟩ := okd_all ds fun x hx => h x (List.mem_cons_of_mem _ hx)
    refine ⟨by simp [PyData.canLayAll0, h1.lay, a], ?_, by simp [PyData.showableAll, h1.sho, c], ?_⟩
    · have := h1.dep
      simp only [PyData.depthAll]; omega
    · have := h1.len
      rw [PyData.shownAll, piled_cons, List.length_cons, Nat.add_mul]; omega
theorem list_text : ∀ ts : List Str, (listText ts).length ≤ piled ts + 2
  | [] => by decide
  | t :: r => by
    have h := textFrom_length_pos r 1 (("[" : Str) ++ (if (0 : Nat) > 0 then ", " else "" : String) ++ t) (Nat.succ_pos 0)
    have e : ((("[" : Str) ++ (if (0 : Nat) > 0 then ", " else "" : String) ++ t)).length = 1 + t.length := by rw [Str.length_append, Str.length_append]; rfl
    have x1 : (listText (t :: r)).length = (textFrom 0 "[" (t :: r)).length + 1 := by show (textFrom 0 "[" (t :: r) ++ "]").length = _; rw [Str.length_append]; rfl
    have x2 : (textFrom 0 "[" (t :: r)).length = (textFrom 1 (("[" : Str) ++ (if (0 : Nat) > 0 then ", " else "" : String) ++ t) r).length := rfl
    rw [x1, x2, h, e, piled_cons]; omega
theorem okd_tup {k m n : Nat} {ds : List PyData} (h : ∀ d ∈ ds, OkD d k m) (l : ds.length ≤ n) : OkD (.tuple ds) (k + 1) (n * (m + 2) + 2) := by
  obtain ⟨a, b, c, e⟩ := okd_all ds h
  refine ⟨by simp only [PyData.canLay0]; exact a, by simp only [PyData.depth]; omega, by simp only [PyData.showable]; exact c, ?_⟩
  rw [PyData.shown]
  have := PySem.fmt_text (PyData.shownAll ds)
  have := Nat.mul_le_mul_right (m + 2) l
  omega
theorem okd_lst {k m n : Nat} {ds : List PyData} (h : ∀ d ∈ ds, OkD d k m) (l : ds.length ≤ n) : OkD (.list ds) (k + 1) (n * (m + 2) + 2) := by
  obtain ⟨a, b, c, e⟩ := okd_all ds h
  refine ⟨by simp only [PyData.canLay0]; exact a, by simp only [PyData.depth]; omega, by simp only [PyData.showable]; exact c, ?_⟩
  rw [PyData.shown]
  have := list_text (PyData.shownAll ds)
  have := Nat.mul_le_mul_right (m + 2) l
  omega
theorem okd_map {α : Type} {k m n : Nat} {f : α → PyData} {l : List α} (h : ∀ x ∈ l, OkD (f x) k m) (e : l.length ≤ n) : OkD (.list (l.map f)) (k + 1) (n * (m + 2) + 2) :=
  okd_lst (fun d hd => by obtain ⟨x, hx, rfl⟩ := List.mem_map.mp hd; exact h x hx) (by rw [List.length_map]; exact e)
theorem OkD.shaped {d : PyData} {k m : Nat} (h : OkD d k m) (a : k ≤ 64 := by decide) : SeqAt.shaped d = true := by
  show (d.canLay0 && decide (d.depth ≤ 64)) = true
  rw [h.lay, decide_eq_true (Nat.le_trans h.dep a)]; rfl
theorem OkD.line {d : PyData} {k m : Nat} (h : OkD d k m) (a : m ≤ 100000 := by decide) : d.shown.length ≤ sizeLine := le_line (Nat.le_trans h.len a)
theorem OkD.refl {d : PyData} {k m : Nat} (h : OkD d k m) : PyData.eqv d d = true := SeqAt.eqv_refl _ h.lay
/-- repr of such data -/
theorem OkD.rep {K : PySem.W.Frag} {H : Hp} {v : V} {d : PyData} {k m : Nat} {Q : VK} (h : OkD d k m) (hd : Dp K H v d) (q : Q (.str d.shown) H) (a : k ≤ 64 := by decide) (b : m ≤ 100000 := by decide) : rReprD K [v] H Q :=
  ⟨v, d, rfl, hd, h.shaped a, h.sho, h.line b, q⟩
/-- a thing is not other than itself -/
theorem ne_self {α : Type} [DecidableEq α] (x : α) : (!decide (x = x)) = false := by rw [decide_eq_true rfl]; rfl
theorem OkD.same {K : PySem.W.Frag} {H : Hp} {u v : V} {d : PyData} {k m : Nat} {Q : VK} (h : OkD d k m) (hu : Dp K H u d) (hv : Dp K H v d) (q : Q (.bl true) H) (a : k ≤ 64 := by decide) : rEqD K u v H Q :=
  ⟨d, d, hu, hv, h.shaped a, h.shaped a, by rw [h.refl]; exact q⟩
theorem OkD.not {K : PySem.W.Frag} {H : Hp} {u v : V} {d : PyData} {k m : Nat} {Q : VK} (h : OkD d k m) (hu : Dp K H u d) (hv : Dp K H v d) (q : Q (.bl false) H) (a : k ≤ 64 := by decide) : rNeD K u v H Q :=
  ⟨d, d, hu, hv, h.shaped a, h.shaped a, by rw [h.refl]; exact q⟩
theorem low_strOk {m : Nat} {z : Str} (h : LowN m z) : PyData.strOk z = true := by
  unfold PyData.strOk
  rw [Array.all_eq_true_iff_forall_mem]
  intro c hc
  have := h.2 c (by simpa [tl] using hc)
  exact decide_eq_true (by omega)
set_option maxHeartbeats 8000000
local macro_rules | `(tactic| walk_at "c") => `(tactic| first | omega | decide | exact ⟨by omega, by omega⟩ | exact ⟨by decide, by decide⟩ | exact .inl ⟨by omega, by omega⟩ | exact .inr ⟨by omega, by omega⟩ | exact ⟨by omega, by omega, by omega⟩ | exact ⟨by decide, by decide, by decide⟩ | exact le_line (Nat.le_of_ble_eq_true rfl))
local macro_rules | `(tactic| walk_at "a") => `(tactic| with_reducible (first | refine i_seq ?_ | refine i_asg ?_ | refine i_cons ?_ | refine i_c ?_ | refine i_nil ?_ | refine i_op ?_ | refine i_call ?_ | refine i_cb ?_ | refine i_name ?_ | refine i_next ?_ | refine i_ret ?_ | refine i_drop ?_ | refine i_if ?_ | refine i_test ?_ | refine i_and ?_ | refine i_or ?_ | refine i_not ?_ | refine i_ite ?_ | refine i_lst ?_ | refine i_tup ?_ | refine i_bm ?_ | refine i_un ?_ | refine i_par ?_ | refine i_gsub ?_ | refine i_chain ?_ | refine i_sl ?_ | refine i_nopart ?_ | refine i_part ?_ | refine i_m1 ?_ | refine i_m0 ?_ | refine i_lc ?_ | refine i_iList ?_ | refine i_iTup ?_ | refine i_iStr ?_ | refine i_r1 ?_ | refine i_set ?_ | refine i_callk ?_ | refine i_callN ?_ | refine i_ckw ?_ | refine i_revL ?_ | refine i_tB ?_ | refine i_fld ?_ | refine i_sfld ?_ | refine i_make ?_ | refine i_makeN ?_ | refine i_meth ?_ | refine i_andV ?_ | refine i_orV ?_ | refine i_notV ?_ | refine iteT ?_ | refine iteF ?_ | refine i_yes ?_))
local macro_rules | `(tactic| walk_at "s") => `(tactic| repeat (first | walk_at "a" | refine i_var rfl ?_ | refine i_aug rfl ?_ | refine And.intro ⟨_, rfl⟩ ?_ | refine ⟨_, rfl, ?_⟩ | refine ⟨_, _, rfl, rfl, ?_⟩ | refine ⟨_, _, rfl, ?_⟩ | refine ⟨rfl, ?_⟩ | refine And.intro (by walk_at "c") ?_))
section
variable {P : Program} {w : World} {K : PySem.W.Frag} {mg : Str → Option Value} {base : Heap} (T : Ev K mg)
theorem okshow_time : FnOk P w K mg base CX0 1 T.fshow_time T.fdshow_time ["minute"] spShow := ok_show T.Fshow_time ⟨T.mdivmod, ⟨_, T.mDAY⟩, ⟨_, T.mHOUR⟩⟩
theorem ok_law_time : FnOk P w K mg base CX0 1 T.f_law_time T.fd_law_time ["_law_moment"] spTime := ok_time T.F_law_time ⟨T.mstr⟩
end
/-! ### Books -/
abbrev Row := Nat × Str × Str
def rowT (r : Row) : List V := [.int (r.1 : Int), .str r.2.1, .str r.2.2]
def rowD3 (r : Row) : PyData := .tuple [.int (r.1 : Int), .str r.2.1, .str r.2.2]
def bookF (bank : Str) (l : Addr) : List (Str × V) := putF "_rows" (.ref l) (putF "bank" (.str bank) [])
theorem bookF_bank (b : Str) (l : Addr) : (bookF b l).lookup ("bank" : Str) = some (.str b) := by
  have nb : ¬ ("bank" : Str) = "_rows" := by decide
  unfold bookF
  rw [lookup_putF, if_neg nb, lookup_putF, if_pos rfl]
theorem bookF_rows (b : Str) (l : Addr) : (bookF b l).lookup ("_rows" : Str) = some (.ref l) := by
  unfold bookF
  rw [lookup_putF, if_pos rfl]
theorem bookF_no (b : Str) (l : Addr) {f : Str} (h1 : ¬ f = "bank") (h2 : ¬ f = "_rows") : (bookF b l).lookup f = none := by
  unfold bookF
  rw [lookup_putF, if_neg h2, lookup_putF, if_neg h1]
  rfl
structure BookAt (K : PySem.W.Frag) (C : Addr) (H : Hp) (p l : Addr) (bank : Str) (rows : List Row) : Prop where
  ob : ∃ dx, H p = some (.ins C dx (bookF bank l))
  ls : ∃ xs, H l = some (.lst xs) ∧ DpAll K H xs (rows.map rowD3)
section
variable {K : PySem.W.Frag} {C : Addr}
theorem noL_row : ∀ r : Row, noL (rowD3 r) = true := fun _ => rfl
theorem noLs_rows (rows : List Row) : noLs (rows.map rowD3) = true := noLs_map _ noL_row rows
theorem BookAt.same {H H' : Hp} {p l : Addr} {b : Str} {rows : List Row} (h : BookAt K C H p l b rows) (s : Same H H') : BookAt K C H' p l b rows := by
  obtain ⟨dx, e⟩ := h.ob
  obtain ⟨xs, e1, e2⟩ := h.ls
  exact ⟨⟨dx, s _ _ e⟩, ⟨xs, s _ _ e1, dps_same s _ _ e2⟩⟩
theorem BookAt.keep {H H' : Hp} {p l F : Addr} {ys : List V} {b : Str} {rows : List Row} (h : BookAt K C H p l b rows) (hF : H F = some (.lst ys)) (nl : l ≠ F) (s : Keep F H H') : BookAt K C H' p l b rows := by
  obtain ⟨dx, e⟩ := h.ob
  obtain ⟨xs, e1, e2⟩ := h.ls
  exact ⟨⟨dx, s _ _ (ne_of e hF (by intro z; cases z)) e⟩, ⟨xs, s _ _ nl e1, dps_keep e2 hF s (noLs_rows rows)⟩⟩
/-- a row at its place -/
theorem rows_at {H : Hp} {xs : List V} {rows : List Row} (h : DpAll K H xs (rows.map rowD3)) {i : Nat} {x : V} (e : xs[i]? = some x) : ∃ t r, x = .ref t ∧ rows[i]? = some r ∧ SqT K H t (rowT r) := by
  obtain ⟨d, e1, e2⟩ := dps_at h e
  rw [List.getElem?_map] at e1
  cases e3 : rows[i]? with
  | none => rw [e3] at e1; cases e1
  | some r =>
    rw [e3] at e1
    cases e1
    obtain ⟨t, ys, rfl, q1, q2⟩ := dp_tup e2
    refine ⟨t, r, rfl, rfl, ?_⟩
    cases q2 with
    | cons a q2 => cases a; cases q2 with
      | cons a q2 => cases a; cases q2 with
        | cons a q2 => cases a; cases q2; exact q1
theorem rows_len {H : Hp} {xs : List V} {rows : List Row} (h : DpAll K H xs (rows.map rowD3)) : xs.length = rows.length := by
  have := dps_len h
  rwa [List.length_map] at this
theorem row_dp {H : Hp} {t : Addr} {r : Row} (h : SqT K H t (rowT r)) : Dp K H (.ref t) (rowD3 r) := .tup h (.cons (.int _) (.cons (.str _) (.cons (.str _) .nil)))
end
/-! ### their contracts -/
def spBkInit (K : PySem.W.Frag) (C : Addr) : Sp := fun vs H Q _ => ∃ (p dx : Addr) (b : Str), vs = [.ref p, .str b] ∧ H p = some (.ins C dx []) ∧ ∀ l H', H l = none → BookAt K C H' p l b [] → Keep p H H' → Q .non H'
def spBkLen (K : PySem.W.Frag) (C : Addr) : Sp := fun vs H Q _ => ∃ (p l : Addr) (b : Str) (rows : List Row), vs = [.ref p] ∧ BookAt K C H p l b rows ∧ Q (.int (rows.length : Nat)) H
def spBkRows (K : PySem.W.Frag) (C : Addr) : Sp := fun vs H Q _ => ∃ (p l : Addr) (b : Str) (rows : List Row), vs = [.ref p] ∧ BookAt K C H p l b rows ∧ ∀ q xs H', Same H H' → H q = none → H' q = some (.lst xs) → DpAll K H' xs (rows.map rowD3) → Q (.ref q) H'
def lastM (rows : List Row) : Nat := (rows.getLast?.map (·.1)).getD 0
def spBkWrite (K : PySem.W.Frag) (C : Addr) : Sp := fun vs H Q _ => ∃ (p l : Addr) (b : Str) (rows : List Row) (m : Nat) (w n : Str), vs = [.ref p, .int (m : Int), .str w, .str n] ∧ BookAt K C H p l b rows ∧ lastM rows ≤ m ∧ rows.length < 1000 ∧
  ∀ H', BookAt K C H' p l b (rows ++ [(m, w, n)]) → Keep l H H' → (∃ ys, H' l = some (.lst ys)) → Q .non H'
theorem lastM_snoc (rows : List Row) (r : Row) : lastM (rows ++ [r]) = r.1 := by simp [lastM]
theorem i_star {K : PySem.W.Frag} {te : TE} {t : TA} {σ : L2.St} {H : Hp} {Q : List V → Hp → Prop} (h : te σ H fun x H1 => ∃ p xs, x = V.ref p ∧ (SqT K H1 p xs ∨ SqL K H1 p xs) ∧ t σ H1 fun ys H2 => Q (xs ++ ys) H2) : StX.tStar K te t σ H Q := h
theorem i_tJoined {ts : List TE} {σ : L2.St} {H : Hp} {Q : VK} (h : tJs ts Str.empty σ H fun out H1 => Q (.str out) H1) : tJoined ts σ H Q := h
theorem snoc_or {α : Type} (l : List α) : l = [] ∨ ∃ t x, l = t ++ [x] := by
  rcases List.eq_nil_or_concat l with h | ⟨t, x, h⟩
  · exact .inl h
  · exact .inr ⟨t, x, by rw [h, List.concat_eq_append]⟩
theorem iteT' {b : Bool} {A B : Prop} (h : b = true) (q : A) : if b = true then A else B := by rw [if_pos h]; exact q
theorem iteF' {b : Bool} {A B : Prop} (h : b = false) (q : B) : if b = true then A else B := by rw [if_neg (by rw [h]; decide)]; exact q
section
variable {P : Program} {w : World} {K : PySem.W.Frag} {mg : Str → Option Value} {base : Heap} (T : Ev K mg)
theorem okBook___init__ : FnOk P w K mg base CX0 1 T.fBook___init__ T.fdBook___init__ ["self", "bank"] (spBkInit K T.CBook) := by
  refine T.FBook___init__.ok scBookInit (fun vs H Q E h => ?_) (fun cdv A outer s H vs Q E hr h => ?_)
  · obtain ⟨p, dx, b, rfl, _⟩ := h
    rfl
  · obtain ⟨p, dx, b, rfl, hp, q⟩ := h
    refine ⟨_,
      (pss_cons (ps_fld (pv 0) (pv 1) rfl)
      (pss_one (ps_fld (pv 0) (pe_lst pa_nil) rfl)))
      , ?_⟩
    walk_at "s"
    refine ⟨p, T.CBook, dx, _, rfl, hp, cl_Book T, T.nBook_bank, (by show 0 < 1000; decide), ?_⟩
    walk_at "s"
    intro l hl
    have nlp : p ≠ l := fun e => by rw [← e, upd_same] at hl; cases hl
    have hl0 : H l = none := by rw [upd_ne nlp.symm] at hl; exact hl
    walk_at "s"
    refine ⟨p, T.CBook, dx, _, rfl, by rw [upd_ne nlp]; exact upd_same, cl_Book T, T.nBook__rows, (by show 1 < 1000; decide), ?_⟩
    walk_at "s"
    exact q l _ hl0 ⟨⟨dx, upd_same⟩, [], by rw [upd_ne nlp.symm]; exact upd_same, .nil⟩ fun x o n e => by rw [upd_ne n, upd_ne (ne_of_none e hl0), upd_ne n]; exact e
theorem okBook___len__ : FnOk P w K mg base CX0 1 T.fBook___len__ T.fdBook___len__ ["self"] (spBkLen K T.CBook) := by
  refine T.FBook___len__.ok scBookLen (fun vs H Q E h => ?_) (fun cdv A outer s H vs Q E hr h => ?_)
  · obtain ⟨p, l, b, rows, rfl, _⟩ := h
    rfl
  · obtain ⟨p, l, b, rows, rfl, hb, q⟩ := h
    obtain ⟨dx, e⟩ := hb.ob
    obtain ⟨xs, e1, e2⟩ := hb.ls
    refine ⟨_,
      (pss_one (ps_ret (pe_callB call_len_seq (by rfl) T.mlen PySem.boot_len (pa_cons (pe_fld (pv 0) rfl) pa_nil))))
      , ?_⟩
    walk_at "s"
    refine ⟨p, T.CBook, dx, _, _, rfl, e, cl_Book T, T.nBook__rows, bookF_rows b l, ?_⟩
    walk_at "s"
    refine ⟨l, _, rfl, .inl (SqL.of e1), ?_⟩
    rw [rows_len e2]
    exact q
theorem okBook_rows : FnOk P w K mg base CX0 1 T.fBook_rows T.fdBook_rows ["self"] (spBkRows K T.CBook) := by
  refine T.FBook_rows.ok scBookRows (fun vs H Q E h => ?_) (fun cdv A outer s H vs Q E hr h => ?_)
  · obtain ⟨p, l, b, rows, rfl, _⟩ := h
    rfl
  · obtain ⟨p, l, b, rows, rfl, hb, q⟩ := h
    obtain ⟨dx, e⟩ := hb.ob
    obtain ⟨xs, e1, e2⟩ := hb.ls
    refine ⟨_,
      (pss_one (ps_ret (pe_callTy call_list_of (by rfl) T.mlist (by decide +kernel) (pa_cons (pe_fld (pv 0) rfl) pa_nil))))
      , ?_⟩
    walk_at "s"
    refine ⟨p, T.CBook, dx, _, _, rfl, e, cl_Book T, T.nBook__rows, bookF_rows b l, ?_⟩
    walk_at "s"
    refine ⟨l, _, rfl, .inl (SqL.of e1), fun q1 hq1 => ?_⟩
    exact q q1 xs _ (same_upd hq1) hq1 upd_same (dps_same (same_upd hq1) _ _ e2)
theorem okBook_write : FnOk P w K mg base CX0 1 T.fBook_write T.fdBook_write ["self", "minute", "word", "name"] (spBkWrite K T.CBook) := by
  refine T.FBook_write.ok scBookWrite (fun vs H Q E h => ?_) (fun cdv A outer s H vs Q E hr h => ?_)
  · obtain ⟨p, l, b, rows, m, w, n, rfl, _⟩ := h
    rfl
  · obtain ⟨p, l, b, rows, m, wd, n, rfl, hb, hm, hlen, q⟩ := h
    obtain ⟨dx, e⟩ := hb.ob
    obtain ⟨xs, e1, e2⟩ := hb.ls
    have hxl := rows_len e2
    refine ⟨_,
      (pss_cons (ps_if (PW.pt (pw_and (pt_truth (pe_fld (pv 0) rfl) (by intro _; rfl)) (pw_and1 (pt_cmpR op_lt (pv 1) (pe_ix ix_tup (pe_ix ix_list (pe_fld (pv 0) rfl) (pe_un un_neg pe_int) (fun _ _ => rfl)) pe_int (fun _ _ => rfl)) (nomark _)))))
      (pss_one ps_never)
      pss_nil)
      (pss_one (ps_expr (pe_bm PySem.F.plainAttrs_list PySem.F.slot_list_append PySem.F.type_list_append mt_append (pe_fld (pv 0) rfl) (pa_cons (pe_tup (pa_cons (pv 1) (pa_cons (pv 2) (pa_cons (pv 3) pa_nil)))) pa_nil)))))
      , ?_⟩
    walk_at "s"
    refine ⟨p, T.CBook, dx, _, _, rfl, e, cl_Book T, T.nBook__rows, bookF_rows b l, ?_⟩
    refine ⟨!xs.isEmpty, .inl ⟨xs, SqL.of e1, rfl⟩, ?_⟩
    have fin : ∀ t, H t = none → Q .non (upd (upd H t (.tup [.int (m : Int), .str wd, .str n])) l (.lst (xs ++ [.ref t]))) := by
      intro t ht
      have nlt : l ≠ t := fun z => by rw [← z, e1] at ht; cases ht
      have npl : p ≠ l := fun z => by rw [z, e1] at e; cases e
      have npt : p ≠ t := fun z => by rw [← z, e] at ht; cases ht
      refine q _ ⟨⟨dx, by rw [upd_ne npl, upd_ne npt]; exact e⟩, _, upd_same, ?_⟩ (fun x o nx ex => by rw [upd_ne nx, upd_ne (ne_of_none ex ht)]; exact ex) ⟨_, upd_same⟩
      have k1 : Keep l H (upd (upd H t (.tup [.int (m : Int), .str wd, .str n])) l (.lst (xs ++ [.ref t]))) := fun x o nx ex => by rw [upd_ne nx, upd_ne (ne_of_none ex ht)]; exact ex
      rw [List.map_append]
      exact dps_app (dps_keep e2 e1 k1 (noLs_rows rows)) (.cons (row_dp (r := (m, wd, n)) (SqT.of (by rw [upd_ne nlt.symm]; exact upd_same))) .nil)
    have fin2 : rFld K "_rows" (V.ref p) H fun x H1 => tyV K "list" x H1 ∧ tCons (tTup (tCons (tVar 1) (tCons (tVar 2) (tCons (tVar 3) tNil)))) tNil (L2.start NBookWrite [V.ref p, V.int ↑m, V.str wd, V.str n]) H1 fun xs H2 => rAppend x xs H2 fun x H1 => Q V.non H1 := by
      refine ⟨p, T.CBook, dx, _, _, rfl, e, cl_Book T, T.nBook__rows, bookF_rows b l, ?_⟩
      refine ⟨.inl ⟨rfl, _, SqL.of e1⟩, ?_⟩
      walk_at "s"
      intro t ht
      walk_at "s"
      have nlt : l ≠ t := fun z => by rw [← z, e1] at ht; cases ht
      exact ⟨l, xs, .ref t, rfl, rfl, by rw [upd_ne nlt]; exact e1, lt_line (by omega), fin t ht⟩
    rcases snoc_or rows with rfl | ⟨rs, r, rfl⟩
    · have : xs = [] := List.length_eq_zero_iff.mp hxl
      subst this
      refine iteF ?_
      refine iteF ?_
      walk_at "s"
      exact fin2
    · rcases snoc_or xs with rfl | ⟨ys, x, rfl⟩
      · simp at hxl
      have hyl : ys.length = rs.length := by simpa using hxl
      obtain ⟨t, r', rfl, er, hr⟩ := rows_at (x := x) (i := rs.length) e2 (by rw [← hyl]; simp)
      have : r' = r := by simpa using er.symm
      subst this
      rw [lastM_snoc] at hm
      refine iteT' (by simp) ?_
      walk_at "s"
      refine ⟨p, T.CBook, dx, _, _, rfl, e, cl_Book T, T.nBook__rows, bookF_rows b l, ?_⟩
      walk_at "s"
      refine i_ixLast (SqL.of e1) ?_
      walk_at "s"
      refine i_ixT0 hr ?_
      walk_at "s"
      refine iteF' (decide_eq_false (by omega)) ?_
      walk_at "s"
      exact fin2
/-! ### a Book's text -/
def rowS (r : Row) : Str := ((((Str.empty ++ showS r.1) ++ " ") ++ r.2.1) ++ " ") ++ r.2.2
def bookS (b : Str) (rows : List Row) : Str := Txt.join "\n" (b :: rows.map rowS)
/-- rows as they are drawn -/
def RowOk (r : Row) : Prop := r.1 ≤ 100000000 ∧ (r.2.1 = "on" ∨ r.2.1 = "off") ∧ LowN 8 r.2.2 ∧ 1 ≤ r.2.2.length
theorem rowS_len {r : Row} (ok : RowOk r) : (rowS r).length ≤ 30 := by
  have hsl := show_len (m := r.1) (by have := ok.1; omega)
  have hwl : r.2.1.length ≤ 3 := by rcases ok.2.1 with z | z <;> rw [z] <;> decide
  have hnl := ok.2.2.1.1
  have z0 : Str.empty.length = 0 := rfl
  have l1 : (" " : Str).length = 1 := rfl
  unfold rowS
  simp only [Str.length_append]
  omega
theorem sum_len {k : Nat} : ∀ {l : List Str}, (∀ z ∈ l, z.length ≤ k) → (l.map fun x => x.length).sum ≤ l.length * k
  | [], _ => by simp
  | x :: l, h => by
    have h1 := sum_len (l := l) fun z hz => h z (List.mem_cons_of_mem _ hz)
    have h2 := h x List.mem_cons_self
    rw [List.map_cons, List.sum_cons, List.length_cons, Nat.add_mul]
    omega
def spBkStr (K : PySem.W.Frag) (C : Addr) : Sp := fun vs H Q _ => ∃ (p l : Addr) (b : Str) (rows : List Row), vs = [.ref p] ∧ BookAt K C H p l b rows ∧ b.length ≤ 10 ∧ rows.length ≤ 500 ∧ (∀ r ∈ rows, RowOk r) ∧ ∀ H', Same H H' → Q (.str (bookS b rows)) H'
theorem okBook___str__ : FnOk P w K mg base CX0 2 T.fBook___str__ T.fdBook___str__ ["self"] (spBkStr K T.CBook) := by
  refine T.FBook___str__.ok scBookStr (fun vs H Q E h => ?_) (fun cdv A outer s H vs Q E hr h => ?_)
  · obtain ⟨p, l, b, rows, rfl, _⟩ := h
    rfl
  · obtain ⟨p, l, b, rows, rfl, hb, hb10, hlen, hok, q⟩ := h
    obtain ⟨dx, e⟩ := hb.ob
    obtain ⟨xs, e1, e2⟩ := hb.ls
    have hxl := rows_len e2
    refine ⟨_,
      (pss_one (ps_ret (pe_join pe_str (pe_lst (pa_cons (pe_fld (pv 0) rfl) (StX.pa_star (pe_lc (own := [("minute", 1), ("word", 2), ("name", 3)]) (g := gTup K 3 (gCons (gName 1) (gCons (gName 2) (gCons (gName 3) gNil)))) (tt := tYes) rfl scBookStr.nd (pi_list (pe_fld (pv 0) rfl)) (blkOk_by (N := NBookStr) (own := [("minute", 1), ("word", 2), ("name", 3)]) (sc := defScope sBookStr) (by decide +kernel)) (fun _ _ _ _ _ => pg_tup rfl (pgs_cons (pg_name (i := 1) scBookStr.nd rfl (Or.inl rfl)) (pgs_cons (pg_name (i := 2) scBookStr.nd rfl (Or.inl rfl)) (pgs_cons (pg_name (i := 3) scBookStr.nd rfl (Or.inl rfl)) pgs_nil)))) (fun _ _ _ _ _ => pts_nil) (fun _ _ _ _ _ => (pe_joinedN (.cons (pe_fmt (pe_call (okshow_time T) (hr.mono (by decide)) (by rfl) T.gshow_time T.Fshow_time.kp T.bshow_time .nil pass0 (pa_cons (pv 1) pa_nil))) (.cons pe_str (.cons (pe_fmt (pv 2)) (.cons pe_str (.cons (pe_fmt (pv 3)) .nil)))))))) pa_nil))))))
      , ?_⟩
    walk_at "s"
    refine ⟨p, T.CBook, dx, _, _, rfl, e, cl_Book T, T.nBook_bank, bookF_bank b l, ?_⟩
    refine i_star ?_
    walk_at "s"
    refine ⟨p, T.CBook, dx, _, _, rfl, e, cl_Book T, T.nBook__rows, bookF_rows b l, ?_⟩
    refine ⟨l, rfl, ⟨_, SqL.of e1⟩, fun D hD => ?_⟩
    refine lc_list (K := K) (a := l) (xs := xs) (fun i H' => H' D = some (.lst (((rows.take i).map rowS).map V.str)) ∧ Same H H') ⟨upd_same, same_upd hD⟩ (fun i H' _ z => SqL.of (z.2 _ _ e1)) ?_ ?_
    · rintro i x H' hx ⟨eD, si⟩
      obtain ⟨t, r, rfl, er, ht⟩ := rows_at e2 hx
      have hi : i < xs.length := (List.getElem?_eq_some_iff.mp hx).1
      have ok := hok r (List.mem_of_getElem? er)
      have hsl := show_len (m := r.1) (by have := ok.1; omega)
      have hwl : r.2.1.length ≤ 3 := by rcases ok.2.1 with z | z <;> rw [z] <;> decide
      have hnl := ok.2.2.1.1
      refine ⟨t, _, rfl, sqT_same ht si, rfl, ?_⟩
      walk_at "s"
      refine ⟨by have := ok.1; omega, fun H5 s5 => ?_⟩
      have z0 : Str.empty.length = 0 := rfl
      have l1 : (" " : Str).length = 1 := rfl
      refine .inl ⟨_, rfl, small_line (by omega), _, rfl, small_line (by rw [Str.length_append]; omega), _, rfl, small_line (by simp only [Str.length_append]; omega), ?_⟩
      refine ⟨_, rfl, .inl ⟨_, rfl, small_line (by omega), _, rfl, small_line (by simp only [Str.length_append]; omega), _, rfl, small_line (by simp only [Str.length_append]; omega), ?_⟩⟩
      refine ⟨_, rfl, .inl ⟨_, rfl, small_line (by omega), _, rfl, small_line (by simp only [Str.length_append]; omega), ?_⟩⟩
      refine ⟨_, s5 _ _ eD, lt_line (by simp; omega), ?_, app_same hD (si.trans s5)⟩
      rw [upd_same, List.take_succ, er]
      simp [rowS]
    · rintro H' ⟨eD, si⟩
      rw [List.take_of_length_le (by omega)] at eD
      refine ⟨D, _, rfl, .inr (SqL.of eD), ?_⟩
      walk_at "s"
      refine ⟨le_line (by simp; omega), fun jp hjp => ?_⟩
      have hsum : (((b :: rows.map rowS)).map fun x => x.length).sum ≤ 500 * 30 + 10 := by
        have h1 := sum_len (k := 30) (l := rows.map rowS) fun z hz => by
          obtain ⟨r, hr, rfl⟩ := List.mem_map.mp hz
          exact rowS_len (hok r hr)
        rw [List.map_cons, List.sum_cons]
        rw [List.length_map] at h1
        omega
      refine ⟨_, jp, b :: rows.map rowS, rfl, rfl, .inl (SqL.of (by rw [upd_same, List.map_cons, List.append_nil])), by rw [show (Str.ofString "\n").length = 1 from rfl]; simp only [List.length_cons, List.length_map]; omega, ?_⟩
      exact q _ (si.trans (same_upd hjp))
end
/-! ### == of Books -/
theorem eqvA_map {α : Type} [DecidableEq α] {f : α → PyData} (h : ∀ x y, PyData.eqv (f x) (f y) = decide (x = y)) : ∀ l m : List α, PyData.eqvAll (l.map f) (m.map f) = decide (l = m)
  | [], [] => by simp [PyData.eqvAll]
  | [], b :: m => by simp [PyData.eqvAll]
  | a :: l, [] => by simp [PyData.eqvAll]
  | a :: l, b :: m => by
    rw [List.map_cons, List.map_cons, PyData.eqvAll, h a b, eqvA_map h l m, ← Bool.decide_and]
    exact decide_eq_decide.mpr ⟨fun z => by rw [z.1, z.2], fun z => ⟨(List.cons.inj z).1, (List.cons.inj z).2⟩⟩
theorem eqv_row (x y : Row) : PyData.eqv (rowD3 x) (rowD3 y) = decide (x = y) := by
  obtain ⟨a, b, c⟩ := x
  obtain ⟨d, e, f⟩ := y
  simp only [rowD3, PyData.eqv, PyData.eqvAll, Bool.and_true]
  have e1 : ((a : Int) == (d : Int)) = decide (a = d) := by
    rw [Bool.beq_eq_decide_eq]
    exact decide_eq_decide.mpr ⟨fun z => by omega, fun z => by omega⟩
  rw [e1, Bool.beq_eq_decide_eq, Bool.beq_eq_decide_eq, ← Bool.decide_and, ← Bool.decide_and]
  exact decide_eq_decide.mpr ⟨fun z => by rw [z.1, z.2.1, z.2.2], fun z => by cases z; exact ⟨rfl, rfl, rfl⟩⟩
theorem eqv_rows (l m : List Row) : PyData.eqv (.list (l.map rowD3)) (.list (m.map rowD3)) = decide (l = m) := by
  rw [PyData.eqv]
  exact eqvA_map eqv_row l m
theorem okd_row {r : Row} (ok : RowOk r) : OkD (rowD3 r) 1 300 := by
  refine (okd_tup (n := 3) (k := 0) (m := 90) (fun d hd => ?_) (by exact Nat.le_of_ble_eq_true rfl)).mono (by decide) (by decide)
  simp only [List.mem_cons, List.not_mem_nil, or_false] at hd
  rcases hd with rfl | rfl | rfl
  · have := ok.1
    exact (okd_int (by omega)).mono (by decide) (by decide)
  · rcases ok.2.1 with z | z <;> rw [z] <;> exact (okd_str (n := 3) (by decide +kernel) (by decide)).mono (by decide) (by decide)
  · exact (okd_str (low_strOk ok.2.2.1) ok.2.2.1.1).mono (by decide) (by decide)
theorem okd_rows {rows : List Row} (h : ∀ r ∈ rows, RowOk r) (l : rows.length ≤ 300) : OkD (.list (rows.map rowD3)) 2 100000 :=
  (okd_map (n := 300) (k := 1) (m := 300) (fun r hr => okd_row (h r hr)) l).mono (by decide) (by decide)
section
variable {P : Program} {w : World} {K : PySem.W.Frag} {mg : Str → Option Value} {base : Heap} (T : Ev K mg)
theorem isBook {H : Hp} {p l : Addr} {b : Str} {rows : List Row} (h : BookAt K T.CBook H p l b rows) : TyX K H (.ref p) (.ref T.CBook) := by
  obtain ⟨dx, e⟩ := h.ob
  exact .base (.ins e (cl_Book T) T.haBook T.hnBook T.htBook T.hmBook)
end
/-! ### exceptions of one field -/
def x1F (f : Str) (v : V) : List (Str × V) := [(f, v)]
def spX1 (C : Addr) (f : Str) : Sp := fun vs H Q _ => ∃ (p : Addr) (m : V), vs = [.ref p, m] ∧ H p = some (exo p C none) ∧ ∀ d H', H d = none → d ≠ p → H' p = some (exo p C (some d)) → H' d = some (exd d (x1F f m)) → (∀ x o, x ≠ p → H x = some o → H' x = some o) → Q .non H'
theorem raise_same {H H1 H' : Hp} {e d : Addr} {X Y : HO} (s : Same H H1) (he : H1 e = none) (hd : (upd H1 e X) d = none) (ne : d ≠ e) (k : ∀ x o, x ≠ e → upd H1 e X x = some o → H' x = some o) : Same H (upd (del H' e) d Y) := by
  intro x o ex
  have e1 := s _ _ ex
  have nx : x ≠ e := ne_of_none e1 he
  have nd : x ≠ d := by
    intro z
    rw [z] at e1
    rw [upd_ne ne, e1] at hd
    cases hd
  rw [upd_ne nd, del_ne nx]
  exact k x o nx (by rw [upd_ne nx]; exact e1)

/-- raise X(v), v in slot i -/
theorem raise_one {C : Addr} {f : Str} {i : Nat} {σ : L2.St} {v : V} {H0 H : Hp} {R : XK} (e : σ[i]? = some (some v)) (s : Same H0 H) (q : ∀ d H', Same H0 H' → H' d = some (.xd (x1F f v)) → R (.ref C) (some d) H') : tMkO C (spX1 C f) [] (tCons (tVar i) tNil) σ H R :=
  ⟨v, e, (by show 1 ≤ 1000; decide), fun e0 n0 => ⟨e0, v, rfl, upd_same, fun d H2 hd ne he1 hd1 k => ⟨rfl, d, _, he1, hd1, by rw [upd_ne ne] at hd; exact hd, q d _ (raise_same s n0 hd ne k) upd_same⟩⟩⟩
set_option maxHeartbeats 8000000
local macro_rules | `(tactic| walk_at "c") => `(tactic| first | omega | decide | exact ⟨by omega, by omega⟩ | exact ⟨by decide, by decide⟩ | exact .inl ⟨by omega, by omega⟩ | exact .inr ⟨by omega, by omega⟩ | exact ⟨by omega, by omega, by omega⟩ | exact ⟨by decide, by decide, by decide⟩ | exact le_line (Nat.le_of_ble_eq_true rfl))
local macro_rules | `(tactic| walk_at "a") => `(tactic| with_reducible (first | refine i_seq ?_ | refine i_asg ?_ | refine i_cons ?_ | refine i_c ?_ | refine i_nil ?_ | refine i_op ?_ | refine i_call ?_ | refine i_cb ?_ | refine i_name ?_ | refine i_next ?_ | refine i_ret ?_ | refine i_drop ?_ | refine i_if ?_ | refine i_test ?_ | refine i_and ?_ | refine i_or ?_ | refine i_not ?_ | refine i_ite ?_ | refine i_lst ?_ | refine i_tup ?_ | refine i_bm ?_ | refine i_un ?_ | refine i_par ?_ | refine i_gsub ?_ | refine i_chain ?_ | refine i_sl ?_ | refine i_nopart ?_ | refine i_part ?_ | refine i_m1 ?_ | refine i_m0 ?_ | refine i_lc ?_ | refine i_iList ?_ | refine i_iTup ?_ | refine i_iStr ?_ | refine i_r1 ?_ | refine i_set ?_ | refine i_callk ?_ | refine i_callN ?_ | refine i_ckw ?_ | refine i_revL ?_ | refine i_tB ?_ | refine i_fld ?_ | refine i_sfld ?_ | refine i_make ?_ | refine i_makeN ?_ | refine i_meth ?_ | refine i_andV ?_ | refine i_orV ?_ | refine i_notV ?_ | refine iteT ?_ | refine iteF ?_ | refine i_yes ?_))
local macro_rules | `(tactic| walk_at "s") => `(tactic| repeat (first | walk_at "a" | refine i_var rfl ?_ | refine i_aug rfl ?_ | refine And.intro ⟨_, rfl⟩ ?_ | refine ⟨_, rfl, ?_⟩ | refine ⟨_, _, rfl, rfl, ?_⟩ | refine ⟨_, _, rfl, ?_⟩ | refine ⟨rfl, ?_⟩ | refine And.intro (by walk_at "c") ?_))
/-- raise X(v), v a value by now -/
theorem raise_val {C : Addr} {f : Str} {σ : L2.St} {v : V} {H0 H : Hp} {R : XK} (s : Same H0 H) (q : ∀ d H', Same H0 H' → H' d = some (.xd (x1F f v)) → R (.ref C) (some d) H') : tMkO C (spX1 C f) [] (fun _ H Q => Q [v] H) σ H R :=
  ⟨(by show 1 ≤ 1000; decide), fun e0 n0 => ⟨e0, v, rfl, upd_same, fun d H2 hd ne he1 hd1 k => ⟨rfl, d, _, he1, hd1, by rw [upd_ne ne] at hd; exact hd, q d _ (raise_same s n0 hd ne k) upd_same⟩⟩⟩
/-! ### == of Books with anything, and rows that go backward -/
def spBkEqA (K : PySem.W.Frag) (C : Addr) : Sp := fun vs H Q _ => ∃ (p l : Addr) (y : V) (b : Str) (rows : List Row), vs = [.ref p, y] ∧ BookAt K C H p l b rows ∧ (∀ r ∈ rows, RowOk r) ∧ rows.length ≤ 300 ∧
  ((∃ (q m : Addr) (c : Str) (ss : List Row), y = .ref q ∧ BookAt K C H q m c ss ∧ (∀ r ∈ ss, RowOk r) ∧ ss.length ≤ 300 ∧ Q (.bl (decide (b = c) && decide (rows = ss))) H) ∨
   (∃ t, TyX K H y t ∧ PySem.W.kitOne K t (.ref C) = some false ∧ Q (.bl false) H))
def spBkWriteX (K : PySem.W.Frag) (C CB : Addr) : Sp := fun vs H Q E => ∃ (p l : Addr) (b : Str) (rows : List Row) (m : Nat) (w n : Str), vs = [.ref p, .int (m : Int), .str w, .str n] ∧ BookAt K C H p l b rows ∧ m < lastM rows ∧
  ∀ d H', Same H H' → H' d = some (.xd (x1F "minute" (.int (lastM rows : Nat)))) → E (.ref CB) (some d) H'
section
variable {P : Program} {w : World} {K : PySem.W.Frag} {mg : Str → Option Value} {base : Heap} (T : Ev K mg)
theorem okBackward___init__ : FnOk P w K mg base CX0 1 T.fBackward___init__ T.fdBackward___init__ ["self", "minute"] (spX1 T.CBackward "minute") := by
  refine T.FBackward___init__.ok scBackwardInit (fun vs H Q E h => ?_) (fun cdv A outer s H vs Q E hr h => ?_)
  · obtain ⟨p, m, rfl, _⟩ := h
    rfl
  · obtain ⟨p, a, rfl, hp, q⟩ := h
    refine ⟨_, pss_one (ps_put (pv 0) (pv 1)), ?_⟩
    refine ⟨_, rfl, _, rfl, p, T.CBackward, rfl, T.oxBackward, T.nBackward_minute, .inl ⟨hp, fun d hd ne => ?_⟩⟩
    refine q d _ hd ne upd_same ?_ fun x o n e => ?_
    · rw [upd_ne ne, upd_same]; rfl
    · rw [upd_ne n, upd_ne (ne_of_none e hd)]
      exact e
theorem okBook_writeX : FnOk P w K mg base (L2.CX P w) 3 T.fBook_write T.fdBook_write ["self", "minute", "word", "name"] (spBkWriteX K T.CBook T.CBackward) := by
  refine T.FBook_write.okX scBookWrite (fun vs H Q E h => ?_) (fun cdv A outer s H vs Q E hr h => ?_)
  · obtain ⟨p, l, b, rows, m, w, n, rfl, _⟩ := h
    rfl
  · obtain ⟨p, l, b, rows, m, wd, n, rfl, hb, hm, q⟩ := h
    obtain ⟨dx, e⟩ := hb.ob
    obtain ⟨xs, e1, e2⟩ := hb.ls
    have hxl := rows_len e2
    refine ⟨_,
      (pss_cons (ps_if (PW.pt (pw_and (pt_truth (pe_fld (pv 0) rfl) (by intro _; rfl)) (pw_and1 (pt_cmpR op_lt (pv 1) (pe_ix ix_tup (pe_ix ix_list (pe_fld (pv 0) rfl) (pe_un un_neg pe_int) (fun _ _ => rfl)) pe_int (fun _ _ => rfl)) (nomark _)))))
      (pss_one (ps_raise rfl (takes_of rfl rfl rfl rfl) (pmk_oexB T.oxBackward T.aBackward___init__ (beq_iff_eq.mp T.iBackward___init__) (okBackward___init__ T) (hr.mono (by decide)) T.bBackward___init__ pass0 (by rfl) T.gCBackward (by exact (pa_cons (pe_ix ix_tup (pe_ix ix_list (pe_fld (pv 0) rfl) (pe_un un_neg pe_int) (fun _ _ => rfl)) pe_int (fun _ _ => rfl)) pa_nil)))))
      pss_nil)
      (pss_one (ps_expr (pe_bm PySem.F.plainAttrs_list PySem.F.slot_list_append PySem.F.type_list_append mt_append (pe_fld (pv 0) rfl) (pa_cons (pe_tup (pa_cons (pv 1) (pa_cons (pv 2) (pa_cons (pv 3) pa_nil)))) pa_nil)))))
      , ?_⟩
    rcases snoc_or rows with rfl | ⟨rs, r, rfl⟩
    · exact absurd hm (Nat.not_lt_zero _)
    · rcases snoc_or xs with rfl | ⟨ys, x, rfl⟩
      · simp at hxl
      have hyl : ys.length = rs.length := by simpa using hxl
      obtain ⟨t, r', rfl, er, hr1⟩ := rows_at (x := x) (i := rs.length) e2 (by rw [← hyl]; simp)
      have : r' = r := by simpa using er.symm
      subst this
      rw [lastM_snoc] at hm q
      walk_at "s"
      refine ⟨p, T.CBook, dx, _, _, rfl, e, cl_Book T, T.nBook__rows, bookF_rows b l, ?_⟩
      refine ⟨!(ys ++ [V.ref t]).isEmpty, .inl ⟨_, SqL.of e1, rfl⟩, ?_⟩
      refine iteT' (by simp) ?_
      walk_at "s"
      refine ⟨p, T.CBook, dx, _, _, rfl, e, cl_Book T, T.nBook__rows, bookF_rows b l, ?_⟩
      walk_at "s"
      refine i_ixLast (SqL.of e1) ?_
      walk_at "s"
      refine i_ixT0 hr1 ?_
      walk_at "s"
      refine iteT' (decide_eq_true (by omega)) ?_
      change tCons _ tNil _ _ _
      walk_at "s"
      refine ⟨p, T.CBook, dx, _, _, rfl, e, cl_Book T, T.nBook__rows, bookF_rows b l, ?_⟩
      walk_at "s"
      refine i_ixLast (SqL.of e1) ?_
      walk_at "s"
      refine i_ixT0 hr1 ?_
      walk_at "s"
      exact raise_val (σ := []) same_refl q
theorem okBook___eq__ : FnOk P w K mg base CX0 1 T.fBook___eq__ T.fdBook___eq__ ["self", "other"] (spBkEqA K T.CBook) := by
  refine T.FBook___eq__.ok scBookEq (fun vs H Q E h => ?_) (fun cdv A outer s H vs Q E hr h => ?_)
  · obtain ⟨p, l, y, b, rows, rfl, _⟩ := h
    rfl
  · obtain ⟨p, l, y, b, rows, rfl, h1, o1, l1, h⟩ := h
    obtain ⟨dx, e⟩ := h1.ob
    obtain ⟨xs, e1, e2⟩ := h1.ls
    refine ⟨_,
      (pss_one (ps_ret (pe_and (pe_callB call_isi (by rfl) T.misinstance (by decide +kernel) (pa_cons (pv 1) (pa_cons (pe_glob (v := .ref T.CBook) (by rfl) T.gCBook rfl) pa_nil))) (pe_and (pe_cmpR op_eq (pe_fld (pv 0) rfl) (pe_fld (pv 1) rfl) (nomark _)) (pe_one (pe_cmpR (op_eqD hr.units) (pe_fld (pv 0) rfl) (pe_fld (pv 1) rfl) (nomark _)))))))
      , ?_⟩
    rcases h with ⟨o, m, c, ss, rfl, h2, o2, l2, q⟩ | ⟨t, ty, hk, q⟩
    · obtain ⟨dy, f⟩ := h2.ob
      obtain ⟨ys, f1, f2⟩ := h2.ls
      walk_at "s"
      refine isi_own (isBook T h2) ?_
      walk_at "s"
      refine ⟨p, T.CBook, dx, _, _, rfl, e, cl_Book T, T.nBook_bank, bookF_bank b l, ?_⟩
      refine i_fld ?_
      walk_at "s"
      refine ⟨o, T.CBook, dy, _, _, rfl, f, cl_Book T, T.nBook_bank, bookF_bank c m, ?_⟩
      refine ⟨rfl, _, rfl, ?_⟩
      refine ite_str (fun c1 => ?_) (fun c1 => ?_)
      · subst c1
        rw [decide_eq_true rfl, Bool.true_and] at q
        walk_at "s"
        refine ⟨p, T.CBook, dx, _, _, rfl, e, cl_Book T, T.nBook__rows, bookF_rows b l, ?_⟩
        refine i_fld ?_
        walk_at "s"
        refine ⟨o, T.CBook, dy, _, _, rfl, f, cl_Book T, T.nBook__rows, bookF_rows b m, ?_⟩
        refine ⟨_, _, .lst (SqL.of e1) e2, .lst (SqL.of f1) f2, (okd_rows o1 l1).shaped, (okd_rows o2 l2).shaped, ?_⟩
        rw [eqv_rows]
        exact q
      · rw [decide_eq_false c1, Bool.false_and] at q
        exact q
    · walk_at "s"
      refine ⟨_, _, _, _, false, rfl, .own T.CBook, ty, hk, ?_⟩
      walk_at "s"
      exact q
end
/-! ### more of Books -/
theorem same_none {H H' : Hp} {p : Addr} (s : Same H H') (h : H' p = none) : H p = none := by
  cases e : H p with
  | none => rfl
  | some o => rw [s _ _ e] at h; cases h
def Rising (rows : List Row) : Prop := List.Pairwise (fun x y => x.1 ≤ y.1) rows
theorem rising_last {rows : List Row} (h : Rising rows) {i : Nat} {r : Row} (e : rows[i]? = some r) : lastM (rows.take i) ≤ r.1 := by
  rcases snoc_or (rows.take i) with z | ⟨t, x, z⟩
  · rw [z]; exact Nat.zero_le _
  · rw [z, lastM_snoc]
    have h1 : Rising (rows.take i ++ rows.drop i) := by rw [List.take_append_drop]; exact h
    have h2 := (List.pairwise_append.mp h1).2.2 x (by rw [z]; simp) r (by
      have : (rows.drop i)[0]? = some r := by rw [List.getElem?_drop]; exact e
      exact List.mem_of_getElem? this)
    exact h2
def IsBank (b : Str) : Prop := b = "near" ∨ b = "far"
theorem mk_none {H : Hp} {x dx l C : Addr} {o : HO} {fs : List (Str × V)} (h : (upd (upd H dx o) x (.ins C dx fs)) l = none) (hdx : H dx = none) : H l = none := by
  by_cases c : l = x
  · rw [c, upd_same] at h; cases h
  · rw [upd_ne c] at h
    by_cases c2 : l = dx
    · rw [c2]; exact hdx
    · rw [upd_ne c2] at h; exact h
theorem Tape.keepL {H H' : Hp} {F c l : Addr} {n : Nat} (h : Tape H F c n) (k : Keep l H H') (n1 : F ≠ l) (n2 : c ≠ l) : Tape H' F c n := by
  obtain ⟨t, r, ns, h1, h2, h3⟩ := h.ex
  exact ⟨t, r, ns, k _ _ n1 h1, k _ _ n2 h2, h3⟩
theorem bookS_nil (b : Str) : bookS b [] = b := ext_tl (by unfold bookS; rw [TL.join_eq, TL.tl_join]; rfl)
theorem BookAt.nep {K : PySem.W.Frag} {C : Addr} {H : Hp} {p l : Addr} {b : Str} {rows : List Row} (h : BookAt K C H p l b rows) : ∃ ys, H l = some (.lst ys) := let ⟨xs, e, _⟩ := h.ls; ⟨xs, e⟩
set_option maxHeartbeats 8000000
local macro_rules | `(tactic| walk_at "c") => `(tactic| first | omega | decide | exact ⟨by omega, by omega⟩ | exact ⟨by decide, by decide⟩ | exact .inl ⟨by omega, by omega⟩ | exact .inr ⟨by omega, by omega⟩ | exact ⟨by omega, by omega, by omega⟩ | exact ⟨by decide, by decide, by decide⟩ | exact le_line (Nat.le_of_ble_eq_true rfl))
local macro_rules | `(tactic| walk_at "a") => `(tactic| with_reducible (first | refine i_seq ?_ | refine i_asg ?_ | refine i_cons ?_ | refine i_c ?_ | refine i_nil ?_ | refine i_op ?_ | refine i_call ?_ | refine i_cb ?_ | refine i_name ?_ | refine i_next ?_ | refine i_ret ?_ | refine i_drop ?_ | refine i_if ?_ | refine i_test ?_ | refine i_and ?_ | refine i_or ?_ | refine i_not ?_ | refine i_ite ?_ | refine i_lst ?_ | refine i_tup ?_ | refine i_bm ?_ | refine i_un ?_ | refine i_par ?_ | refine i_gsub ?_ | refine i_chain ?_ | refine i_sl ?_ | refine i_nopart ?_ | refine i_part ?_ | refine i_m1 ?_ | refine i_m0 ?_ | refine i_lc ?_ | refine i_iList ?_ | refine i_iTup ?_ | refine i_iStr ?_ | refine i_r1 ?_ | refine i_set ?_ | refine i_callk ?_ | refine i_callN ?_ | refine i_ckw ?_ | refine i_revL ?_ | refine i_tB ?_ | refine i_fld ?_ | refine i_sfld ?_ | refine i_make ?_ | refine i_makeN ?_ | refine i_meth ?_ | refine i_andV ?_ | refine i_orV ?_ | refine i_notV ?_ | refine iteT ?_ | refine iteF ?_ | refine i_yes ?_))
local macro_rules | `(tactic| walk_at "s") => `(tactic| repeat (first | walk_at "a" | refine i_var rfl ?_ | refine i_aug rfl ?_ | refine And.intro ⟨_, rfl⟩ ?_ | refine ⟨_, rfl, ?_⟩ | refine ⟨_, _, rfl, rfl, ?_⟩ | refine ⟨_, _, rfl, ?_⟩ | refine ⟨rfl, ?_⟩ | refine And.intro (by walk_at "c") ?_))
/-! ### drawn names: one letter another one in each -/
def abc : Str := "abcdefghijklmnopqrstuvwxyz"
def lettered (ns : List Int) : Str := Txt.join Str.empty (ns.map fun i => (⟨#[97 + i.toNat]⟩ : Str))
theorem tl_lettered : ∀ ns : List Int, tl (lettered ns) = ns.map fun i => 97 + i.toNat := by
  have h : ∀ ns : List Int, TL.joinL [] ((ns.map fun i => (⟨#[97 + i.toNat]⟩ : Str)).map tl) = ns.map fun i => 97 + i.toNat := by
    intro ns
    induction ns with
    | nil => rfl
    | cons x r ih =>
      cases r with
      | nil => rfl
      | cons y r =>
        show [97 + x.toNat] ++ ([] ++ TL.joinL [] (((y :: r).map fun i => (⟨#[97 + i.toNat]⟩ : Str)).map tl)) = _
        rw [ih]; rfl
  intro ns
  unfold lettered
  rw [TL.join_eq, TL.tl_join]
  exact h ns
theorem lettered_len (ns : List Int) : (lettered ns).length = ns.length := by rw [TL.len_tl, tl_lettered, List.length_map]
/-- the k-th name of a row of letters -/
def nameK (ns : List Int) (pl : Nat) (sh : Int) (k : Nat) : Str :=
  cutS (lettered (ns.set pl ((ns.getD pl 0 + 7 * (k : Int)).fmod 26))) none (some (max ((pl : Int) + 1) (((ns.length : Nat) : Int) - sh * (k : Int).fmod 3)))
def In26 (ns : List Int) : Prop := ∀ i ∈ ns, 0 ≤ i ∧ i < 26
theorem nameK_low {ns : List Int} {pl k : Nat} {sh : Int} (h8 : ns.length ≤ 8) (hi : In26 ns) (hp : pl < ns.length) : LowN 8 (nameK ns pl sh k) := by
  refine cut_low ⟨by rw [lettered_len, List.length_set]; exact h8, fun c hc => ?_⟩
  rw [tl_lettered] at hc
  obtain ⟨i, hm, rfl⟩ := List.mem_map.mp hc
  have : 0 ≤ i ∧ i < 26 := by
    rcases List.mem_or_eq_of_mem_set hm with z | z
    · exact hi i z
    · rw [z]; exact fmod_in (by decide)
  omega
theorem nameK_at {ns : List Int} {pl k : Nat} {sh : Int} (hi : In26 ns) (hp : pl < ns.length) (hs : 0 ≤ sh ∧ sh < 2) : (tl (nameK ns pl sh k))[pl]? = some (97 + ((ns.getD pl 0 + 7 * (k : Int)).fmod 26).toNat) := by
  have f3 := fmod_in (a := (k : Int)) (b := 3) (by decide)
  have l1 := lettered_len (ns.set pl ((ns.getD pl 0 + 7 * (k : Int)).fmod 26))
  rw [List.length_set] at l1
  unfold nameK
  rw [tl_cut, HT.sIx_none, l1]
  have hb : ∃ q : Nat, max ((pl : Int) + 1) (((ns.length : Nat) : Int) - sh * (k : Int).fmod 3) = (q : Int) ∧ pl < q := by
    generalize hz : max ((pl : Int) + 1) (((ns.length : Nat) : Int) - sh * (k : Int).fmod 3) = z
    have : (pl : Int) + 1 ≤ z := by rw [← hz]; exact Int.le_max_left _ _
    obtain ⟨q, rfl⟩ := Int.eq_ofNat_of_zero_le (show 0 ≤ z by omega)
    exact ⟨q, rfl, by omega⟩
  obtain ⟨q, e, hq⟩ := hb
  rw [e, show HT.sIx ns.length ns.length (some (q : Int)) = min q ns.length from HT.sIx_nat _ _ q, List.drop_zero, Nat.sub_zero, List.getElem?_take, if_pos (by omega), tl_lettered, List.getElem?_map, List.getElem?_set]
  simp [hp]
theorem nameK_pos {ns : List Int} {pl k : Nat} {sh : Int} (hi : In26 ns) (hp : pl < ns.length) (hs : 0 ≤ sh ∧ sh < 2) : 1 ≤ (nameK ns pl sh k).length := by
  have := (List.getElem?_eq_some_iff.mp (nameK_at (k := k) hi hp hs)).1
  rw [TL.len_tl]; omega
theorem nameK_inj {ns : List Int} {pl i j : Nat} {sh : Int} (hi : In26 ns) (hp : pl < ns.length) (hs : 0 ≤ sh ∧ sh < 2) (h1 : i < 26) (h2 : j < 26) (e : nameK ns pl sh i = nameK ns pl sh j) : i = j := by
  have a := nameK_at (k := i) hi hp hs
  have b := nameK_at (k := j) hi hp hs
  rw [e] at a
  have c := Option.some.inj (a.symm.trans b)
  have f1 := fmod_in (a := ns.getD pl 0 + 7 * (i : Int)) (b := 26) (by decide)
  have f2 := fmod_in (a := ns.getD pl 0 + 7 * (j : Int)) (b := 26) (by decide)
  rw [Int.fmod_eq_emod_of_nonneg _ (by decide)] at c f1 f2
  rw [Int.fmod_eq_emod_of_nonneg _ (by decide)] at c
  generalize ns.getD pl 0 = z at c
  omega
def namesOf (ns : List Int) (pl : Nat) (sh : Int) (m : Nat) : List Str := (List.range m).map (nameK ns pl sh)
theorem namesOf_nodup {ns : List Int} {pl m : Nat} {sh : Int} (hi : In26 ns) (hp : pl < ns.length) (hs : 0 ≤ sh ∧ sh < 2) (hm : m ≤ 26) : (namesOf ns pl sh m).Nodup := by
  unfold namesOf
  exact List.pairwise_map.mpr ((List.nodup_range (n := m)).imp_of_mem fun {i j} h1 h2 ne e => ne (nameK_inj hi hp hs (by have := List.mem_range.mp h1; omega) (by have := List.mem_range.mp h2; omega) e))
theorem max_if (x y : Int) : (if x > y then x else y) = max y x := by
  rw [Int.max_def]; split <;> split <;> omega
def spNames2 : Sp := fun vs H Q _ => ∃ (T c : Addr) (m n : Nat), vs = [.ref T, .int (m : Int)] ∧ m ≤ 26 ∧ n < 900000 ∧ Tape H T c n ∧
  ∀ (p : Addr) (zs : List Str) H', zs.length = m → (∀ z ∈ zs, LowN 8 z ∧ 1 ≤ z.length) → zs.Nodup → H' p = some (.lst (zs.map V.str)) → p ≠ T → H p = none → Tape H' T c (n + 11) → Keep T H H' → Q (.ref p) H'
section
variable {P : Program} {w : World} {K : PySem.W.Frag} {mg : Str → Option Value} {base : Heap} (T : Ev K mg)
theorem ok_law_names : FnOk P w K mg base CX0 2 T.f_law_names T.fd_law_names ["_law_feed_here", "_law_many"] spNames2 := by
  refine T.F_law_names.ok scNames (fun vs H Q E h => ?_) (fun cdv A outer s H vs Q E hr h => ?_)
  · obtain ⟨a, c, m, n, rfl, _⟩ := h
    rfl
  · obtain ⟨a, c, m, n, rfl, hm, hn, hT, q⟩ := h
    refine ⟨_,
      (pss_cons (ps_set (i := 2) scNames.nd rfl (.inr rfl) pe_str)
      (pss_cut (ps_setLc (i := 4) (own := [("_law_k", 3)]) (g := gName 3) (tt := tYes) rfl scNames.nd rfl rfl (sw_true rfl rfl rfl (by decide +kernel)) (pi_range1 (by rfl) T.mrange (pa_cons (pe_op op_add pe_int (pe_call (ok_law_draw T) (hr.mono (by decide)) (by rfl) T.g_law_draw T.F_law_draw.kp T.b_law_draw .nil pass0 (pa_cons (pv 0) (pa_cons pe_int pa_nil)))) pa_nil)) (blkOk_by (N := NNames) (own := [("_law_k", 3)]) (sc := defScope sNames) (by decide +kernel)) (fun _ _ _ _ _ => pg_name (i := 3) scNames.nd rfl (Or.inl rfl)) (fun _ _ _ _ _ => pts_nil) (fun _ _ _ _ _ => (pe_call (ok_law_draw T) (hr.mono (by decide)) (by rfl) T.g_law_draw T.F_law_draw.kp T.b_law_draw .nil pass0 (pa_cons (pv 0) (pa_cons pe_int pa_nil)))))
      (pss_cut (ps_par (i := 5) (j := 6) rfl scNames.nd rfl rfl (by decide) rfl rfl (pa_cons (pe_call (ok_law_draw T) (hr.mono (by decide)) (by rfl) T.g_law_draw T.F_law_draw.kp T.b_law_draw .nil pass0 (pa_cons (pv 0) (pa_cons (pe_callB call_len_seq (by rfl) T.mlen PySem.boot_len (pa_cons (pv 4) pa_nil)) pa_nil))) (pa_cons (pe_call (ok_law_draw T) (hr.mono (by decide)) (by rfl) T.g_law_draw T.F_law_draw.kp T.b_law_draw .nil pass0 (pa_cons (pv 0) (pa_cons pe_int pa_nil))) pa_nil)) (by rfl))
      (pss_cons (ps_set (i := 7) scNames.nd rfl (.inl rfl) (pe_lst pa_nil))
      (pss_cons (ps_for PassesOwn.never rfl (pi_range1 (by rfl) T.mrange (pa_cons (pv 1) pa_nil)) (pg_name (i := 3) scNames.nd rfl (.inl rfl))
      (pss_cons (ps_set (i := 8) scNames.nd rfl (.inl rfl) (pe_callTy call_list_of (by rfl) T.mlist (by decide +kernel) (pa_cons (pv 4) pa_nil)))
      (pss_cons (ps_asg (pe_op op_modN (pe_op op_add (pe_ix ix_list (pv 4) (pv 5) (fun _ _ => rfl)) (pe_op op_mul pe_int (pv 3))) pe_int) (pg_sub (pv 8) (pv 5) set_list))
      (pss_cons (ps_set (i := 9) scNames.nd rfl (.inl rfl) (pe_join pe_str (pe_lc (own := [("_law_one", 10)]) (g := gName 10) (tt := tYes) rfl scNames.nd (pi_list (pv 8)) (blkOk_by (N := NNames) (own := [("_law_one", 10)]) (sc := defScope sNames) (by decide +kernel)) (fun _ _ _ _ _ => pg_name (i := 10) scNames.nd rfl (Or.inl rfl)) (fun _ _ _ _ _ => pts_nil) (fun _ _ _ _ _ => (pe_ix ix_str (pv 2) (pv 10) (fun _ _ => rfl))))))
      (pss_one (ps_expr (pe_bm PySem.F.plainAttrs_list PySem.F.slot_list_append PySem.F.type_list_append mt_append (pv 7) (pa_cons (pe_slice sl_str (pv 9) po_none (po_some (pe_callB (call_max2 rfl) (by rfl) T.mmax (by decide +kernel) (pa_cons (pe_op op_add (pv 5) pe_int) (pa_cons (pe_op op_sub (pe_callB call_len_str (by rfl) T.mlen PySem.boot_len (pa_cons (pv 9) pa_nil)) (pe_op op_mul (pv 6) (pe_op op_modN (pv 3) pe_int))) pa_nil))))) pa_nil))))))))
      (pss_one (ps_ret (pv 7))))))))
      , ?_⟩
    refine ⟨fun σ H' => ∃ (sp : Addr) (ns : List Int), ns.length ≤ 8 ∧ 0 < ns.length ∧ In26 ns ∧ σ = [some (.ref a), some (.int (m : Int)), some (.str abc), none, some (.ref sp), none, none, none, none, none, none] ∧ H' sp = some (.lst (ns.map V.int)) ∧ sp ≠ a ∧ H sp = none ∧ Tape H' a c (n + 9) ∧ Keep a H H', ?_, ?_⟩
    · walk_at "s"
      refine dr 8 hT (by omega) (by omega) (by omega) fun d8 H1 d80 d81 T1 k1 => ?_
      walk_at "s"
      intro D nD
      have nDa := T1.ne nD
      have nDc := T1.nec nD
      refine lc_range (lo := 0) (n := (1 + d8).toNat) (fun i H' => ∃ ns : List Int, ns.length = i ∧ In26 ns ∧ H' D = some (.lst (ns.map V.int)) ∧ Tape H' a c (n + 1 + i) ∧ Keep a H H')
        ⟨[], rfl, fun y hy => (by cases hy), upd_same, T1.new nD, k1.new nD⟩ ?_ ?_
      · rintro i H' hi ⟨ns, ln, hin, eD, Ti, ki⟩
        walk_at "s"
        refine dr 26 Ti (by omega) (by omega) (by omega) fun d H4 d0 d1 T4 k4 => ?_
        refine ⟨_, k4 _ _ nDa eD, by rw [List.length_map]; exact Nat.lt_of_lt_of_le (show ns.length < 100 by omega) (small_line (by decide)), ns ++ [d], by rw [List.length_append, ln]; rfl, ?_, by rw [upd_same, List.map_append]; rfl, (T4.upd nDa nDc).mono (by omega), fun x o nx e => ?_⟩
        · intro y hy
          rcases List.mem_append.mp hy with hy | hy
          · exact hin y hy
          · rw [List.mem_singleton.mp hy]; exact ⟨d0, d1⟩
        · rw [upd_ne (ne_of_none (k1 x o nx e) nD)]; exact k4 x o nx (ki x o nx e)
      · rintro H' ⟨ns, ln, hin, eD, Ti, ki⟩
        exact ⟨D, ns, by omega, by omega, hin, rfl, eD, nDa, k1.free nD nDa, Ti.mono (by omega), ki⟩
    rintro σ H2 ⟨sp, ns, h8, h0, hin, rfl, es, nsa, hs0, T2, k2⟩
    refine ⟨fun σ H' => ∃ (pl : Nat) (sh : Int), pl < ns.length ∧ (0 ≤ sh ∧ sh < 2) ∧ σ = [some (.ref a), some (.int (m : Int)), some (.str abc), none, some (.ref sp), some (.int (pl : Int)), some (.int sh), none, none, none, none] ∧ H' sp = some (.lst (ns.map V.int)) ∧ Tape H' a c (n + 11) ∧ Keep a H H', ?_, ?_⟩
    · walk_at "s"
      refine ⟨sp, _, rfl, .inl (SqL.of es), ?_⟩
      rw [List.length_map]
      walk_at "s"
      refine dr (ns.length : Nat) T2 (by omega) (by omega) (by omega) fun d5 H3 d50 d51 T3 k3 => ?_
      walk_at "s"
      refine dr 2 T3 (by omega) (by omega) (by omega) fun d6 H4 d60 d61 T4 k4 => ?_
      walk_at "s"
      obtain ⟨pl, rfl⟩ := Int.eq_ofNat_of_zero_le d50
      exact ⟨pl, d6, by omega, ⟨d60, d61⟩, rfl, k4 _ _ nsa (k3 _ _ nsa es), T4.mono (by omega), (k2.trans k3).trans k4⟩
    rintro σ H3 ⟨pl, sh, hpl, hsh, rfl, es3, T3, k3⟩
    refine ⟨Nat.zero_le _, fun f hf => ?_⟩
    walk_at "s"
    have nfa := T3.ne hf
    have nfc := T3.nec hf
    have nsf : sp ≠ f := ne_of_none es3 hf
    refine for_range (lo := 0) (n := m) (fun i σ H' => ∃ (w3 w8 w9 w10 : Option V), σ = [some (.ref a), some (.int (m : Int)), some (.str abc), w3, some (.ref sp), some (.int (pl : Int)), some (.int sh), some (.ref f), w8, w9, w10] ∧ H' sp = some (.lst (ns.map V.int)) ∧ H' f = some (.lst ((namesOf ns pl sh i).map V.str)) ∧ Tape H' a c (n + 11) ∧ Keep a H H')
      ⟨_, _, _, _, rfl, upd_at hf es3, upd_same, T3.new hf, k3.new hf⟩ ?_ ?_
    · rintro i σ H4 hi ⟨w3, w8, w9, w10, rfl, es4, ef4, T4, k4⟩
      walk_at "s"
      refine ⟨sp, _, rfl, .inl (SqL.of es4), fun tp htp => ?_⟩
      have es5 := upd_at (o := .lst (ns.map V.int)) htp es4
      have ef5 := upd_at (o := .lst (ns.map V.int)) htp ef4
      have T5 := T4.new (o := .lst (ns.map V.int)) htp
      have k5 := k4.new (o := .lst (ns.map V.int)) htp
      have nst : sp ≠ tp := ne_of_none es4 htp
      have nft : f ≠ tp := ne_of_none ef4 htp
      walk_at "s"
      refine ⟨sp, _, (pl : Int), .int (ns.getD pl 0), rfl, rfl, SqL.of es5, atI_nat ?_, ?_⟩
      · rw [List.getElem?_map, List.getElem?_eq_getElem hpl]; simp [List.getD, hpl]
      walk_at "s"
      refine ⟨tp, _, (pl : Int), pl, rfl, rfl, upd_same, ?_, ?_⟩
      · rw [List.length_map]; exact ixN_nat hpl
      rw [upd_upd]
      have em : (ns.map V.int).set pl (V.int ((ns.getD pl 0 + 7 * (0 + (i : Int))).fmod 26)) = ((ns.set pl ((ns.getD pl 0 + 7 * (i : Int)).fmod 26)).map V.int) := by rw [List.map_set, Int.zero_add]
      show _root_.id _
      dsimp only [id]
      rw [em]
      have hms : In26 (ns.set pl ((ns.getD pl 0 + 7 * (i : Int)).fmod 26)) := fun z hz => by
        rcases List.mem_or_eq_of_mem_set hz with z1 | z1
        · exact hin z z1
        · rw [z1]; exact fmod_in (by decide)
      have hml : (ns.set pl ((ns.getD pl 0 + 7 * (i : Int)).fmod 26)).length = ns.length := List.length_set ..
      have hnm : nameK ns pl sh i = cutS (lettered (ns.set pl ((ns.getD pl 0 + 7 * (i : Int)).fmod 26))) none (some (max ((pl : Int) + 1) (((ns.length : Nat) : Int) - sh * (i : Int).fmod 3))) := rfl
      generalize ns.set pl ((ns.getD pl 0 + 7 * (i : Int)).fmod 26) = ms at hms hml hnm
      have s1 : Same H4 (upd H4 tp (.lst (ms.map V.int))) := same_upd htp
      have e5 : (upd H4 tp (.lst (ms.map V.int))) tp = some (.lst (ms.map V.int)) := upd_same
      generalize upd H4 tp (.lst (ms.map V.int)) = H5 at s1 e5
      walk_at "s"
      refine ⟨⟨_, SqL.of e5⟩, fun D hD => ?_⟩
      refine lc_list (K := K) (a := tp) (xs := ms.map V.int) (fun j H' => H' D = some (.lst (((ms.take j).map fun i => (⟨#[97 + i.toNat]⟩ : Str)).map V.str)) ∧ Same H5 H') ⟨upd_same, same_upd hD⟩ (fun j H' _ z => SqL.of (z.2 _ _ e5)) ?_ ?_
      · rintro j x H' hx ⟨eD, sj⟩
        rw [List.getElem?_map] at hx
        cases hz : ms[j]? with
        | none => rw [hz] at hx; cases hx
        | some z =>
          rw [hz] at hx; cases hx
          have hzm := hms z (List.mem_of_getElem? hz)
          have hj : j < ms.length := (List.getElem?_eq_some_iff.mp hz).1
          obtain ⟨zn, rfl⟩ := Int.eq_ofNat_of_zero_le hzm.1
          walk_at "s"
          refine ⟨_, _, 97 + zn, rfl, rfl, small_line (by decide), atI_nat (letter_at (by omega)), _, eD, lt_line (by rw [List.length_map, List.length_map, List.length_take]; omega), ?_, app_same hD sj⟩
          rw [upd_same, List.take_succ, hz, List.map_append, List.map_append]
          rfl
      · rintro H' ⟨eD, sj⟩
        walk_at "s"
        rw [List.length_map, List.take_length] at eD
        refine ⟨Str.empty, D, ms.map fun i => (⟨#[97 + i.toNat]⟩ : Str), rfl, rfl, .inl (SqL.of eD), ?_, ?_⟩
        · have : ∀ l : List Int, ((l.map fun i => (⟨#[97 + i.toNat]⟩ : Str)).map (·.length)).sum = l.length := fun l => by
            induction l with
            | nil => rfl
            | cons z r ih => rw [List.map_cons, List.map_cons, List.sum_cons, ih, List.length_cons]; show 1 + r.length = _; omega
          rw [this, List.length_map]; show ms.length + ms.length * 0 ≤ 16777216; omega
        show _root_.id _
        dsimp only [id]
        walk_at "s"
        have ef6 := sj _ _ (s1 _ _ ef4)
        have hll := lettered_len ms
        refine ⟨.inl ⟨rfl, _, SqL.of ef6⟩, ?_⟩
        walk_at "s"
        have f3 := fmod_in (a := (i : Int)) (b := 3) (by decide)
        refine ⟨le_line (by show (lettered ms).length ≤ 100000; omega), ?_⟩
        walk_at "s"
        refine ⟨le_line (by show (lettered ms).length ≤ 100000; omega), ?_⟩
        walk_at "s"
        refine ⟨f, _, _, rfl, rfl, ef6, lt_line (by unfold namesOf; rw [List.length_map, List.length_map, List.length_range]; omega), ?_⟩
        have es6 := sj _ _ (s1 _ _ es4)
        refine ⟨_, _, _, _, rfl, by rw [upd_ne nsf]; exact es6, ?_, ((T4.same s1).same sj).upd nfa nfc, app_keep (k3.free hf nfa |> fun z => z) ((k4.same s1).same sj)⟩
        rw [upd_same]
        unfold namesOf
        rw [List.range_succ, List.map_append, List.map_append]
        congr 4
        rw [hnm]
        show V.str (cutS (lettered ms) none (some (if ((lettered ms).length : Int) - sh * (0 + (i : Int)).fmod 3 > (pl : Int) + 1 then ((lettered ms).length : Int) - sh * (0 + (i : Int)).fmod 3 else (pl : Int) + 1))) = _
        rw [hll, hml, Int.zero_add, max_if]
    · rintro σ H4 ⟨w3, w8, w9, w10, rfl, es4, ef4, T4, k4⟩
      exact ⟨_, rfl, q f _ H4 (by unfold namesOf; rw [List.length_map, List.length_range]) (fun z hz => by
        obtain ⟨i, hi, rfl⟩ := List.mem_map.mp hz
        exact ⟨nameK_low h8 hin hpl, nameK_pos hin hpl hsh⟩) (namesOf_nodup hin hpl hsh hm) ef4 nfa (k3.free hf nfa) T4 k4⟩
end
/-! ### drawn rows, and their text -/
def GoodRows (rows : List Row) : Prop := (∀ r ∈ rows, RowOk r ∧ r.1 ≤ 1000000) ∧ Rising rows
def spLText (K : PySem.W.Frag) : Sp := fun vs H Q _ => ∃ (p : Addr) (b : Str) (xs : List V) (rows : List Row), vs = [.str b, .ref p] ∧ b.length ≤ 10 ∧ H p = some (.lst xs) ∧ DpAll K H xs (rows.map rowD3) ∧ rows.length ≤ 300 ∧ (∀ r ∈ rows, RowOk r) ∧ ∀ H', Same H H' → Q (.str (bookS b rows)) H'
theorem rising_le {rows : List Row} (h : Rising rows) : ∀ r ∈ rows, r.1 ≤ lastM rows := by
  intro r hr
  rcases snoc_or rows with z | ⟨t, x, rfl⟩
  · rw [z] at hr; simp at hr
  · rw [lastM_snoc]
    rcases List.mem_append.mp hr with hr | hr
    · exact (List.pairwise_append.mp h).2.2 r hr x (by simp)
    · rw [List.mem_singleton.mp hr]; exact Nat.le_refl _
section
variable {P : Program} {w : World} {K : PySem.W.Frag} {mg : Str → Option Value} {base : Heap} (T : Ev K mg)
theorem ok_law_text : FnOk P w K mg base CX0 2 T.f_law_text T.fd_law_text ["_law_side", "_law_rows_here"] (spLText K) := by
  refine T.F_law_text.ok scText (fun vs H Q E h => ?_) (fun cdv A outer s H vs Q E hr h => ?_)
  · obtain ⟨p, b, xs, rows, rfl, _⟩ := h
    rfl
  · obtain ⟨p, b, xs, rows, rfl, hb, hp, hd, hl, hok, q⟩ := h
    refine ⟨_,
      (pss_one (ps_ret (pe_join pe_str (pe_op op_cat (pe_lst (pa_cons (pv 0) pa_nil)) (pe_lc (own := [("_law_when", 2), ("_law_deed", 3), ("_law_who", 4)]) (g := gTup K 3 (gCons (gName 2) (gCons (gName 3) (gCons (gName 4) gNil)))) (tt := tYes) rfl scText.nd (pi_list (pv 1)) (blkOk_by (N := NText) (own := [("_law_when", 2), ("_law_deed", 3), ("_law_who", 4)]) (sc := defScope sText) (by decide +kernel)) (fun _ _ _ _ _ => pg_tup rfl (pgs_cons (pg_name (i := 2) scText.nd rfl (Or.inl rfl)) (pgs_cons (pg_name (i := 3) scText.nd rfl (Or.inl rfl)) (pgs_cons (pg_name (i := 4) scText.nd rfl (Or.inl rfl)) pgs_nil)))) (fun _ _ _ _ _ => pts_nil) (fun _ _ _ _ _ => (pe_op op_add_str (pe_op op_add_str (pe_op op_add_str (pe_op op_add_str (pe_call (ok_law_time T) (hr.mono (by decide)) (by rfl) T.g_law_time T.F_law_time.kp T.b_law_time .nil pass0 (pa_cons (pv 2) pa_nil)) pe_str) (pv 3)) pe_str) (pv 4))))))))
      , ?_⟩
    have hxl := rows_len hd
    walk_at "s"
    intro p1 hp1
    have s1 := same_upd (o := .lst [.str b]) hp1
    have e1 : (upd H p1 (.lst [.str b])) p1 = some (.lst [.str b]) := upd_same
    have hp' := s1 _ _ hp
    have hd' := dps_same s1 _ _ hd
    generalize upd H p1 (.lst [.str b]) = H1 at s1 e1 hp' hd' ⊢
    walk_at "s"
    refine ⟨⟨_, SqL.of hp'⟩, fun D hD => ?_⟩
    refine lc_list (K := K) (a := p) (xs := xs) (fun i H' => H' D = some (.lst (((rows.take i).map rowS).map V.str)) ∧ Same H1 H') ⟨upd_same, same_upd hD⟩ (fun i H' _ z => SqL.of (z.2 _ _ hp')) ?_ ?_
    · rintro i x H' hx ⟨eD, si⟩
      obtain ⟨t, r, rfl, er, ht⟩ := rows_at hd' hx
      have hi : i < xs.length := (List.getElem?_eq_some_iff.mp hx).1
      have ok := hok r (List.mem_of_getElem? er)
      have hsl := show_len (m := r.1) (by have := ok.1; omega)
      have hwl : r.2.1.length ≤ 3 := by rcases ok.2.1 with z | z <;> rw [z] <;> decide
      have hnl := ok.2.2.1.1
      have l1 : (" " : Str).length = 1 := rfl
      refine ⟨t, _, rfl, sqT_same ht si, rfl, ?_⟩
      walk_at "s"
      refine ⟨by have := ok.1; omega, fun H5 s5 => ?_⟩
      refine ⟨_, _, rfl, rfl, small_line (by omega), _, rfl, _, _, rfl, rfl, small_line (by simp only [Str.length_append]; omega), _, _, rfl, rfl, small_line (by simp only [Str.length_append]; omega), _, rfl, _, _, rfl, rfl, small_line (by simp only [Str.length_append]; omega), ?_⟩
      refine ⟨_, s5 _ _ eD, lt_line (by simp; omega), ?_, app_same hD (si.trans s5)⟩
      rw [upd_same, List.take_succ, er]
      simp [rowS, emp]
    · rintro H' ⟨eD, si⟩
      rw [List.take_of_length_le (by omega)] at eD
      refine ⟨p1, D, _, _, rfl, rfl, si _ _ e1, eD, le_line (by simp; omega), fun cp hcp => ?_⟩
      have hsum : (((b :: rows.map rowS)).map fun x => x.length).sum ≤ 500 * 30 + 10 := by
        have h1 := sum_len (k := 30) (l := rows.map rowS) fun z hz => by
          obtain ⟨r, hr, rfl⟩ := List.mem_map.mp hz
          exact rowS_len (hok r hr)
        rw [List.map_cons, List.sum_cons]
        rw [List.length_map] at h1
        omega
      refine ⟨_, cp, b :: rows.map rowS, rfl, rfl, .inl (SqL.of (by rw [upd_same, List.map_cons]; rfl)), by rw [show (Str.ofString "\n").length = 1 from rfl]; simp only [List.length_cons, List.length_map]; omega, ?_⟩
      exact q _ ((s1.trans si).trans (same_upd hcp))
end
def spLRows8 (K : PySem.W.Frag) : Sp := fun vs H Q _ => ∃ (F c p : Addr) (zs : List Str) (m n : Nat), vs = [.ref F, .ref p, .int (m : Int)] ∧ m ≤ 30 ∧ n < 900000 ∧ Tape H F c n ∧ H p = some (.lst (zs.map V.str)) ∧ p ≠ F ∧ 0 < zs.length ∧ zs.length ≤ 26 ∧ (∀ z ∈ zs, LowN 8 z ∧ 1 ≤ z.length) ∧
  ∀ q xs rows H', rows.length = m → GoodRows rows → H' q = some (.lst xs) → DpAll K H' xs (rows.map rowD3) → q ≠ F → H q = none → Tape H' F c (n + 3 + 5 * m) → Keep F H H' → Q (.ref q) H'
/-- a Book written row by row -/
def spLBook (K : PySem.W.Frag) (C : Addr) : Sp := fun vs H Q _ => ∃ (p : Addr) (b : Str) (xs : List V) (rows : List Row), vs = [.str b, .ref p] ∧ H p = some (.lst xs) ∧ DpAll K H xs (rows.map rowD3) ∧ rows.length ≤ 300 ∧ Rising rows ∧
  ∀ x l H', H x = none → H l = none → BookAt K C H' x l b rows → Same H H' → Q (.ref x) H'
section
variable {P : Program} {w : World} {K : PySem.W.Frag} {mg : Str → Option Value} {base : Heap} (T : Ev K mg)
theorem ok_law_rows : FnOk P w K mg base CX0 3 T.f_law_rows T.fd_law_rows ["_law_feed_here", "_law_names_here", "_law_many"] (spLRows8 K) := by
  refine T.F_law_rows.ok scRows (fun vs H Q E h => ?_) (fun cdv A outer s H vs Q E hr h => ?_)
  · obtain ⟨F, c, p, zs, m, n, rfl, _⟩ := h
    rfl
  · obtain ⟨F, c, p, zs, m, n, rfl, hm, hn, hT, hp, npF, z0, z26, hz, q⟩ := h
    refine ⟨_,
      (pss_cut (ps_par (i := 3) (j := 4) rfl scRows.nd rfl rfl (by decide) rfl rfl (pa_cons (pe_call (ok_law_of T) (hr.mono (by decide)) (by rfl) T.g_law_of T.F_law_of.kp T.b_law_of .nil pass0 (pa_cons (pv 0) (pa_cons (pe_lst (pa_cons pe_int (pa_cons (pe_call (ok_law_draw T) (hr.mono (by decide)) (by rfl) T.g_law_draw T.F_law_draw.kp T.b_law_draw .nil pass0 (pa_cons (pv 0) (pa_cons pe_int pa_nil))) (pa_cons (pe_call (ok_law_draw T) (hr.mono (by decide)) (by rfl) T.g_law_draw T.F_law_draw.kp T.b_law_draw .nil pass0 (pa_cons (pv 0) (pa_cons pe_int pa_nil))) pa_nil)))) pa_nil))) (pa_cons (pe_lst pa_nil) pa_nil)) (by rfl))
      (pss_cons (ps_for PassesOwn.never rfl (pi_range1 (by rfl) T.mrange (pa_cons (pv 2) pa_nil)) (pg_name (i := 5) scRows.nd rfl (.inl rfl))
      (pss_cons (ps_set (i := 3) scRows.nd rfl (.inl rfl) (pe_op op_add (pv 3) (pe_call (ok_law_of T) (hr.mono (by decide)) (by rfl) T.g_law_of T.F_law_of.kp T.b_law_of .nil pass0 (pa_cons (pv 0) (pa_cons (pe_lst (pa_cons pe_int (pa_cons pe_int (pa_cons pe_int (pa_cons (pe_call (ok_law_draw T) (hr.mono (by decide)) (by rfl) T.g_law_draw T.F_law_draw.kp T.b_law_draw .nil pass0 (pa_cons (pv 0) (pa_cons pe_int pa_nil))) (pa_cons (pe_call (ok_law_draw T) (hr.mono (by decide)) (by rfl) T.g_law_draw T.F_law_draw.kp T.b_law_draw .nil pass0 (pa_cons (pv 0) (pa_cons pe_int pa_nil))) pa_nil)))))) pa_nil)))))
      (pss_one (ps_expr (pe_bm PySem.F.plainAttrs_list PySem.F.slot_list_append PySem.F.type_list_append mt_append (pv 4) (pa_cons (pe_tup (pa_cons (pv 3) (pa_cons (pe_ix ix_list (pe_lst (pa_cons pe_str (pa_cons pe_str pa_nil))) (pe_call (ok_law_draw T) (hr.mono (by decide)) (by rfl) T.g_law_draw T.F_law_draw.kp T.b_law_draw .nil pass0 (pa_cons (pv 0) (pa_cons pe_int pa_nil))) (fun _ _ => rfl)) (pa_cons (pe_call (ok_law_of T) (hr.mono (by decide)) (by rfl) T.g_law_of T.F_law_of.kp T.b_law_of .nil pass0 (pa_cons (pv 0) (pa_cons (pv 1) pa_nil))) pa_nil)))) pa_nil))))))
      (pss_one (ps_ret (pv 4)))))
      , ?_⟩
    refine ⟨fun σ H' => ∃ (a : Nat) (f : Addr), a ≤ 900000 ∧ σ = [some (.ref F), some (.ref p), some (.int (m : Int)), some (.int (a : Int)), some (.ref f), none] ∧ H' f = some (.lst []) ∧ f ≠ F ∧ f ≠ c ∧ H f = none ∧ Tape H' F c (n + 3) ∧ Keep F H H', ?_, ?_⟩
    · walk_at "s"
      refine dr 1500 hT (by omega) (by omega) (by omega) fun d1 H1 d10 d11 T1 k1 => ?_
      walk_at "s"
      refine dr 900000 T1 (by omega) (by omega) (by omega) fun d2 H2 d20 d21 T2 k2 => ?_
      walk_at "s"
      refine pkn (E := E0) T2 (by show 0 < 3; decide) (by show 3 < 1000000; decide) (by omega) fun x H3 hx T3 k3 => ?_
      obtain ⟨x0, rfl, hx0, hx1⟩ : ∃ x0 : Int, x = .int x0 ∧ 0 ≤ x0 ∧ x0 < 900000 := by
        simp only [List.mem_cons, List.not_mem_nil, or_false] at hx
        rcases hx with rfl | rfl | rfl
        · exact ⟨0, rfl, by omega, by omega⟩
        · exact ⟨d1, rfl, by omega, by omega⟩
        · exact ⟨d2, rfl, by omega, by omega⟩
      obtain ⟨a, rfl⟩ := Int.eq_ofNat_of_zero_le hx0
      walk_at "s"
      intro f hf
      walk_at "s"
      have kk := (k1.trans k2).trans k3
      exact ⟨a, f, by omega, rfl, upd_same, T3.ne hf, T3.nec hf, kk.free hf (T3.ne hf), T3.new hf, kk.new hf⟩
    rintro σ H1 ⟨a, f, ha, rfl, ef, nfF, nfc, hf0, T1, k1⟩
    have T2 := T1
    have k2 := k1
    have ef2 := ef
    walk_at "s"
    refine for_range (lo := 0) (n := m) (fun i σ H' => ∃ (a : Nat) (xs : List V) (rows : List Row) (w5 : Option V), a + 3000 * m ≤ 1000000 + 3000 * i ∧ rows.length = i ∧ GoodRows rows ∧ lastM rows ≤ a ∧ σ = [some (.ref F), some (.ref p), some (.int (m : Int)), some (.int (a : Int)), some (.ref f), w5] ∧ H' f = some (.lst xs) ∧ DpAll K H' xs (rows.map rowD3) ∧ Tape H' F c (n + 3 + 5 * i) ∧ Keep F H H')
      ⟨a, [], [], _, by omega, rfl, ⟨fun r hr => (by simp at hr), List.Pairwise.nil⟩, Nat.zero_le _, rfl, ef2, .nil, T2, k2⟩ ?_ ?_
    · rintro i σ H3 hi ⟨a, xs, rows, w5, ha, hl, hg, hlast, rfl, ef3, hd, T3, k3⟩
      walk_at "s"
      refine dr 90 T3 (by omega) (by omega) (by omega) fun d1 H4 d10 d11 T4 k4 => ?_
      walk_at "s"
      refine dr 3000 T4 (by omega) (by omega) (by omega) fun d2 H5 d20 d21 T5 k5 => ?_
      walk_at "s"
      refine pkn (E := E0) T5 (by show 0 < 5; decide) (by show 5 < 1000000; decide) (by omega) fun x H6 hx T6 k6 => ?_
      obtain ⟨x0, rfl, hx0, hx1⟩ : ∃ x0 : Int, x = .int x0 ∧ 0 ≤ x0 ∧ x0 < 3000 := by
        simp only [List.mem_cons, List.not_mem_nil, or_false] at hx
        rcases hx with rfl | rfl | rfl | rfl | rfl
        · exact ⟨0, rfl, by omega, by omega⟩
        · exact ⟨0, rfl, by omega, by omega⟩
        · exact ⟨1, rfl, by omega, by omega⟩
        · exact ⟨d1, rfl, by omega, by omega⟩
        · exact ⟨d2, rfl, by omega, by omega⟩
      obtain ⟨x1, rfl⟩ := Int.eq_ofNat_of_zero_le hx0
      walk_at "s"
      have kk := (k4.trans k5).trans k6
      have ef6 := kk _ _ nfF ef3
      obtain ⟨yt, eyt⟩ := T3.tape
      have hd6 := dps_keep hd eyt kk (noLs_rows rows)
      have ep6 := (k3.trans kk) _ _ npF hp
      have k36 := k3.trans kk
      refine ⟨.inl ⟨rfl, _, SqL.of ef6⟩, ?_⟩
      walk_at "s"
      intro lo hlo
      walk_at "s"
      have T7 := T6.new (o := .lst [.str "on", .str "off"]) hlo
      refine dr 2 T7 (by omega) (by omega) (by omega) fun d3 H8 d30 d31 T8 k8 => ?_
      have nlo := T6.ne hlo
      have el8 : H8 lo = some (.lst [.str "on", .str "off"]) := k8 _ _ nlo upd_same
      have k38 : Keep F H H8 := (k36.new hlo).trans k8
      have k68 : Keep F H6 H8 := (Keep.refl.new hlo).trans k8
      obtain ⟨yt6, eyt6⟩ := T6.tape
      have hd8 := dps_keep hd6 eyt6 k68 (noLs_rows rows)
      have ef8 := k68 _ _ nfF ef6
      have ep8 := k68 _ _ npF ep6
      obtain ⟨wd, ewd, hwd⟩ : ∃ wd : Str, [V.str "on", V.str "off"][d3.toNat]? = some (.str wd) ∧ (wd = "on" ∨ wd = "off") := by
        have : d3.toNat = 0 ∨ d3.toNat = 1 := by omega
        rcases this with z | z <;> rw [z]
        · exact ⟨"on", rfl, .inl rfl⟩
        · exact ⟨"off", rfl, .inr rfl⟩
      refine i_ixLe d3.toNat (SqL.of el8) (by omega) ewd ?_
      walk_at "s"
      refine pk T8 ep8 npF (by rw [List.length_map]; exact z0) (by rw [List.length_map]; omega) (by omega) fun x H9 hx T9 k9 => ?_
      obtain ⟨nm, hnm, rfl⟩ := List.mem_map.mp hx
      walk_at "s"
      intro t ht
      obtain ⟨yt8, eyt8⟩ := T8.tape
      have hd9 := dps_keep hd8 eyt8 k9 (noLs_rows rows)
      have ef9 := k9 _ _ nfF ef8
      have nft : f ≠ t := fun z => by rw [← z, ef9] at ht; cases ht
      have hxl := rows_len hd
      refine ⟨f, xs, .ref t, rfl, rfl, by rw [upd_ne nft]; exact ef9, lt_line (by omega), ?_⟩
      have k10 : Keep f H9 (upd (upd H9 t (.tup [.int ((a : Int) + (x1 : Int)), .str wd, .str nm])) f (.lst (xs ++ [.ref t]))) := fun z o n e => by rw [upd_ne n, upd_ne (ne_of_none e ht)]; exact e
      have ez : (a : Int) + (x1 : Int) = ((a + x1 : Nat) : Int) := by omega
      refine ⟨a + x1, xs ++ [.ref t], rows ++ [(a + x1, wd, nm)], some (.int (0 + (i : Int))), by omega, by simp [hl], ⟨fun r hr => ?_, ?_⟩, by rw [lastM_snoc]; exact Nat.le_refl _, ?_, upd_same, ?_, ?_, ?_⟩
      · rcases List.mem_append.mp hr with hr | hr
        · exact hg.1 r hr
        · rw [List.mem_singleton.mp hr]
          have hz' := hz nm hnm
          exact ⟨⟨by show a + x1 ≤ _; omega, hwd, hz'.1, hz'.2⟩, by show a + x1 ≤ _; omega⟩
      · refine List.pairwise_append.mpr ⟨hg.2, List.pairwise_singleton _ _, fun u hu v hv => ?_⟩
        rw [List.mem_singleton.mp hv]
        have := rising_le hg.2 u hu
        show u.1 ≤ a + x1
        omega
      · rw [← ez]; rfl
      · rw [List.map_append]
        exact dps_app (dps_keep hd9 ef9 k10 (noLs_rows rows)) (.cons (row_dp (r := (a + x1, wd, nm)) (SqT.of (by rw [upd_ne nft.symm, upd_same]; show _ = some (HO.tup [.int (((a + x1 : Nat)) : Int), _, _]); rw [← ez]))) .nil)
      · exact ((T9.new ht).upd nfF nfc).mono (by omega)
      · intro z o nz e
        rw [upd_ne (ne_of_none e hf0), upd_ne (ne_of_none (k9 _ _ nz (k38 z o nz e)) ht)]
        exact k9 _ _ nz (k38 z o nz e)
    · rintro σ H3 ⟨a, xs, rows, w5, ha, hl, hg, hlast, rfl, ef3, hd, T3, k3⟩
      walk_at "s"
      exact q f xs rows H3 hl hg ef3 hd nfF hf0 T3 k3
theorem ok_law_book : FnOk P w K mg base CX0 3 T.f_law_book T.fd_law_book ["_law_side", "_law_rows_here"] (spLBook K T.CBook) := by
  refine T.F_law_book.ok scBook (fun vs H Q E h => ?_) (fun cdv A outer s H vs Q E hr h => ?_)
  · obtain ⟨p, b, xs, rows, rfl, _⟩ := h
    rfl
  · obtain ⟨p, b, xs, rows, rfl, hp, hd, hl, hri, q⟩ := h
    have hxl := rows_len hd
    refine ⟨_,
      (pss_cons (ps_set (i := 2) scBook.nd rfl (.inl rfl) (pe_make (mk_Book T) (okBook___init__ T) (hr.mono (by decide)) (by rfl) T.gCBook T.bBook___init__ .nil pass0 (pa_cons (pv 0) pa_nil)))
      (pss_cons (ps_for PassesOwn.never rfl (pi_list (pv 1)) (pg_tup rfl (pgs_cons (pg_name (i := 3) scBook.nd rfl (.inl rfl)) (pgs_cons (pg_name (i := 4) scBook.nd rfl (.inl rfl)) (pgs_cons (pg_name (i := 5) scBook.nd rfl (.inl rfl)) pgs_nil))))
      (pss_one (ps_expr (pe_meth (pv 2) (cl_Book T) (mt_Book_write T) (okBook_write T) (hr.mono (by decide)) T.bBook_write .nil pass0 (pa_cons (pv 3) (pa_cons (pv 4) (pa_cons (pv 5) pa_nil)))))))
      (pss_one (ps_ret (pv 2)))))
      , ?_⟩
    walk_at "s"
    intro x dx hx hdx ne
    refine ⟨x, dx, b, rfl, upd_same, fun l H1 hl1 hb1 k1 => ⟨rfl, ?_⟩⟩
    have s1 : Same H H1 := fun y o e => k1 _ _ (ne_of_none e hx) (by rw [upd_ne (ne_of_none e hx), upd_ne (ne_of_none e hdx)]; exact e)
    have hl0 : H l = none := mk_none hl1 hdx
    have npl : p ≠ l := fun z => by rw [z, hl0] at hp; cases hp
    obtain ⟨y1, ey1⟩ := hb1.nep
    walk_at "s"
    refine ⟨⟨_, SqL.of (s1 _ _ hp)⟩, ?_⟩
    refine for_list (K := K) (a := p) (xs := xs) (fun j σ H' => ∃ (w3 w4 w5 : Option V), σ = [some (.str b), some (.ref p), some (.ref x), w3, w4, w5] ∧ BookAt K T.CBook H' x l b (rows.take j) ∧ Keep l H1 H')
      ⟨_, _, _, rfl, hb1, Keep.refl⟩ (fun j σ H' _ ⟨_, _, _, _, _, z⟩ => SqL.of (z _ _ npl (s1 _ _ hp))) ?_ ?_
    · rintro j y σ H8 hy ⟨w3, w4, w5, rfl, hb8, k8⟩
      obtain ⟨t, r, rfl, er, hrt⟩ := rows_at (dps_same s1 _ _ hd) hy
      have hj : j < xs.length := (List.getElem?_eq_some_iff.mp hy).1
      refine i_kw (sqT_keep ey1 hrt k8) rfl ?_
      walk_at "s"
      obtain ⟨dx8, e8⟩ := hb8.ob
      refine ⟨x, dx8, _, rfl, e8, bookF_no b l (by decide) (by decide), ?_⟩
      walk_at "s"
      refine ⟨x, l, b, rows.take j, r.1, r.2.1, r.2.2, rfl, hb8, rising_last hri er, by rw [List.length_take]; omega, fun H9 hb9 k9 _ => ?_⟩
      refine ⟨_, _, _, rfl, ?_, k8.trans k9⟩
      rw [List.take_succ, er]
      exact hb9
    · rintro σ H8 ⟨w3, w4, w5, rfl, hb8, k8⟩
      rw [hxl, List.take_length] at hb8
      walk_at "s"
      exact q x l H8 hx hl0 hb8 fun z o e => k8 _ _ (ne_of_none e hl0) (s1 _ _ e)
end
set_option maxHeartbeats 8000000
local macro_rules | `(tactic| walk_at "c") => `(tactic| first | omega | decide | exact ⟨by omega, by omega⟩ | exact ⟨by decide, by decide⟩ | exact .inl ⟨by omega, by omega⟩ | exact .inr ⟨by omega, by omega⟩ | exact ⟨by omega, by omega, by omega⟩ | exact ⟨by decide, by decide, by decide⟩ | exact le_line (Nat.le_of_ble_eq_true rfl))
local macro_rules | `(tactic| walk_at "a") => `(tactic| with_reducible (first | refine i_seq ?_ | refine i_asg ?_ | refine i_cons ?_ | refine i_c ?_ | refine i_nil ?_ | refine i_op ?_ | refine i_call ?_ | refine i_cb ?_ | refine i_name ?_ | refine i_next ?_ | refine i_ret ?_ | refine i_drop ?_ | refine i_if ?_ | refine i_test ?_ | refine i_and ?_ | refine i_or ?_ | refine i_not ?_ | refine i_ite ?_ | refine i_lst ?_ | refine i_tup ?_ | refine i_bm ?_ | refine i_un ?_ | refine i_par ?_ | refine i_gsub ?_ | refine i_chain ?_ | refine i_sl ?_ | refine i_nopart ?_ | refine i_part ?_ | refine i_m1 ?_ | refine i_m0 ?_ | refine i_lc ?_ | refine i_iList ?_ | refine i_iTup ?_ | refine i_iStr ?_ | refine i_r1 ?_ | refine i_set ?_ | refine i_callk ?_ | refine i_callN ?_ | refine i_ckw ?_ | refine i_revL ?_ | refine i_tB ?_ | refine i_fld ?_ | refine i_sfld ?_ | refine i_make ?_ | refine i_makeN ?_ | refine i_meth ?_ | refine i_andV ?_ | refine i_orV ?_ | refine i_notV ?_ | refine iteT ?_ | refine iteF ?_ | refine i_yes ?_))
local macro_rules | `(tactic| walk_at "s") => `(tactic| repeat (first | walk_at "a" | refine i_var rfl ?_ | refine i_aug rfl ?_ | refine And.intro ⟨_, rfl⟩ ?_ | refine ⟨_, rfl, ?_⟩ | refine ⟨_, _, rfl, rfl, ?_⟩ | refine ⟨_, _, rfl, ?_⟩ | refine ⟨rfl, ?_⟩ | refine And.intro (by walk_at "c") ?_))
/-! ### a row that goes backward; looks at a Book -/
theorem kit_upN {K : PySem.W.Frag} {C : Addr} {T : String} (m : PySem.W.kitMeta T = true) (s : PySem.W.subIn K (.ref C) (.type T) = some false) : PySem.W.kitOne K (.ref C) (.type T) = some false := by
  show (if (Value.ref C == Value.type T) = true then some true else if PySem.W.kitMeta T = true then PySem.W.subIn K (.ref C) (.type T) else none) = some false
  rw [if_neg (by intro z; cases z), if_pos m]
  exact s
def tbDropM (C : Addr) (m : Str) (sp : Sp) (ta : TE) (t : TA) : WX → TS := fun W => tDrop (tMethSd C m sp (fun σ cls d H' => W cls d σ H') ta t)
def spLBack (K : PySem.W.Frag) (C : Addr) : Sp := fun vs H Q _ => ∃ (p l : Addr) (b : Str) (rows : List Row) (m : Nat), vs = [.ref p, .int (m : Int)] ∧ BookAt K C H p l b rows ∧ m < lastM rows ∧
  ∀ t H', Same H H' → H' t = some (.tup [.int (lastM rows : Nat), .bl true, .bl false]) → Q (.ref t) H'
def spLooks (K : PySem.W.Frag) (C : Addr) : Sp := fun vs H Q _ => ∃ (p l q : Addr) (b : Str) (xs : List V) (rows : List Row), vs = [.ref p, .str b, .ref q] ∧ BookAt K C H p l b rows ∧ b.length ≤ 10 ∧ H q = some (.lst xs) ∧ DpAll K H xs (rows.map rowD3) ∧ rows.length ≤ 250 ∧ (∀ r ∈ rows, RowOk r) ∧ ∀ H', Same H H' → Q (.bl true) H'
section
variable {P : Program} {w : World} {K : PySem.W.Frag} {mg : Str → Option Value} {base : Heap} (T : Ev K mg)
theorem xcBackward : ExcC K T.CBackward := ⟨T.gaBackward, T.ggBackward, T.exBackward, T.hdBackward, T.haBackward, T.hnBackward, T.htBackward, T.hmBackward⟩
theorem ok_law_backward : FnOk P w K mg base CX0 6 T.f_law_backward T.fd_law_backward ["_law_book_here", "_law_when"] (spLBack K T.CBook) := by
  refine T.F_law_backward.ok scBackward (fun vs H Q E h => ?_) (fun cdv A outer s H vs Q E hr h => ?_)
  · obtain ⟨p, l, b, rows, m, rfl, _⟩ := h
    rfl
  · obtain ⟨p, l, b, rows, m, rfl, hb, hm, q⟩ := h
    refine ⟨_,
      (pss_cons (ps_set (i := 2) scBackward.nd rfl (.inl rfl) pe_non)
      (pss_cons (ps_try_keep (i := 3) (tb := (tbDropM T.CBook "write" (spBkWriteX K T.CBook T.CBackward) (tVar 0) (tCons (tVar 1) (tCons (tC (.str "on")) (tCons (tC (.str "zz")) tNil))))) (ts := fun _ _ _ => tAsg (tVar 3) (gName 2)) rfl rfl rfl scBackward.nd rfl rfl ⟨rfl, by decide, .inl T.gCBackward⟩
      (fun W pn xe tk _ => pss_imp (pss_one (ps_expr (pe_methSd (pv 0) (cl_Book T) (mt_Book_write T) (okBook_writeX T) (hr.mono (by decide)) T.bBook_write (fun σ => passAt tk σ) (pa_cons (pv 1) (pa_cons pe_str (pa_cons pe_str pa_nil)))))) ?imp)
      (fun a cls d pn => pss_one (ps_set (i := 2) scBackward.nd rfl (Or.inl rfl) (pv 3))))
      (pss_cons (ps_if (pt_cmpR op_isN (pv 2) pe_non (nomark _))
      (pss_one (ps_ret pe_non))
      pss_nil)
      (pss_one (ps_ret (pe_tup (pa_cons (pe_fldX (pv 2) rfl) (pa_cons (pe_callB call_isN (by rfl) T.misinstance (by decide +kernel) (pa_cons (pv 2) (pa_cons (pe_bltn (v := .ty "RuntimeError") (u := .type "RuntimeError") (by rfl) T.mRuntimeError (by decide +kernel) rfl) pa_nil))) (pa_cons (pe_callB call_isN (by rfl) T.misinstance (by decide +kernel) (pa_cons (pv 2) (pa_cons (pe_bltn (v := .ty "ValueError") (u := .type "ValueError") (by rfl) T.mValueError (by decide +kernel) rfl) pa_nil))) pa_nil)))))))))
      , ?main⟩
    case imp => exact fun D σ H h => h
    case main =>
      obtain ⟨dx, e⟩ := hb.ob
      walk_at "s"
      refine ⟨p, dx, _, rfl, e, bookF_no b l (by decide) (by decide), ?_⟩
      walk_at "s"
      refine ⟨p, l, b, rows, m, "on", "zz", rfl, hb, hm, fun d0 H1 s1 ed => ⟨exm_hit T.exBackward T.icBackward T.tyBackward T.seBackward, fun x hne => ?_⟩⟩
      have kp : KeptE (upd H1 x (keptX (.ref T.CBackward) (some d0) x)) x T.CBackward (x1F "minute" (.int (lastM rows : Nat))) := ⟨d0, upd_same, upd_at hne ed⟩
      have s3 := s1.trans (same_upd (o := keptX (.ref T.CBackward) (some d0) x) hne)
      generalize upd H1 x (keptX (.ref T.CBackward) (some d0) x) = H2 at kp s3 ⊢
      have xf : XfC K T.CBackward := ⟨T.gaBackward, T.ggBackward, T.exBackward, T.hdBackward⟩
      walk_at "s"
      refine ⟨x, T.CBackward, _, .int (lastM rows : Nat), rfl, xf, T.nBackward_minute, kp, rfl, ?_⟩
      walk_at "s"
      refine .inl (.inr ⟨x, T.CBackward, _, .ty "RuntimeError", .type "RuntimeError", true, rfl, kp, xcBackward T, .ty _, kit_up (by decide +kernel) T.upBackward, ?_⟩)
      walk_at "s"
      refine .inl (.inr ⟨x, T.CBackward, _, .ty "ValueError", .type "ValueError", false, rfl, kp, xcBackward T, .ty _, kit_upN (by decide +kernel) T.snBackward_ValueError, ?_⟩)
      walk_at "s"
      intro t ht
      exact q t _ (s3.trans (same_upd ht)) upd_same
theorem ok_law_looks : FnOkG P w K mg base CX0 6 T.f_law_looks T.fd_law_looks ["_law_book_here", "_law_side", "_law_rows_here"] (spLooks K T.CBook) := by
  refine okG T.F_law_looks scLooks (fun vs H Q E h => ?_) (fun cdv A outer s H vs Q E gd hr h => ?_)
  · obtain ⟨p, l, q, b, xs, rows, rfl, _⟩ := h
    rfl
  · obtain ⟨p, l, q0, b, xs, rows, rfl, hb, hb10, hq, hd, hl, hok, q⟩ := h
    refine ⟨_,
      (pss_cut (ps_set (i := 3) scLooks.nd rfl (.inl rfl) (pe_meth0 (pv 0) (cl_Book T) (mt_Book_rows T) (okBook_rows T) (hr.mono (by decide)) T.bBook_rows .nil pass0))
      (pss_cut (ps_if (PW.pt (pw_or (pt_cmpR op_ne (pe_callB (call_reprD gd hr) (by rfl) T.mrepr (by decide +kernel) (pa_cons (pv 3) pa_nil)) (pe_callB (call_reprD gd hr) (by rfl) T.mrepr (by decide +kernel) (pa_cons (pv 2) pa_nil)) (nomark _)) (pw_or (pt_cmpR op_ne (pe_callB (call_lenOwn (mt_Book___len__ T).at_ (mt_Book___len__ T).fn (okBook___len__ T) T.bBook___len__ (hr.mono (by decide)) pass0) (by rfl) T.mlen PySem.boot_len (pa_cons (pv 0) pa_nil)) (pe_callB call_len_seq (by rfl) T.mlen PySem.boot_len (pa_cons (pv 2) pa_nil)) (nomark _)) (pw_or (pt_cmpR op_ne (pe_fld (pv 0) rfl) (pv 1) (nomark _)) (pw_or1 (pt_cmpR op_ne (pe_callTy (call_strOwn (mt_Book___str__ T).at_ (mt_Book___str__ T).fn (okBook___str__ T) T.bBook___str__ (hr.mono (by decide)) pass0) (by rfl) T.mstr (by decide +kernel) (pa_cons (pv 0) pa_nil)) (pe_call (ok_law_text T) (hr.mono (by decide)) (by rfl) T.g_law_text T.F_law_text.kp T.b_law_text .nil pass0 (pa_cons (pv 1) (pa_cons (pv 2) pa_nil))) (nomark _)))))))
      (pss_one (ps_ret pe_bl))
      pss_nil)
      (pss_cut (ps_expr (pe_bm PySem.F.plainAttrs_list PySem.F.slot_list_append PySem.F.type_list_append mt_append (pv 3) (pa_cons (pe_tup (pa_cons pe_int (pa_cons pe_str (pa_cons pe_str pa_nil)))) pa_nil)))
      (pss_cut (ps_expr (pe_bm0 PySem.F.plainAttrs_list PySem.F.slot_list_reverse PySem.F.type_list_reverse mt_reverse (pv 3)))
      (pss_cons (ps_if (PW.pt (pw_or (pt_cmpR op_ne (pe_notO T.blBook (mt_Book___len__ T).at_ (mt_Book___len__ T).fn (okBook___len__ T) T.bBook___len__ (hr.mono (by decide)) pass0 (pv 0)) (pe_cmpR (op_eqD hr.units) (pv 2) (pe_lst pa_nil) (nomark _)) (nomark _)) (pw_or (pt_cmpR op_ne (pe_callTy (call_boolOwn T.blBook (mt_Book___len__ T).at_ (mt_Book___len__ T).fn (okBook___len__ T) T.bBook___len__ (hr.mono (by decide)) pass0) (by rfl) T.mbool (by decide +kernel) (pa_cons (pv 0) pa_nil)) (pe_cmpR (op_neD hr.units) (pv 2) (pe_lst pa_nil) (nomark _)) (nomark _)) (pw_or1 (pt_cmpR op_ne (pe_joined1 (pe_fmtO (pv 0) T.fmBook T.hmBook (mt_Book___str__ T).at_ (mt_Book___str__ T).fn (okBook___str__ T) T.bBook___str__ (hr.mono (by decide)) pass0)) (pe_call (ok_law_text T) (hr.mono (by decide)) (by rfl) T.g_law_text T.F_law_text.kp T.b_law_text .nil pass0 (pa_cons (pv 1) (pa_cons (pv 2) pa_nil))) (nomark _))))))
      (pss_one (ps_ret pe_bl))
      pss_nil)
      (pss_one (ps_ret (pe_cmpR op_eq (pe_callB (call_reprD gd hr) (by rfl) T.mrepr (by decide +kernel) (pa_cons (pe_meth0 (pv 0) (cl_Book T) (mt_Book_rows T) (okBook_rows T) (hr.mono (by decide)) T.bBook_rows .nil pass0) pa_nil)) (pe_callB (call_reprD gd hr) (by rfl) T.mrepr (by decide +kernel) (pa_cons (pv 2) pa_nil)) (nomark _)))))))))
      , ?_⟩
    obtain ⟨dx, e⟩ := hb.ob
    have hxl := rows_len hd
    have ow := okd_rows hok (show rows.length ≤ 300 by omega)
    refine ⟨fun σ H' => ∃ (t1 : Addr) (zs : List V), σ = [some (.ref p), some (.str b), some (.ref q0), some (.ref t1)] ∧ H' t1 = some (.lst zs) ∧ H t1 = none ∧ DpAll K H' zs (rows.map rowD3) ∧ Same H H', ?_, ?_⟩
    · walk_at "s"
      refine ⟨p, dx, _, rfl, e, bookF_no b l (by decide) (by decide), ?_⟩
      walk_at "s"
      refine ⟨p, l, b, rows, rfl, hb, fun t1 zs H1 s1 ht1 et1 dt1 => ?_⟩
      walk_at "s"
      exact ⟨t1, zs, rfl, et1, ht1, dt1, s1⟩
    rintro σ H1 ⟨t1, zs, rfl, et1, ht1, dt1, s1⟩
    have hb1 := hb.same s1
    have hq1 := s1 _ _ hq
    have hd1 := dps_same s1 _ _ hd
    obtain ⟨dx1, e1⟩ := hb1.ob
    refine ⟨fun σ H' => σ = [some (.ref p), some (.str b), some (.ref q0), some (.ref t1)] ∧ Same H1 H', ?_, ?_⟩
    · walk_at "s"
      refine ow.rep (.lst (SqL.of et1) dt1) ?_
      walk_at "s"
      refine ow.rep (.lst (SqL.of hq1) hd1) ?_
      walk_at "s"
      rw [ne_self]
      refine iteF ?_
      walk_at "s"
      refine ⟨p, dx1, _, rfl, e1, p, l, b, rows, rfl, hb1, ?_⟩
      refine ⟨_, rfl, by omega, by omega, ?_⟩
      walk_at "s"
      refine ⟨q0, _, rfl, .inl (SqL.of hq1), ?_⟩
      rw [hxl]
      walk_at "s"
      rw [ne_self]
      refine iteF ?_
      walk_at "s"
      refine ⟨p, T.CBook, dx1, _, _, rfl, e1, cl_Book T, T.nBook_bank, bookF_bank b l, ?_⟩
      walk_at "s"
      rw [ne_self]
      refine iteF ?_
      walk_at "s"
      refine ⟨p, dx1, _, rfl, e1, p, l, b, rows, rfl, hb1, hb10, by omega, hok, fun H2 s2 => ?_⟩
      refine ⟨_, rfl, ?_⟩
      walk_at "s"
      refine ⟨q0, b, xs, rows, rfl, hb10, s2 _ _ hq1, dps_same s2 _ _ hd1, by omega, hok, fun H3 s3 => ?_⟩
      walk_at "s"
      rw [ne_self]
      refine iteF ?_
      walk_at "s"
      exact s2.trans s3
    rintro σ H2 ⟨rfl, s2⟩
    have et2 := s2 _ _ et1
    have k02 := (s1.trans s2)
    refine ⟨fun σ H' => σ = [some (.ref p), some (.str b), some (.ref q0), some (.ref t1)] ∧ (∃ zs, H' t1 = some (.lst zs)) ∧ Same H H', ?_, ?_⟩
    · walk_at "s"
      refine ⟨.inl ⟨rfl, _, SqL.of et2⟩, ?_⟩
      walk_at "s"
      intro t ht
      have nt : t1 ≠ t := fun z => by rw [← z, et2] at ht; cases ht
      walk_at "s"
      have := rows_len dt1
      exact ⟨t1, zs, .ref t, rfl, rfl, by rw [upd_ne nt]; exact et2, lt_line (by omega), rfl, ⟨_, upd_same⟩, fun z o ez => by rw [upd_ne (ne_of_none ez ht1), upd_ne (ne_of_none (k02 _ _ ez) ht)]; exact k02 _ _ ez⟩
    rintro σ H3 ⟨rfl, ⟨zs3, et3⟩, s3⟩
    refine ⟨fun σ H' => σ = [some (.ref p), some (.str b), some (.ref q0), some (.ref t1)] ∧ Same H H', ?_, ?_⟩
    · walk_at "s"
      refine ⟨.inl ⟨rfl, _, SqL.of et3⟩, ?_⟩
      exact ⟨t1, zs3, rfl, rfl, et3, rfl, fun z o ez => by rw [upd_ne (ne_of_none ez ht1)]; exact s3 _ _ ez⟩
    rintro σ H4 ⟨rfl, s4⟩
    have hb4 := hb.same s4
    obtain ⟨dx4, e4⟩ := hb4.ob
    have hq4 := s4 _ _ hq
    have hd4 := dps_same s4 _ _ hd
    have em : ∀ H', Same H4 H' → ∀ z, H' z = none → ∀ Q : VK, Q (.bl rows.isEmpty) (upd H' z (.lst [])) → rEqD K (.ref q0) (.ref z) (upd H' z (.lst [])) Q := fun H' s' z hz Q hQ => by
      refine ⟨_, .list [], .lst (SqL.of (upd_at hz (s' _ _ hq4))) (dps_same (s'.trans (same_upd (o := .lst []) hz)) _ _ hd4), .lst (SqL.of upd_same) .nil, ow.shaped, ke_shaped_ints [], ?_⟩
      have : PyData.eqv (.list (rows.map rowD3)) (.list []) = rows.isEmpty := by cases rows <;> rfl
      rw [this]
      exact hQ
    walk_at "s"
    refine ⟨p, dx4, _, rfl, e4, p, l, b, rows, rfl, hb4, ?_⟩
    refine ⟨_, rfl, by omega, by omega, _, rfl, ?_⟩
    walk_at "s"
    intro z hz
    refine em H4 same_refl z hz _ ?_
    have u5 := s4.trans (same_upd (o := .lst []) hz)
    generalize upd H4 z (.lst []) = H5 at u5 ⊢
    have hb5 := hb.same u5
    obtain ⟨dx5, e5⟩ := hb5.ob
    have hemp : (!(((rows.length : Nat) : Int) != 0)) = rows.isEmpty := by cases rows <;> rfl
    have hemp2 : (((rows.length : Nat) : Int) != 0) = !rows.isEmpty := by rw [← hemp, Bool.not_not]
    walk_at "s"
    rw [hemp, ne_self]
    refine iteF ?_
    walk_at "s"
    refine ⟨p, dx5, _, rfl, e5, p, l, b, rows, rfl, hb5, ?_⟩
    refine ⟨_, rfl, by omega, by omega, ?_⟩
    rw [hemp2]
    walk_at "s"
    intro z2 hz2
    have u6 := u5.trans (same_upd (o := .lst []) hz2)
    refine ⟨_, .list [], .lst (SqL.of (u6 _ _ hq)) (dps_same u6 _ _ hd), .lst (SqL.of upd_same) .nil, ow.shaped, ke_shaped_ints [], ?_⟩
    rw [show PyData.eqv (.list (rows.map rowD3)) (.list []) = rows.isEmpty by cases rows <;> rfl]
    generalize upd H5 z2 (.lst []) = H6 at u6 ⊢
    have hb6 := hb.same u6
    obtain ⟨dx6, e6⟩ := hb6.ob
    walk_at "s"
    rw [ne_self]
    refine iteF ?_
    walk_at "s"
    refine ⟨p, dx6, _, rfl, e6, p, l, b, rows, rfl, hb6, hb10, by omega, hok, fun H7 s7 => ?_⟩
    refine ⟨_, rfl, ?_⟩
    walk_at "s"
    have u7 := u6.trans s7
    refine ⟨q0, b, xs, rows, rfl, hb10, u7 _ _ hq, dps_same u7 _ _ hd, by omega, hok, fun H8 s8 => ?_⟩
    have u8 := u7.trans s8
    walk_at "s"
    rw [ne_self]
    refine iteF ?_
    have hb8 := hb.same u8
    obtain ⟨dx8, e8⟩ := hb8.ob
    walk_at "s"
    refine ⟨p, dx8, _, rfl, e8, bookF_no b l (by decide) (by decide), ?_⟩
    walk_at "s"
    refine ⟨p, l, b, rows, rfl, hb8, fun r1 ys H9 s9 hr1 er1 dr1 => ?_⟩
    walk_at "s"
    refine ow.rep (.lst (SqL.of er1) dr1) ?_
    walk_at "s"
    have u9 := u8.trans s9
    refine ow.rep (.lst (SqL.of (u9 _ _ hq)) (dps_same u9 _ _ hd)) ?_
    walk_at "s"
    rw [decide_eq_true rfl]
    exact q _ u9
end
set_option maxHeartbeats 8000000
local macro_rules | `(tactic| walk_at "c") => `(tactic| first | omega | decide | exact ⟨by omega, by omega⟩ | exact ⟨by decide, by decide⟩ | exact .inl ⟨by omega, by omega⟩ | exact .inr ⟨by omega, by omega⟩ | exact ⟨by omega, by omega, by omega⟩ | exact ⟨by decide, by decide, by decide⟩ | exact le_line (Nat.le_of_ble_eq_true rfl))
local macro_rules | `(tactic| walk_at "a") => `(tactic| with_reducible (first | refine i_seq ?_ | refine i_asg ?_ | refine i_cons ?_ | refine i_c ?_ | refine i_nil ?_ | refine i_op ?_ | refine i_call ?_ | refine i_cb ?_ | refine i_name ?_ | refine i_next ?_ | refine i_ret ?_ | refine i_drop ?_ | refine i_if ?_ | refine i_test ?_ | refine i_and ?_ | refine i_or ?_ | refine i_not ?_ | refine i_ite ?_ | refine i_lst ?_ | refine i_tup ?_ | refine i_bm ?_ | refine i_un ?_ | refine i_par ?_ | refine i_gsub ?_ | refine i_chain ?_ | refine i_sl ?_ | refine i_nopart ?_ | refine i_part ?_ | refine i_m1 ?_ | refine i_m0 ?_ | refine i_lc ?_ | refine i_iList ?_ | refine i_iTup ?_ | refine i_iStr ?_ | refine i_r1 ?_ | refine i_set ?_ | refine i_callk ?_ | refine i_callN ?_ | refine i_ckw ?_ | refine i_revL ?_ | refine i_tB ?_ | refine i_fld ?_ | refine i_sfld ?_ | refine i_make ?_ | refine i_makeN ?_ | refine i_meth ?_ | refine i_andV ?_ | refine i_orV ?_ | refine i_notV ?_ | refine iteT ?_ | refine iteF ?_ | refine i_yes ?_))
local macro_rules | `(tactic| walk_at "s") => `(tactic| repeat (first | walk_at "a" | refine i_var rfl ?_ | refine i_aug rfl ?_ | refine And.intro ⟨_, rfl⟩ ?_ | refine ⟨_, rfl, ?_⟩ | refine ⟨_, _, rfl, rfl, ?_⟩ | refine ⟨_, _, rfl, ?_⟩ | refine ⟨rfl, ?_⟩ | refine And.intro (by walk_at "c") ?_))
/-! ### other Books -/
abbrev It8 := Str × List Row × Bool
structure Oth (K : PySem.W.Frag) (C F p0 op : Addr) (H : Hp) (v : V) (it : It8) : Prop where
  ex : ∃ t x l, v = .ref t ∧ H t = some (.tup [.ref x, .bl it.2.2]) ∧ BookAt K C H x l it.1 it.2.1 ∧ l ≠ F ∧ l ≠ op ∧ x ≠ p0
def OthAll (K : PySem.W.Frag) (C F p0 op : Addr) (H : Hp) (xs : List V) (its : List It8) : Prop := xs.length = its.length ∧ ∀ (i : Nat) (v : V) (it : It8), xs[i]? = some v → its[i]? = some it → Oth K C F p0 op H v it
def Good8 (b : Str) (rows : List Row) (it : It8) : Prop := it.1.length ≤ 10 ∧ (∀ r ∈ it.2.1, RowOk r) ∧ it.2.1.length ≤ 300 ∧ it.2.2 = (decide (b = it.1) && decide (rows = it.2.1))
section
variable {K : PySem.W.Frag} {C F p0 op : Addr}
theorem Oth.same {H H' : Hp} {v : V} {it : It8} (h : Oth K C F p0 op H v it) (s : Same H H') : Oth K C F p0 op H' v it := by
  obtain ⟨t, x, l, e, e1, hb, n1, n2, n3⟩ := h.ex
  exact ⟨t, x, l, e, s _ _ e1, hb.same s, n1, n2, n3⟩
theorem OthAll.same {H H' : Hp} {xs : List V} {its : List It8} (h : OthAll K C F p0 op H xs its) (s : Same H H') : OthAll K C F p0 op H' xs its := ⟨h.1, fun i v it a b => (h.2 i v it a b).same s⟩
theorem OthAll.keepF {H H' : Hp} {xs : List V} {its : List It8} {ys : List V} (h : OthAll K C F p0 op H xs its) (hF : H F = some (.lst ys)) (k : Keep F H H') : OthAll K C F p0 op H' xs its := ⟨h.1, fun i v it a b => by
  obtain ⟨t, x, l, e, e1, hb, n1, n2, n3⟩ := (h.2 i v it a b).ex
  exact ⟨t, x, l, e, k _ _ (ne_of e1 hF (by intro z; cases z)) e1, hb.keep hF n1 k, n1, n2, n3⟩⟩
theorem OthAll.app {H H' : Hp} {xs zs : List V} {its : List It8} {t x l : Addr} {it : It8} (h : OthAll K C F p0 op H xs its) (e : H op = some (.lst zs)) (et : H t = some (.tup [.ref x, .bl it.2.2])) (hb : BookAt K C H x l it.1 it.2.1) (n1 : l ≠ F) (n2 : l ≠ op) (n3 : x ≠ p0) (k : Keep op H H') :
    OthAll K C F p0 op H' (xs ++ [.ref t]) (its ++ [it]) := by
  refine ⟨by simp [h.1], fun i v it' a b => ?_⟩
  have up : Oth K C F p0 op H v it' → Oth K C F p0 op H' v it' := fun z => by
    obtain ⟨t, x, l, e0, e1, hb, n1, n2, n3⟩ := z.ex
    exact ⟨t, x, l, e0, k _ _ (ne_of e1 e (by intro z; cases z)) e1, hb.keep e n2 k, n1, n2, n3⟩
  by_cases c : i < xs.length
  · rw [List.getElem?_append_left c] at a
    rw [List.getElem?_append_left (by rw [← h.1]; exact c)] at b
    exact up (h.2 i v it' a b)
  · rw [List.getElem?_append_right (by omega)] at a
    rw [List.getElem?_append_right (by rw [← h.1]; omega)] at b
    rw [← h.1] at b
    by_cases c2 : i - xs.length = 0
    · rw [c2] at a b
      cases a
      cases b
      exact up ⟨t, x, l, rfl, et, hb, n1, n2, n3⟩
    · have : (i - xs.length) = (i - xs.length - 1) + 1 := by omega
      rw [this] at a
      cases a
end
/-- what is known between two stores -/
structure OS (K : PySem.W.Frag) (C F c p0 op : Addr) (n : Nat) (b : Str) (rows : List Row) (H0 H : Hp) (its : List It8) : Prop where
  ls : ∃ xs, H op = some (.lst xs) ∧ OthAll K C F p0 op H xs its
  good : ∀ it ∈ its, Good8 b rows it
  fst : its[0]? = some (b, rows, true)
  tape : Tape H F c n
  keep : Keep F H0 H
  fresh : H0 op = none
  at0 : ∃ C' dx fs, H p0 = some (.ins C' dx fs)
section
variable {K : PySem.W.Frag} {C F c p0 op : Addr} {n : Nat} {b : Str} {rows : List Row} {H0 H : Hp} {its : List It8}
theorem OS.same {H' : Hp} (h : OS K C F c p0 op n b rows H0 H its) (s : Same H H') : OS K C F c p0 op n b rows H0 H' its := by
  obtain ⟨xs, e, h1⟩ := h.ls
  exact ⟨⟨xs, s _ _ e, h1.same s⟩, h.good, h.fst, h.tape.same s, fun x o nx ex => s _ _ (h.keep x o nx ex), h.fresh, let ⟨a, b, c, e⟩ := h.at0; ⟨a, b, c, s _ _ e⟩⟩
theorem OS.len (h : OS K C F c p0 op n b rows H0 H its) {xs : List V} (e : H op = some (.lst xs)) : xs.length = its.length := by
  obtain ⟨ys, e1, h1⟩ := h.ls
  rw [e] at e1
  cases e1
  exact h1.1
theorem OS.app {t x l : Addr} {it : It8} {xs : List V} (h : OS K C F c p0 op n b rows H0 H its) (e : H op = some (.lst xs)) (et : H t = some (.tup [.ref x, .bl it.2.2])) (hb : BookAt K C H x l it.1 it.2.1) (n1 : l ≠ F) (n2 : l ≠ op) (n3 : x ≠ p0) (nF : op ≠ F) (nc : op ≠ c) (g : Good8 b rows it) :
    OS K C F c p0 op n b rows H0 (upd H op (.lst (xs ++ [.ref t]))) (its ++ [it]) := by
  obtain ⟨ys, e1, h1⟩ := h.ls
  rw [e] at e1
  cases e1
  have k : Keep op H (upd H op (.lst (xs ++ [.ref t]))) := fun z o nz ez => by rw [upd_ne nz]; exact ez
  refine ⟨⟨_, upd_same, h1.app e et hb n1 n2 n3 k⟩, fun i hi => ?_, ?_, h.tape.upd nF nc, fun z o nz ez => ?_, h.fresh, let ⟨a, b, c, ea⟩ := h.at0; ⟨a, b, c, k _ _ (ne_of ea e (by intro z; cases z)) ea⟩⟩
  · rcases List.mem_append.mp hi with hi | hi
    · exact h.good i hi
    · rw [List.mem_singleton.mp hi]; exact g
  · rw [List.getElem?_append_left (List.getElem?_eq_some_iff.mp h.fst).1]; exact h.fst
  · rw [upd_ne (ne_of_none ez h.fresh)]; exact h.keep z o nz ez
end
theorem dps_take {K : PySem.W.Frag} {H : Hp} : ∀ (n : Nat) {vs : List V} {ds : List PyData}, DpAll K H vs ds → DpAll K H (vs.take n) (ds.take n)
  | 0, _, _, _ => .nil
  | n + 1, _, _, .nil => .nil
  | n + 1, _, _, .cons a r => .cons a (dps_take n r)
theorem dps_drop {K : PySem.W.Frag} {H : Hp} : ∀ (n : Nat) {vs : List V} {ds : List PyData}, DpAll K H vs ds → DpAll K H (vs.drop n) (ds.drop n)
  | 0, _, _, h => h
  | n + 1, _, _, .nil => .nil
  | n + 1, _, _, .cons _ r => dps_drop n r
theorem rows_take {K : PySem.W.Frag} {H : Hp} {xs : List V} {rows : List Row} (h : DpAll K H xs (rows.map rowD3)) (n : Nat) : DpAll K H (xs.take n) ((rows.take n).map rowD3) := by rw [List.map_take]; exact dps_take n h
theorem rows_drop {K : PySem.W.Frag} {H : Hp} {xs : List V} {rows : List Row} (h : DpAll K H xs (rows.map rowD3)) (n : Nat) : DpAll K H (xs.drop n) ((rows.drop n).map rowD3) := by rw [List.map_drop]; exact dps_drop n h
theorem rows_app {K : PySem.W.Frag} {H : Hp} {xs ys : List V} {r1 r2 : List Row} (h : DpAll K H xs (r1.map rowD3)) (g : DpAll K H ys (r2.map rowD3)) : DpAll K H (xs ++ ys) ((r1 ++ r2).map rowD3) := by rw [List.map_append]; exact dps_app h g
/-- others.append((_law_book(side, ..), False)) -/
theorem put_bk {K : PySem.W.Frag} {C F c p0 op : Addr} {n : Nat} {b : Str} {rows rows' : List Row} {H0 H : Hp} {its : List It8} {σ : L2.St} {tl : TE} {D : Ends} (h3 : σ[3]? = some (some (.ref op))) (h1 : σ[1]? = some (some (.str b))) (os : OS K C F c p0 op n b rows H0 H its) (nF : op ≠ F) (nc : op ≠ c)
    (g : Good8 b rows (b, rows', false)) (ri : Rising rows') (ll : its.length ≤ 99) (hl : ∀ Q' : VK, (∀ lp ys H1, Same H H1 → H1 lp = some (.lst ys) → DpAll K H1 ys (rows'.map rowD3) → Q' (.ref lp) H1) → tl σ H Q')
    (fin : ∀ H', OS K C F c p0 op n b rows H0 H' (its ++ [(b, rows', false)]) → D.nx σ H') :
    tDrop (tBM K "list" rAppend (tVar 3) (tCons (tTup (tCons (tCall (spLBook K C) [] E0 (tCons (tVar 1) (tCons tl tNil))) (tCons (tC (.bl false)) tNil))) tNil)) D σ H := by
  obtain ⟨xs, eo, ho⟩ := os.ls
  refine i_drop (i_bm (i_var h3 ?_))
  refine ⟨.inl ⟨rfl, _, SqL.of eo⟩, ?_⟩
  refine i_cons (i_tup (i_cons (i_call (i_cons (i_var h1 (i_cons (hl _ fun lp ys H1 s1 elp dlp => i_nil ?_)))))))
  refine ⟨lp, b, ys, rows', rfl, elp, dlp, g.2.2.1, ri, fun x l H2 hx hl2 hb s2 => ?_⟩
  refine i_cons (i_c (i_nil ⟨le_line (by show 2 ≤ _; decide), fun t ht => ?_⟩))
  have os2 := os.same (s1.trans s2)
  have eo2 := s2 _ _ (s1 _ _ eo)
  obtain ⟨yt, eyt⟩ := os.tape.tape
  have n1 : l ≠ F := fun z => by rw [z, s1 _ _ eyt] at hl2; cases hl2
  have n2 : l ≠ op := fun z => by rw [z, s1 _ _ eo] at hl2; cases hl2
  have n3 : x ≠ p0 := fun z => by obtain ⟨a, b, c, e⟩ := os.at0; rw [z, s1 _ _ e] at hx; cases hx
  have st := same_upd (o := .tup [.ref x, .bl false]) ht
  have os3 := os2.same st
  have eo3 := st _ _ eo2
  refine i_nil ⟨op, xs, .ref t, rfl, rfl, eo3, lt_line (by have := ho.1; omega), ?_⟩
  exact fin _ (os3.app eo3 upd_same (hb.same st) n1 n2 n3 nF nc g)
theorem last_max {rows : List Row} (h : Rising rows) {m : Int} (hm : m ∈ rows.map (fun r => (r.1 : Int)) ++ [0]) (hmx : ∀ y, y ∈ rows.map (fun r => (r.1 : Int)) ++ [0] → y ≤ m) : m = (lastM rows : Nat) := by
  have h0 := hmx 0 (by simp)
  rcases snoc_or rows with z0 | ⟨t, r, z0⟩
  · rw [z0] at hm ⊢
    simpa [lastM] using hm
  · have h1 := hmx (r.1 : Int) (by rw [z0]; simp)
    rw [z0, lastM_snoc]
    rcases List.mem_append.mp hm with hm | hm
    · obtain ⟨u, hu, rfl⟩ := List.mem_map.mp hm
      have := rising_le h u hu
      rw [z0, lastM_snoc] at this
      omega
    · rw [List.mem_singleton.mp hm] at h1 ⊢
      omega
theorem last_le {rows : List Row} (hg : GoodRows rows) : lastM rows ≤ 1000000 := by
  rcases snoc_or rows with z0 | ⟨t, r, z0⟩
  · rw [z0]; exact Nat.zero_le _
  · rw [z0, lastM_snoc]; exact (hg.1 r (by rw [z0]; simp)).2
theorem lowa : LowN 8 ("a" : Str) ∧ 1 ≤ ("a" : Str).length := ⟨⟨by decide, by decide +kernel⟩, by decide⟩
theorem rising_swap {l m : List Row} {r r' : Row} (h : Rising (l ++ (r :: m))) (e : r'.1 = r.1) : Rising (l ++ (r' :: m)) := by
  have h1 := List.pairwise_append.mp h
  have h2 := List.pairwise_cons.mp h1.2.1
  refine List.pairwise_append.mpr ⟨h1.1, List.pairwise_cons.mpr ⟨fun u hu => by rw [e]; exact h2.1 u hu, h2.2⟩, fun u hu v hv => ?_⟩
  rcases List.mem_cons.mp hv with rfl | hv
  · rw [e]; exact h1.2.2 u hu r (by simp)
  · exact h1.2.2 u hu v (List.mem_cons_of_mem _ hv)
theorem rising_out {l m : List Row} {r : Row} (h : Rising (l ++ (r :: m))) : Rising (l ++ m) := by
  have h1 := List.pairwise_append.mp h
  exact List.pairwise_append.mpr ⟨h1.1, (List.pairwise_cons.mp h1.2.1).2, fun u hu v hv => h1.2.2 u hu v (List.mem_cons_of_mem _ hv)⟩
theorem sIx_m1 (n d : Nat) : HT.sIx n d (some (-1)) = n - 1 := by
  show (if (-1 : Int) < 0 then ((-1 : Int) + (n : Int)).toNat else min (-1 : Int).toNat n) = n - 1
  rw [if_pos (by decide)]
  omega
theorem name_bent {z : Str} (h : LowN 8 z) (h1 : 1 ≤ z.length) : ∃ nm : Str, nm = cutS z none (some (-1)) ++ (⟨#[if decide (V.str (cutS z (some (-1)) none) = V.str "a") = true then 122 else 97]⟩ : Str) ∧ LowN 8 nm ∧ 1 ≤ nm.length ∧ ¬ nm = z := by
  refine ⟨_, rfl, ?_⟩
  generalize hc : (if decide (V.str (cutS z (some (-1)) none) = V.str "a") = true then 122 else 97 : Nat) = ch
  have hch : ch = 122 ∨ ch = 97 := by rw [← hc]; split <;> simp
  have et : tl (cutS z none (some (-1))) = (tl z).take (z.length - 1) := by
    rw [tl_cut, HT.sIx_none, sIx_m1, List.drop_zero, Nat.sub_zero]
  have el : tl (cutS z (some (-1)) none) = (tl z).drop (z.length - 1) := by
    rw [tl_cut, HT.sIx_none, sIx_m1, List.take_of_length_le (by rw [List.length_drop, ← TL.len_tl]; omega)]
  have e2 : tl (⟨#[ch]⟩ : Str) = [ch] := rfl
  have len : (cutS z none (some (-1)) ++ (⟨#[ch]⟩ : Str)).length = z.length := by
    rw [TL.len_tl, tl_app, List.length_append, et, e2, List.length_take, ← TL.len_tl, List.length_singleton]
    omega
  refine ⟨⟨by rw [len]; exact h.1, fun c hm => ?_⟩, by rw [len]; exact h1, fun e => ?_⟩
  · rw [tl_app, et, e2] at hm
    rcases List.mem_append.mp hm with hm | hm
    · exact h.2 c (List.mem_of_mem_take hm)
    · rw [List.mem_singleton.mp hm]; omega
  · have e3 := congrArg tl e
    rw [tl_app, et, e2] at e3
    have e4 : (tl z).drop (z.length - 1) = [ch] := by
      rw [← e3, List.drop_left' (by rw [List.length_take, ← TL.len_tl]; omega)]
    have e5 : cutS z (some (-1)) none = (⟨#[ch]⟩ : Str) := ext_tl (by rw [el, e4])
    rw [e5] at hc
    rcases hch with rfl | rfl
    · revert hc; decide
    · revert hc; decide
theorem cut_last {ys : List V} {z : V} : cutV (ys ++ [z]) none (some (-1)) = ys := by
  unfold cutV
  rw [HT.sIx_none, show HT.sIx (ys ++ [z]).length (ys ++ [z]).length (some (-1)) = ys.length by
    show (if (-1 : Int) < 0 then ((-1 : Int) + ((ys ++ [z]).length : Int)).toNat else min (-1 : Int).toNat (ys ++ [z]).length) = _
    rw [if_pos (by decide), List.length_append]
    show ((-1 : Int) + ((ys.length + 1 : Nat) : Int)).toNat = _
    omega]
  show ((ys ++ [z]).take (ys.length - 0)) = ys
  rw [Nat.sub_zero, List.take_left']
  rfl
theorem rising_turn {l m : List Row} {r r' : Row} (h : Rising (l ++ (r :: r' :: m))) (e : r.1 = r'.1) : Rising (l ++ (r' :: r :: m)) := by
  have h1 := List.pairwise_append.mp h
  have h2 := List.pairwise_cons.mp h1.2.1
  have h3 := List.pairwise_cons.mp h2.2
  refine List.pairwise_append.mpr ⟨h1.1, List.pairwise_cons.mpr ⟨fun u hu => ?_, List.pairwise_cons.mpr ⟨fun u hu => h2.1 u (List.mem_cons_of_mem _ hu), h3.2⟩⟩, fun u hu v hv => h1.2.2 u hu v ?_⟩
  · rcases List.mem_cons.mp hu with rfl | hu
    · omega
    · exact h3.1 u hu
  · simp only [List.mem_cons] at hv ⊢
    rcases hv with rfl | rfl | hv
    · exact .inr (.inl rfl)
    · exact .inl rfl
    · exact .inr (.inr hv)
theorem cut_mid {xs : List V} {i j : Nat} (h : i + j ≤ xs.length) : cutV xs (some (i : Int)) (some ((i + j : Nat) : Int)) = (xs.drop i).take j := by
  unfold cutV
  rw [HT.sIx_nat, HT.sIx_nat, Nat.min_eq_left h, Nat.min_eq_left (by omega), Nat.add_sub_cancel_left]
def spOther (K : PySem.W.Frag) (C : Addr) : Sp := fun vs H Q _ => ∃ (F c p p0 : Addr) (b : Str) (xs : List V) (rows : List Row) (n : Nat), vs = [.ref F, .str b, .ref p] ∧ (∃ C' dx fs, H p0 = some (.ins C' dx fs)) ∧ IsBank b ∧ n < 900000 ∧ Tape H F c n ∧ H p = some (.lst xs) ∧ p ≠ F ∧ DpAll K H xs (rows.map rowD3) ∧ rows.length ≤ 30 ∧ GoodRows rows ∧
  ∀ op its H', OS K C F c p0 op (n + 1) b rows H H' its → its.length ≤ 100 → Q (.ref op) H'
section
variable {P : Program} {w : World} {K : PySem.W.Frag} {mg : Str → Option Value} {base : Heap} (T : Ev K mg)
theorem ok_law_otherwise : FnOk P w K mg base CX0 4 T.f_law_otherwise T.fd_law_otherwise ["_law_feed_here", "_law_side", "_law_rows_here"] (spOther K T.CBook) := by
  refine T.F_law_otherwise.ok scOtherwise (fun vs H Q E h => ?_) (fun cdv A outer s H vs Q E hr h => ?_)
  · obtain ⟨F, c, p, p0, b, xs, rows, n, rfl, _⟩ := h
    rfl
  · obtain ⟨F, c, p, p0, b, xs, rows, n, rfl, hat0, hb, hn, hT, hp, npF, hd, hl, hg, q⟩ := h
    refine ⟨_,
      (pss_cut (ps_set (i := 3) scOtherwise.nd rfl (.inl rfl) (pe_lst (pa_cons (pe_tup (pa_cons (pe_call (ok_law_book T) (hr.mono (by decide)) (by rfl) T.g_law_book T.F_law_book.kp T.b_law_book .nil pass0 (pa_cons (pv 1) (pa_cons (pv 2) pa_nil))) (pa_cons pe_bl pa_nil))) (pa_cons (pe_tup (pa_cons (pe_call (ok_law_book T) (hr.mono (by decide)) (by rfl) T.g_law_book T.F_law_book.kp T.b_law_book .nil pass0 (pa_cons (pe_ix ix_list (pe_lst (pa_cons pe_str (pa_cons pe_str pa_nil))) (pe_callTy call_int1 (by rfl) T.mint (by decide +kernel) (pa_cons (pe_cmpR op_eq (pv 1) pe_str (nomark _)) pa_nil)) (fun _ _ => rfl)) (pa_cons (pv 2) pa_nil))) (pa_cons pe_bl pa_nil))) pa_nil))))
      (pss_cut (ps_set (i := 4) scOtherwise.nd rfl (.inl rfl) (pe_callB (cr_max rfl) (by rfl) T.mmax (by decide +kernel) (pa_cons (pe_op op_cat (pe_lc (own := [("_law_row", 11)]) (g := gName 11) (tt := tYes) rfl scOtherwise.nd (pi_list (pv 2)) (blkOk_by (N := NOtherwise) (own := [("_law_row", 11)]) (sc := defScope sOtherwise) (by decide +kernel)) (fun _ _ _ _ _ => pg_name (i := 11) scOtherwise.nd rfl (Or.inl rfl)) (fun _ _ _ _ _ => pts_nil) (fun _ _ _ _ _ => (pe_ix (r := rIxT K) ix_tup (pv 11) pe_int (fun _ _ => rfl)))) (pe_lst (pa_cons pe_int pa_nil))) pa_nil)))
      (pss_cut (ps_expr (pe_bm PySem.F.plainAttrs_list PySem.F.slot_list_append PySem.F.type_list_append mt_append (pv 3) (pa_cons (pe_tup (pa_cons (pe_call (ok_law_book T) (hr.mono (by decide)) (by rfl) T.g_law_book T.F_law_book.kp T.b_law_book .nil pass0 (pa_cons (pv 1) (pa_cons (pe_op op_cat (pv 2) (pe_lst (pa_cons (pe_tup (pa_cons (pv 4) (pa_cons pe_str (pa_cons pe_str pa_nil)))) pa_nil))) pa_nil))) (pa_cons pe_bl pa_nil))) pa_nil)))
      (pss_cut (ps_if (pt_cmpR (op_neD hr.units) (pv 2) (pe_lst pa_nil) (nomark _))
      (pss_cut (ps_set (i := 5) scOtherwise.nd rfl (.inl rfl) (pe_call (ok_law_draw T) (hr.mono (by decide)) (by rfl) T.g_law_draw T.F_law_draw.kp T.b_law_draw .nil pass0 (pa_cons (pv 0) (pa_cons (pe_callB call_len_seq (by rfl) T.mlen PySem.boot_len (pa_cons (pv 2) pa_nil)) pa_nil))))
      (pss_cut (ps_asg (pe_ix ix_list (pv 2) (pv 5) (fun _ _ => rfl)) (pg_tup rfl (pgs_cons (pg_name (i := 6) scOtherwise.nd rfl (.inl rfl)) (pgs_cons (pg_name (i := 7) scOtherwise.nd rfl (.inl rfl)) (pgs_cons (pg_name (i := 8) scOtherwise.nd rfl (.inl rfl)) pgs_nil)))))
      (pss_cut (ps_expr (pe_bm PySem.F.plainAttrs_list PySem.F.slot_list_append PySem.F.type_list_append mt_append (pv 3) (pa_cons (pe_tup (pa_cons (pe_call (ok_law_book T) (hr.mono (by decide)) (by rfl) T.g_law_book T.F_law_book.kp T.b_law_book .nil pass0 (pa_cons (pv 1) (pa_cons (pe_op op_cat (pe_slice sl_list (pv 2) po_none (po_some (pv 5))) (pe_slice sl_list (pv 2) (po_some (pe_op op_add (pv 5) pe_int)) po_none)) pa_nil))) (pa_cons pe_bl pa_nil))) pa_nil)))
      (pss_cut (ps_set (i := 9) scOtherwise.nd rfl (.inl rfl) (pe_tup (pa_cons (pv 6) (pa_cons (pe_ix ix_list (pe_lst (pa_cons pe_str (pa_cons pe_str pa_nil))) (pe_callTy call_int1 (by rfl) T.mint (by decide +kernel) (pa_cons (pe_cmpR op_eq (pv 7) pe_str (nomark _)) pa_nil)) (fun _ _ => rfl)) (pa_cons (pv 8) pa_nil)))))
      (pss_cut (ps_expr (pe_bm PySem.F.plainAttrs_list PySem.F.slot_list_append PySem.F.type_list_append mt_append (pv 3) (pa_cons (pe_tup (pa_cons (pe_call (ok_law_book T) (hr.mono (by decide)) (by rfl) T.g_law_book T.F_law_book.kp T.b_law_book .nil pass0 (pa_cons (pv 1) (pa_cons (pe_op op_cat (pe_op op_cat (pe_slice sl_list (pv 2) po_none (po_some (pv 5))) (pe_lst (pa_cons (pv 9) pa_nil))) (pe_slice sl_list (pv 2) (po_some (pe_op op_add (pv 5) pe_int)) po_none)) pa_nil))) (pa_cons pe_bl pa_nil))) pa_nil)))
      (pss_cut (ps_set (i := 10) scOtherwise.nd rfl (.inl rfl) (pe_tup (pa_cons (pv 6) (pa_cons (pv 7) (pa_cons (pe_op op_add_str (pe_slice sl_str (pv 8) po_none (po_some (pe_un un_neg pe_int))) (pe_ix ix_str pe_str (pe_callTy call_int1 (by rfl) T.mint (by decide +kernel) (pa_cons (pe_cmpR op_eq (pe_slice sl_str (pv 8) (po_some (pe_un un_neg pe_int)) po_none) pe_str (nomark _)) pa_nil)) (fun _ _ => rfl))) pa_nil)))))
      (pss_cut (ps_expr (pe_bm PySem.F.plainAttrs_list PySem.F.slot_list_append PySem.F.type_list_append mt_append (pv 3) (pa_cons (pe_tup (pa_cons (pe_call (ok_law_book T) (hr.mono (by decide)) (by rfl) T.g_law_book T.F_law_book.kp T.b_law_book .nil pass0 (pa_cons (pv 1) (pa_cons (pe_op op_cat (pe_op op_cat (pe_slice sl_list (pv 2) po_none (po_some (pv 5))) (pe_lst (pa_cons (pv 10) pa_nil))) (pe_slice sl_list (pv 2) (po_some (pe_op op_add (pv 5) pe_int)) po_none)) pa_nil))) (pa_cons pe_bl pa_nil))) pa_nil)))
      (pss_one (ps_expr (pe_bm PySem.F.plainAttrs_list PySem.F.slot_list_append PySem.F.type_list_append mt_append (pv 3) (pa_cons (pe_tup (pa_cons (pe_call (ok_law_book T) (hr.mono (by decide)) (by rfl) T.g_law_book T.F_law_book.kp T.b_law_book .nil pass0 (pa_cons (pv 1) (pa_cons (pe_op op_cat (pe_slice sl_list (pv 2) po_none (po_some (pe_un un_neg pe_int))) (pe_lst (pa_cons (pe_tup (pa_cons (pe_op op_add (pv 4) pe_int) (pa_cons (pe_ix ix_tup (pe_ix ix_list (pv 2) (pe_un un_neg pe_int) (fun _ _ => rfl)) pe_int (fun _ _ => rfl)) (pa_cons (pe_ix ix_tup (pe_ix ix_list (pv 2) (pe_un un_neg pe_int) (fun _ _ => rfl)) pe_int (fun _ _ => rfl)) pa_nil)))) pa_nil))) pa_nil))) (pa_cons pe_bl pa_nil))) pa_nil)))))))))))
      pss_nil)
      (pss_cons (ps_for PassesOwn.never rfl (pi_range1 (by rfl) T.mrange (pa_cons (pe_op op_sub (pe_callB call_len_seq (by rfl) T.mlen PySem.boot_len (pa_cons (pv 2) pa_nil)) pe_int) pa_nil)) (pg_name (i := 5) scOtherwise.nd rfl (.inl rfl))
      (pss_one (ps_if (PW.pt (pw_and (pt_cmpR op_eq (pe_ix ix_tup (pe_ix ix_list (pv 2) (pv 5) (fun _ _ => rfl)) pe_int (fun _ _ => rfl)) (pe_ix ix_tup (pe_ix ix_list (pv 2) (pe_op op_add (pv 5) pe_int) (fun _ _ => rfl)) pe_int (fun _ _ => rfl)) (nomark _)) (pw_and1 (pt_cmpR (op_neD hr.units) (pe_ix ix_list (pv 2) (pv 5) (fun _ _ => rfl)) (pe_ix ix_list (pv 2) (pe_op op_add (pv 5) pe_int) (fun _ _ => rfl)) (nomark _)))))
      (pss_one (ps_expr (pe_bm PySem.F.plainAttrs_list PySem.F.slot_list_append PySem.F.type_list_append mt_append (pv 3) (pa_cons (pe_tup (pa_cons (pe_call (ok_law_book T) (hr.mono (by decide)) (by rfl) T.g_law_book T.F_law_book.kp T.b_law_book .nil pass0 (pa_cons (pv 1) (pa_cons (pe_op op_cat (pe_op op_cat (pe_slice sl_list (pv 2) po_none (po_some (pv 5))) (pe_revL (pe_slice sl_list (pv 2) (po_some (pv 5)) (po_some (pe_op op_add (pv 5) pe_int))))) (pe_slice sl_list (pv 2) (po_some (pe_op op_add (pv 5) pe_int)) po_none)) pa_nil))) (pa_cons pe_bl pa_nil))) pa_nil))))
      pss_nil)))
      (pss_one (ps_ret (pv 3))))))))
      , ?_⟩
    have hok : ∀ r ∈ rows, RowOk r := fun r hr => (hg.1 r hr).1
    have hb10 : b.length ≤ 10 := by rcases hb with rfl | rfl <;> decide
    have hxl := rows_len hd
    have npc : True := trivial
    refine ⟨fun σ H' => ∃ (op : Addr) (its : List It8), σ = [some (.ref F), some (.str b), some (.ref p), some (.ref op), none, none, none, none, none, none, none, none] ∧ OS K T.CBook F c p0 op n b rows H H' its ∧ op ≠ F ∧ op ≠ c ∧ its.length = 2, ?_, ?_⟩
    · walk_at "s"
      refine ⟨p, b, xs, rows, rfl, hp, hd, by omega, hg.2, fun x1 l1 H1 hx1 hl1 hb1 s1 => ?_⟩
      walk_at "s"
      intro t1 ht1
      have u1 := s1.trans (same_upd (o := .tup [.ref x1, .bl true]) ht1)
      have et1 : (upd H1 t1 (.tup [.ref x1, .bl true])) t1 = some (.tup [.ref x1, .bl true]) := upd_same
      have hb1' := hb1.same (same_upd (o := .tup [.ref x1, .bl true]) ht1)
      generalize upd H1 t1 (.tup [.ref x1, .bl true]) = H2 at u1 et1 hb1' ⊢
      walk_at "s"
      intro lo hlo
      walk_at "s"
      refine .inr ⟨_, rfl, ?_⟩
      obtain ⟨b2, eb2, hb2, nb2⟩ : ∃ b2 : Str, [V.str "near", V.str "far"][(if decide (V.str b = V.str "near") = true then 1 else 0 : Nat)]? = some (.str b2) ∧ IsBank b2 ∧ ¬ b = b2 := by
        rcases hb with rfl | rfl
        · exact ⟨"far", rfl, .inr rfl, by decide⟩
        · exact ⟨"near", rfl, .inl rfl, by decide⟩
      walk_at "s"
      refine i_ixLe (if decide (V.str b = V.str "near") = true then 1 else 0) (SqL.of upd_same) (by split <;> rfl) eb2 ?_
      walk_at "s"
      have u2 := u1.trans (same_upd (o := .lst [.str "near", .str "far"]) hlo)
      have et1' := upd_at (o := .lst [.str "near", .str "far"]) hlo et1
      have hb1'' := hb1'.same (same_upd (o := .lst [.str "near", .str "far"]) hlo)
      generalize upd H2 lo (.lst [.str "near", .str "far"]) = H3 at u2 et1' hb1'' ⊢
      refine ⟨p, b2, xs, rows, rfl, u2 _ _ hp, dps_same u2 _ _ hd, by omega, hg.2, fun x2 l2 H4 hx2 hl2 hb22 s4 => ?_⟩
      walk_at "s"
      intro t2 ht2
      have u4 := (u2.trans s4).trans (same_upd (o := .tup [.ref x2, .bl false]) ht2)
      have et2 : (upd H4 t2 (.tup [.ref x2, .bl false])) t2 = some (.tup [.ref x2, .bl false]) := upd_same
      have et14 := upd_at (o := .tup [.ref x2, .bl false]) ht2 (s4 _ _ et1')
      have hb14 := (hb1''.same s4).same (same_upd (o := .tup [.ref x2, .bl false]) ht2)
      have hb24 := hb22.same (same_upd (o := .tup [.ref x2, .bl false]) ht2)
      generalize upd H4 t2 (.tup [.ref x2, .bl false]) = H5 at u4 et2 et14 hb14 hb24 ⊢
      walk_at "s"
      intro op hop
      have st := same_upd (o := .lst [.ref t1, .ref t2]) hop
      have T5 := hT.same u4
      obtain ⟨yt, eyt⟩ := hT.tape
      have nl1 : l1 ≠ F := fun z => by rw [z, eyt] at hl1; cases hl1
      have nl2 : l2 ≠ F := fun z => by rw [z, u2 _ _ eyt] at hl2; cases hl2
      obtain ⟨y1, ey1⟩ := hb14.nep
      obtain ⟨y2, ey2⟩ := hb24.nep
      refine ⟨op, [(b, rows, true), (b2, rows, false)], rfl, ⟨⟨_, upd_same, rfl, fun i v it a e => ?_⟩, fun it hi => ?_, rfl, (T5.same st).mono (by omega), fun z o nz ez => st _ _ (u4 _ _ ez), same_none u4 hop, let ⟨a, b, c, e⟩ := hat0; ⟨a, b, c, st _ _ (u4 _ _ e)⟩⟩, T5.ne hop, T5.nec hop, rfl⟩
      · match i, a, e with
        | 0, a, e => cases a; cases e; exact ⟨t1, x1, l1, rfl, st _ _ et14, hb14.same st, nl1, ne_of_none ey1 hop, fun z => by obtain ⟨a, b, c, e⟩ := hat0; rw [z, e] at hx1; cases hx1⟩
        | 1, a, e => cases a; cases e; exact ⟨t2, x2, l2, rfl, st _ _ et2, hb24.same st, nl2, ne_of_none ey2 hop, fun z => by obtain ⟨a, b, c, e⟩ := hat0; rw [z, u2 _ _ e] at hx2; cases hx2⟩
        | i + 2, a, e => cases a
      · simp only [List.mem_cons, List.not_mem_nil, or_false] at hi
        rcases hi with rfl | rfl
        · exact ⟨hb10, hok, by show rows.length ≤ 300; omega, by rw [decide_eq_true rfl, decide_eq_true rfl]; rfl⟩
        · exact ⟨by show b2.length ≤ 10; rcases hb2 with rfl | rfl <;> decide, hok, by show rows.length ≤ 300; omega, by show false = _; rw [decide_eq_false nb2]; rfl⟩
    rintro σ H1 ⟨op, its, rfl, os, nF, nc, hits⟩
    -- last
    have hp1 := os.keep _ _ npF hp
    obtain ⟨yt0, eyt0⟩ := hT.tape
    have hd1 := dps_keep hd eyt0 os.keep (noLs_rows rows)
    refine ⟨fun σ H' => σ = [some (.ref F), some (.str b), some (.ref p), some (.ref op), some (.int (lastM rows : Nat)), none, none, none, none, none, none, none] ∧ Same H1 H', ?_, ?_⟩
    · walk_at "s"
      refine ⟨⟨_, SqL.of hp1⟩, fun D hD => ?_⟩
      refine lc_list (K := K) (a := p) (xs := xs) (fun j H' => H' D = some (.lst ((rows.take j).map fun r => V.int (r.1 : Int))) ∧ Same H1 H') ⟨upd_same, same_upd hD⟩ (fun j H' _ z => SqL.of (z.2 _ _ hp1)) ?_ ?_
      · rintro j y H' hy ⟨eD, sj⟩
        obtain ⟨t, r, rfl, er, hrt⟩ := rows_at hd1 hy
        have hj : j < xs.length := (List.getElem?_eq_some_iff.mp hy).1
        refine ⟨rfl, ?_⟩
        walk_at "s"
        refine i_ixT0 (sqT_same hrt sj) ?_
        refine ⟨_, eD, lt_line (by simp; omega), ?_, app_same hD sj⟩
        rw [upd_same, List.take_succ, er]
        simp
      · rintro H' ⟨eD, sj⟩
        rw [hxl, List.take_length] at eD
        walk_at "s"
        intro z hz
        walk_at "s"
        have eD' := upd_at (o := .lst [.int 0]) hz eD
        refine ⟨D, z, _, _, rfl, rfl, eD', upd_same, le_line (by simp; omega), fun y hy => ?_⟩
        walk_at "s"
        refine ⟨y, rows.map (fun r => (r.1 : Int)) ++ [0], rfl, SqL.of (by rw [upd_same, List.map_append, List.map_map]; rfl), by simp, fun m hm hmx => ?_⟩
        have em := last_max hg.2 hm hmx
        subst em
        walk_at "s"
        exact ((sj.trans (same_upd hz)).trans (same_upd hy))
    rintro σ H2 ⟨rfl, s2⟩
    have os2 := os.same s2
    have hl2 : lastM rows ≤ 1000000 := last_le hg
    have gd8 : ∀ rows' : List Row, (∀ r ∈ rows', RowOk r) → rows'.length ≤ 300 → ¬ rows = rows' → Good8 b rows (b, rows', false) := fun rows' a1 a2 a3 => ⟨hb10, a1, a2, by show false = _; rw [decide_eq_false a3, Bool.and_false]⟩
    have nl : ∀ rows' : List Row, rows.length ≠ rows'.length → ¬ rows = rows' := fun rows' z e => z (by rw [e])
    refine ⟨fun σ H' => ∃ its, its.length = 3 ∧ σ = [some (.ref F), some (.str b), some (.ref p), some (.ref op), some (.int (lastM rows : Nat)), none, none, none, none, none, none, none] ∧ OS K T.CBook F c p0 op n b rows H H' its, ?_, ?_⟩
    · refine put_bk (rows' := rows ++ [(lastM rows, ("on" : Str), ("a" : Str))]) rfl rfl os2 nF nc (gd8 _ (fun r hr => ?_) (by simp; omega) (nl _ (by simp))) (List.pairwise_append.mpr ⟨hg.2, List.pairwise_singleton _ _, fun u hu v hv => ?_⟩) (by omega) (fun Q' hQ => ?_) (fun H' o' => ⟨_, by simp [hits], rfl, o'⟩)
      · rcases List.mem_append.mp hr with hr | hr
        · exact hok r hr
        · rw [List.mem_singleton.mp hr]; exact ⟨by show lastM rows ≤ _; omega, .inl rfl, lowa.1, lowa.2⟩
      · rw [List.mem_singleton.mp hv]; exact rising_le hg.2 u hu
      · have hp2 := os2.keep _ _ npF hp
        have hd2 := dps_keep hd eyt0 os2.keep (noLs_rows rows)
        walk_at "s"
        intro t ht
        walk_at "s"
        intro z hz
        have st := same_upd (o := .tup [.int (lastM rows : Nat), .str "on", .str "a"]) ht
        have sz := same_upd (o := .lst [.ref t]) hz
        refine ⟨p, z, _, _, rfl, rfl, sz _ _ (st _ _ hp2), upd_same, le_line (by simp; omega), fun y hy => ?_⟩
        have sy := same_upd (o := .lst (xs ++ [.ref t])) hy
        exact hQ y _ _ ((st.trans sz).trans sy) upd_same (rows_app (dps_same ((st.trans sz).trans sy) _ _ hd2) (.cons (row_dp (r := (lastM rows, ("on" : Str), ("a" : Str))) (SqT.of (sy _ _ (sz _ _ upd_same)))) .nil))
    rintro σ H3 ⟨its3, hits3, rfl, os3⟩
    refine ⟨fun σ H' => ∃ (its : List It8) (w5 w6 w7 w8 w9 w10 : Option V), its.length ≤ 7 ∧ σ = [some (.ref F), some (.str b), some (.ref p), some (.ref op), some (.int (lastM rows : Nat)), w5, w6, w7, w8, w9, w10, none] ∧ OS K T.CBook F c p0 op (n + 1) b rows H H' its, ?_, ?_⟩
    · have hp3 := os3.keep _ _ npF hp
      have hd3 := dps_keep hd eyt0 os3.keep (noLs_rows rows)
      have ow := okd_rows hok (show rows.length ≤ 300 by omega)
      walk_at "s"
      intro z0 hz0
      refine ⟨_, .list [], .lst (SqL.of (upd_at hz0 hp3)) (dps_same (same_upd (o := .lst []) hz0) _ _ hd3), .lst (SqL.of upd_same) .nil, ow.shaped, ke_shaped_ints [], ?_⟩
      rw [show PyData.eqv (.list (rows.map rowD3)) (.list []) = rows.isEmpty by cases rows <;> rfl]
      have os4 := os3.same (same_upd (o := .lst []) hz0)
      generalize upd H3 z0 (.lst []) = H4 at os4 ⊢
      refine ⟨_, rfl, ?_⟩
      by_cases hr0 : rows = []
      · refine iteF' (by rw [hr0]; rfl) ?_
        walk_at "s"
        exact ⟨its3, _, _, _, _, _, _, by omega, rfl, ⟨os4.ls, os4.good, os4.fst, os4.tape.mono (by omega), os4.keep, os4.fresh, os4.at0⟩⟩
      have hr1 : 0 < rows.length := List.length_pos_iff.mpr hr0
      refine iteT' (by cases rows with | nil => exact absurd rfl hr0 | cons => rfl) ?_
      -- k
      refine ⟨fun σ H' => ∃ k, k < rows.length ∧ σ = [some (.ref F), some (.str b), some (.ref p), some (.ref op), some (.int (lastM rows : Nat)), some (.int ((k : Nat) : Int)), none, none, none, none, none, none] ∧ OS K T.CBook F c p0 op (n + 1) b rows H H' its3, ?_, ?_⟩
      · walk_at "s"
        refine ⟨p, _, rfl, .inl (SqL.of (os4.keep _ _ npF hp)), ?_⟩
        rw [hxl]
        walk_at "s"
        refine dr (rows.length : Nat) os4.tape (by omega) (by omega) (by omega) fun d H5 d0 d1 T5 k5 => ?_
        obtain ⟨k, rfl⟩ := Int.eq_ofNat_of_zero_le d0
        walk_at "s"
        obtain ⟨xs4, eo4, ho4⟩ := os4.ls
        obtain ⟨yt4, eyt4⟩ := os4.tape.tape
        exact ⟨k, by omega, rfl, ⟨⟨xs4, k5 _ _ nF eo4, ho4.keepF eyt4 k5⟩, os4.good, os4.fst, T5, os4.keep.trans k5, os4.fresh, let ⟨a, b, c, e⟩ := os4.at0; ⟨a, b, c, k5 _ _ (ne_of e eyt4 (by intro z; cases z)) e⟩⟩⟩
      rintro σ H5 ⟨k, hk, rfl, os5⟩
      obtain ⟨rk, erk⟩ : ∃ rk, rows[k]? = some rk := ⟨rows[k], List.getElem?_eq_getElem hk⟩
      have okk := hok rk (List.mem_of_getElem? erk)
      have gkk := hg.1 rk (List.mem_of_getElem? erk)
      have hdk : rows.drop k = rk :: rows.drop (k + 1) := by
        rw [List.drop_eq_getElem_cons hk]
        rw [List.getElem?_eq_getElem hk] at erk
        rw [Option.some.inj erk]
      have hsplit : rows = rows.take k ++ (rk :: rows.drop (k + 1)) := by rw [← hdk, List.take_append_drop]
      have hri : Rising (rows.take k ++ (rk :: rows.drop (k + 1))) := by rw [← hsplit]; exact hg.2
      have hok2 : ∀ r ∈ rows.take k ++ (rk :: rows.drop (k + 1)), RowOk r := by rw [← hsplit]; exact hok
      have hlen2 : (rows.take k ++ (rk :: rows.drop (k + 1))).length = rows.length := by rw [← hsplit]
      have swap : ∀ r', r'.1 = rk.1 → Rising (rows.take k ++ (r' :: rows.drop (k + 1))) := fun r' e => rising_swap hri e
      have sok : ∀ r', RowOk r' → ∀ r ∈ rows.take k ++ (r' :: rows.drop (k + 1)), RowOk r := fun r' h r hr => by
        rcases List.mem_append.mp hr with hr | hr
        · exact hok r (List.mem_of_mem_take hr)
        · rcases List.mem_cons.mp hr with rfl | hr
          · exact h
          · exact hok r (List.mem_of_mem_drop hr)
      have sne : ∀ r', r' ≠ rk → ¬ rows = rows.take k ++ (r' :: rows.drop (k + 1)) := fun r' h e => by
        rw [hsplit] at e
        rw [← hsplit] at e
        have e2 := hsplit.symm.trans e
        exact h ((List.cons.inj (List.append_cancel_left e2)).1).symm
      have slen : ∀ r' : Row, (rows.take k ++ (r' :: rows.drop (k + 1))).length = rows.length := fun r' => by rw [← hlen2]; simp
      -- the three things
      refine ⟨fun σ H' => σ = [some (.ref F), some (.str b), some (.ref p), some (.ref op), some (.int (lastM rows : Nat)), some (.int ((k : Nat) : Int)), some (.int (rk.1 : Nat)), some (.str rk.2.1), some (.str rk.2.2), none, none, none] ∧ OS K T.CBook F c p0 op (n + 1) b rows H H' its3, ?_, ?_⟩
      · walk_at "s"
        have hp5 := os5.keep _ _ npF hp
        have hd5 := dps_keep hd eyt0 os5.keep (noLs_rows rows)
        obtain ⟨tk, ek⟩ : ∃ v, xs[k]? = some v := ⟨xs[k], List.getElem?_eq_getElem (by omega)⟩
        obtain ⟨t, r, rfl, er, hrt⟩ := rows_at hd5 ek
        obtain rfl : r = rk := Option.some.inj (er.symm.trans erk)
        refine i_ixLe k (SqL.of hp5) rfl ek ?_
        refine i_kw hrt rfl ?_
        walk_at "s"
        exact os5
      rintro σ H6 ⟨rfl, os6⟩
      -- one out
      refine ⟨fun σ H' => ∃ its, its.length = 4 ∧ σ = [some (.ref F), some (.str b), some (.ref p), some (.ref op), some (.int (lastM rows : Nat)), some (.int ((k : Nat) : Int)), some (.int (rk.1 : Nat)), some (.str rk.2.1), some (.str rk.2.2), none, none, none] ∧ OS K T.CBook F c p0 op (n + 1) b rows H H' its, ?_, ?_⟩
      · refine put_bk (rows' := rows.take k ++ rows.drop (k + 1)) rfl rfl os6 nF nc (gd8 _ (fun r hr => ?_) (by rw [List.length_append] at hlen2 ⊢; simp only [List.length_cons] at hlen2; omega) (nl _ (by rw [List.length_append] at hlen2 ⊢; simp only [List.length_cons] at hlen2; omega))) (rising_out hri) (by omega) (fun Q' hQ => ?_) (fun H' o' => ⟨_, by simp [hits3], rfl, o'⟩)
        · rcases List.mem_append.mp hr with hr | hr
          · exact hok r (List.mem_of_mem_take hr)
          · exact hok r (List.mem_of_mem_drop hr)
        · have hp6 := os6.keep _ _ npF hp
          have hd6 := dps_keep hd eyt0 os6.keep (noLs_rows rows)
          walk_at "s"
          refine ⟨p, xs, rfl, SqL.of hp6, fun c1 h1 => ?_⟩
          rw [cut_to (by omega)]
          have s1 := same_upd (o := .lst (xs.take k)) h1
          walk_at "s"
          refine ⟨p, xs, rfl, SqL.of (s1 _ _ hp6), fun c2 h2 => ?_⟩
          rw [show ((k : Int) + 1) = ((k + 1 : Nat) : Int) by omega, cut_from (by omega)]
          have s2 := same_upd (o := .lst (xs.drop (k + 1))) h2
          refine ⟨c1, c2, _, _, rfl, rfl, s2 _ _ upd_same, upd_same, le_line (by simp; omega), fun y hy => ?_⟩
          have s3 := same_upd (o := .lst (xs.take k ++ xs.drop (k + 1))) hy
          exact hQ y _ _ ((s1.trans s2).trans s3) upd_same (rows_app (rows_take (dps_same ((s1.trans s2).trans s3) _ _ hd6) k) (rows_drop (dps_same ((s1.trans s2).trans s3) _ _ hd6) (k + 1)))
      rintro σ H7 ⟨its7, hits7, rfl, os7⟩
      -- turned
      have mid : ∀ (H8 : Hp) (its8 : List It8), OS K T.CBook F c p0 op (n + 1) b rows H H8 its8 → ∀ (j : Nat) (σ : L2.St) (t9 : Addr) (r' : Row), σ[2]? = some (some (.ref p)) → σ[5]? = some (some (.int ((k : Nat) : Int))) → σ[j]? = some (some (.ref t9)) → SqT K H8 t9 (rowT r') → ∀ Q' : VK, (∀ lp ys H1, Same H8 H1 → H1 lp = some (.lst ys) → DpAll K H1 ys ((rows.take k ++ (r' :: rows.drop (k + 1))).map rowD3) → Q' (.ref lp) H1) →
          tOp rCat (tOp rCat (tSl (rSlL K) (tVar 2) tNoPart (tPart (tVar 5))) (tLst (tCons (tVar j) tNil))) (tSl (rSlL K) (tVar 2) (tPart (tOp (rI0 fun i j => V.int (i + j)) (tVar 5) (tC (V.int 1)))) tNoPart) σ H8 Q' := by
        intro H8 its8 os8 j σ t9 r' e2 e5 ej hrt Q' hQ
        have hp6 := os8.keep _ _ npF hp
        have hd6 := dps_keep hd eyt0 os8.keep (noLs_rows rows)
        refine i_op (i_op (i_sl (i_var e2 (i_nopart (i_part (i_var e5 ⟨_, rfl, p, xs, rfl, SqL.of hp6, fun c1 h1 => ?_⟩))))))
        rw [cut_to (by omega)]
        have s1 := same_upd (o := .lst (xs.take k)) h1
        refine i_lst (i_cons (i_var ej (i_nil ⟨le_line (by show 1 ≤ _; decide), fun l2 h2 => ?_⟩)))
        have s2 := same_upd (o := .lst [.ref t9]) h2
        refine ⟨c1, l2, _, _, rfl, rfl, s2 _ _ upd_same, upd_same, le_line (by simp; omega), fun l3 h3 => ?_⟩
        have s3 := same_upd (o := .lst (xs.take k ++ [.ref t9])) h3
        refine i_sl (i_var e2 (i_part (i_op (i_var e5 (i_c ⟨_, _, rfl, rfl, _, rfl, i_nopart ⟨p, xs, rfl, SqL.of (s3 _ _ (s2 _ _ (s1 _ _ hp6))), fun c2 h4 => ?_⟩⟩)))))
        rw [show ((k : Int) + 1) = ((k + 1 : Nat) : Int) by omega, cut_from (by omega)]
        have s4 := same_upd (o := .lst (xs.drop (k + 1))) h4
        refine ⟨l3, c2, _, _, rfl, rfl, s4 _ _ upd_same, upd_same, le_line (by simp; omega), fun y hy => ?_⟩
        have s5 := same_upd (o := .lst (xs.take k ++ [.ref t9] ++ xs.drop (k + 1))) hy
        have ss := (((s1.trans s2).trans s3).trans s4).trans s5
        have := rows_app (rows_app (r2 := [r']) (rows_take (dps_same ss _ _ hd6) k) (.cons (row_dp (sqT_same hrt ss)) .nil)) (rows_drop (dps_same ss _ _ hd6) (k + 1))
        refine hQ y _ _ ss upd_same ?_
        rw [show rows.take k ++ [r'] ++ rows.drop (k + 1) = rows.take k ++ (r' :: rows.drop (k + 1)) by simp] at this
        exact this
      obtain ⟨wd, ewd, hwd, nwd⟩ : ∃ wd : Str, [V.str "on", V.str "off"][(if decide (V.str rk.2.1 = V.str "on") = true then 1 else 0 : Nat)]? = some (.str wd) ∧ (wd = "on" ∨ wd = "off") ∧ ¬ wd = rk.2.1 := by
        rcases okk.2.1 with z | z <;> rw [z]
        · exact ⟨"off", rfl, .inr rfl, by decide⟩
        · exact ⟨"on", rfl, .inl rfl, by decide⟩
      refine ⟨fun σ H' => ∃ t9, σ = [some (.ref F), some (.str b), some (.ref p), some (.ref op), some (.int (lastM rows : Nat)), some (.int ((k : Nat) : Int)), some (.int (rk.1 : Nat)), some (.str rk.2.1), some (.str rk.2.2), some (.ref t9), none, none] ∧ SqT K H' t9 (rowT (rk.1, wd, rk.2.2)) ∧ OS K T.CBook F c p0 op (n + 1) b rows H H' its7, ?_, ?_⟩
      · walk_at "s"
        intro lo hlo
        walk_at "s"
        refine .inr ⟨_, rfl, ?_⟩
        walk_at "s"
        refine i_ixLe (if decide (V.str rk.2.1 = V.str "on") = true then 1 else 0) (SqL.of upd_same) (by split <;> rfl) ewd ?_
        walk_at "s"
        intro t9 ht9
        walk_at "s"
        exact ⟨SqT.of upd_same, (os7.same (same_upd hlo)).same (same_upd ht9)⟩
      rintro σ H8 ⟨t9, rfl, ht9, os8⟩
      have okT : RowOk (rk.1, wd, rk.2.2) := ⟨okk.1, hwd, okk.2.2.1, okk.2.2.2⟩
      refine ⟨fun σ H' => ∃ its, its.length = 5 ∧ σ = [some (.ref F), some (.str b), some (.ref p), some (.ref op), some (.int (lastM rows : Nat)), some (.int ((k : Nat) : Int)), some (.int (rk.1 : Nat)), some (.str rk.2.1), some (.str rk.2.2), some (.ref t9), none, none] ∧ OS K T.CBook F c p0 op (n + 1) b rows H H' its, ?_, ?_⟩
      · exact put_bk (rows' := rows.take k ++ ((rk.1, wd, rk.2.2) :: rows.drop (k + 1))) rfl rfl os8 nF nc (gd8 _ (sok _ okT) (by rw [slen]; omega) (sne _ fun e => nwd (by rw [← e]))) (swap _ rfl) (by omega) (mid H8 _ os8 9 _ t9 _ rfl rfl rfl ht9) (fun H' o' => ⟨_, by simp [hits7], rfl, o'⟩)
      rintro σ H9 ⟨its9, hits9, rfl, os9⟩
      obtain ⟨nm, enm, hnm1, hnm2, hnm3⟩ := name_bent okk.2.2.1 okk.2.2.2
      refine ⟨fun σ H' => ∃ t10, σ = [some (.ref F), some (.str b), some (.ref p), some (.ref op), some (.int (lastM rows : Nat)), some (.int ((k : Nat) : Int)), some (.int (rk.1 : Nat)), some (.str rk.2.1), some (.str rk.2.2), some (.ref t9), some (.ref t10), none] ∧ SqT K H' t10 (rowT (rk.1, rk.2.1, nm)) ∧ OS K T.CBook F c p0 op (n + 1) b rows H H' its9, ?_, ?_⟩
      · walk_at "s"
        refine ⟨small_line (by have := okk.2.2.1.1; omega), ?_⟩
        walk_at "s"
        refine ⟨small_line (by have := okk.2.2.1.1; omega), ?_⟩
        walk_at "s"
        refine .inr ⟨_, rfl, ?_⟩
        refine ⟨("az" : Str), (if decide (V.str (cutS rk.2.2 (some (-1)) none) = V.str "a") = true then 1 else 0), (if decide (V.str (cutS rk.2.2 (some (-1)) none) = V.str "a") = true then 122 else 97), rfl, rfl, small_line (by decide), by split <;> rfl, ?_⟩
        refine ⟨_, _, rfl, rfl, ?_, ?_⟩
        · have e1 : (cutS rk.2.2 none (some (-1))).length ≤ 8 := (cut_low okk.2.2.1).1
          exact small_line (by show (cutS rk.2.2 none (some (-1))).length + 1 ≤ 100; omega)
        rw [← enm]
        walk_at "s"
        intro t10 ht10
        walk_at "s"
        exact ⟨SqT.of upd_same, os9.same (same_upd ht10)⟩
      rintro σ H10 ⟨t10, rfl, ht10, os10⟩
      have okN : RowOk (rk.1, rk.2.1, nm) := ⟨okk.1, okk.2.1, hnm1, hnm2⟩
      refine ⟨fun σ H' => ∃ its, its.length = 6 ∧ σ = [some (.ref F), some (.str b), some (.ref p), some (.ref op), some (.int (lastM rows : Nat)), some (.int ((k : Nat) : Int)), some (.int (rk.1 : Nat)), some (.str rk.2.1), some (.str rk.2.2), some (.ref t9), some (.ref t10), none] ∧ OS K T.CBook F c p0 op (n + 1) b rows H H' its, ?_, ?_⟩
      · exact put_bk (rows' := rows.take k ++ ((rk.1, rk.2.1, nm) :: rows.drop (k + 1))) rfl rfl os10 nF nc (gd8 _ (sok _ okN) (by rw [slen]; omega) (sne _ fun e => hnm3 (by rw [← e]))) (swap _ rfl) (by omega) (mid H10 _ os10 10 _ t10 _ rfl rfl rfl ht10) (fun H' o' => ⟨_, by simp [hits9], rfl, o'⟩)
      rintro σ H11 ⟨its11, hits11, rfl, os11⟩
      -- the last one later
      obtain ⟨rs, rl, hrs⟩ : ∃ rs rl, rows = rs ++ [rl] := (snoc_or rows).resolve_left hr0 |>.elim fun t h => h.elim fun x e => ⟨t, x, e⟩
      have el : lastM rows = rl.1 := by rw [hrs, lastM_snoc]
      have okl := hok rl (by rw [hrs]; simp)
      refine put_bk (rows' := rs ++ [(lastM rows + 1, rl.2.1, rl.2.2)]) rfl rfl os11 nF nc (gd8 _ (fun r hr => ?_) (by rw [hrs] at hl; simp at hl ⊢; omega) (fun e => ?_)) (List.pairwise_append.mpr ⟨by have := hg.2; rw [hrs] at this; exact (List.pairwise_append.mp this).1, List.pairwise_singleton _ _, fun u hu v hv => ?_⟩) (by omega) (fun Q' hQ => ?_) (fun H' o' => ⟨_, _, _, _, _, _, _, by simp [hits11], rfl, o'⟩)
      · rcases List.mem_append.mp hr with hr | hr
        · exact hok r (by rw [hrs]; exact List.mem_append_left _ hr)
        · rw [List.mem_singleton.mp hr]; exact ⟨by show lastM rows + 1 ≤ _; omega, okl.2.1, okl.2.2.1, okl.2.2.2⟩
      · rw [hrs] at e
        have e2 := congrArg Prod.fst (List.cons.inj (List.append_cancel_left e)).1
        rw [← hrs, el] at e2
        simp at e2
      · rw [List.mem_singleton.mp hv]
        have := rising_le hg.2 u (by rw [hrs]; exact List.mem_append_left _ hu)
        show u.1 ≤ lastM rows + 1
        omega
      · have hp11 := os11.keep _ _ npF hp
        have hd11 := dps_keep hd eyt0 os11.keep (noLs_rows rows)
        obtain ⟨ys, xl, hxs⟩ : ∃ ys xl, xs = ys ++ [xl] := (snoc_or xs).resolve_left (fun z => by rw [z] at hxl; simp at hxl; omega) |>.elim fun t h => h.elim fun x e => ⟨t, x, e⟩
        have hyl : ys.length = rs.length := by rw [hxs, hrs] at hxl; simpa using hxl
        have hrl : rs.length + 1 = rows.length := by rw [hrs]; simp
        have hys30 : ys.length ≤ 30 := by omega
        obtain ⟨tz, rz, ez, erz, hrz⟩ := rows_at (x := xl) (i := rs.length) hd11 (by rw [hxs, ← hyl]; simp)
        obtain rfl : rl = rz := by rw [hrs] at erz; simpa using erz
        subst ez
        walk_at "s"
        refine ⟨p, xs, rfl, SqL.of hp11, fun c1 h1 => ?_⟩
        rw [hxs, cut_last]
        have s1 := same_upd (o := .lst ys) h1
        walk_at "s"
        refine i_ixLast (SqL.of (by rw [← hxs]; exact s1 _ _ hp11)) ?_
        walk_at "s"
        refine i_ixT1 (sqT_same hrz s1) ?_
        walk_at "s"
        refine i_ixLast (SqL.of (by rw [← hxs]; exact s1 _ _ hp11)) ?_
        walk_at "s"
        refine i_ixT2 (sqT_same hrz s1) ?_
        walk_at "s"
        intro t ht
        have s2 := same_upd (o := .tup [.int ((lastM rows : Nat) + 1), .str rl.2.1, .str rl.2.2]) ht
        walk_at "s"
        intro l2 h2
        have s3 := same_upd (o := .lst [.ref t]) h2
        refine ⟨c1, l2, _, _, rfl, rfl, s3 _ _ (s2 _ _ upd_same), upd_same, le_line (by simp; omega), fun y hy => ?_⟩
        have s4 := same_upd (o := .lst (ys ++ [.ref t])) hy
        have ss := ((s1.trans s2).trans s3).trans s4
        have d1 : ∀ Hx, Same H11 Hx → DpAll K Hx (ys ++ [.ref tz]) ((rs ++ [rl]).map rowD3) := fun Hx sx => by rw [← hxs, ← hrs]; exact dps_same sx _ _ hd11
        have d2 := rows_take (d1 _ ss) rs.length
        rw [List.take_left' hyl, List.take_left' rfl] at d2
        exact hQ y _ _ ss upd_same (rows_app d2 (.cons (row_dp (r := (lastM rows + 1, rl.2.1, rl.2.2)) (SqT.of (s4 _ _ (s3 _ _ upd_same)))) .nil))
    rintro σ H4 ⟨its4, w5, w6, w7, w8, w9, w10, hits4, rfl, os4⟩
    walk_at "s"
    refine ⟨p, _, rfl, .inl (SqL.of (os4.keep _ _ npF hp)), ?_⟩
    rw [hxl]
    walk_at "s"
    refine for_range (lo := 0) (n := ((rows.length : Int) - 1).toNat) (fun i σ H' => ∃ (its : List It8) (w5 w6 w7 w8 w9 w10 : Option V), its.length ≤ 7 + i ∧ σ = [some (.ref F), some (.str b), some (.ref p), some (.ref op), some (.int (lastM rows : Nat)), w5, w6, w7, w8, w9, w10, none] ∧ OS K T.CBook F c p0 op (n + 1) b rows H H' its)
      ⟨_, _, _, _, _, _, _, by omega, rfl, os4⟩ ?_ ?_
    · rintro i σ H5 hi ⟨its5, w5, w6, w7, w8, w9, w10, hits5, rfl, os5⟩
      have hi1 : i + 1 < rows.length := by omega
      have hp5 := os5.keep _ _ npF hp
      have hd5 := dps_keep hd eyt0 os5.keep (noLs_rows rows)
      obtain ⟨v1, ev1⟩ : ∃ v, xs[i]? = some v := ⟨xs[i], List.getElem?_eq_getElem (by omega)⟩
      obtain ⟨v2, ev2⟩ : ∃ v, xs[i + 1]? = some v := ⟨xs[i + 1], List.getElem?_eq_getElem (by omega)⟩
      obtain ⟨t1, r1, rfl, er1, hr1⟩ := rows_at hd5 ev1
      obtain ⟨t2, r2, rfl, er2, hr2⟩ := rows_at hd5 ev2
      have ok1 := hok r1 (List.mem_of_getElem? er1)
      have ok2 := hok r2 (List.mem_of_getElem? er2)
      have ei : (0 : Int) + (i : Int) = (i : Int) := by omega
      walk_at "s"
      rw [ei]
      refine i_ixL (SqL.of hp5) ev1 ?_
      walk_at "s"
      refine i_ixT0 hr1 ?_
      walk_at "s"
      refine i_ixLe (i + 1) (SqL.of hp5) (by omega) ev2 ?_
      walk_at "s"
      refine i_ixT0 hr2 ?_
      walk_at "s"
      by_cases c1 : r1.1 = r2.1
      · refine iteT' (by rw [c1]; exact decide_eq_true rfl) ?_
        walk_at "s"
        refine i_ixL (SqL.of hp5) ev1 ?_
        walk_at "s"
        refine i_ixLe (i + 1) (SqL.of hp5) (by omega) ev2 ?_
        refine ⟨_, _, row_dp hr1, row_dp hr2, (okd_row ok1).shaped, (okd_row ok2).shaped, ?_⟩
        rw [eqv_row]
        by_cases c2 : r1 = r2
        · rw [decide_eq_true c2]
          refine ⟨_, rfl, ?_⟩
          refine iteF' rfl ?_
          walk_at "s"
          exact ⟨its5, _, _, _, _, _, _, by omega, rfl, os5⟩
        · rw [decide_eq_false c2]
          refine ⟨_, rfl, ?_⟩
          refine iteT' rfl ?_
          have hd1 : rows.drop i = r1 :: r2 :: rows.drop (i + 2) := by
            rw [List.drop_eq_getElem_cons (by omega), List.drop_eq_getElem_cons (by omega)]
            rw [List.getElem?_eq_getElem (by omega)] at er1 er2
            rw [Option.some.inj er1, Option.some.inj er2]
          have hsp : rows = rows.take i ++ (r1 :: r2 :: rows.drop (i + 2)) := by rw [← hd1, List.take_append_drop]
          have hri : Rising (rows.take i ++ (r1 :: r2 :: rows.drop (i + 2))) := by rw [← hsp]; exact hg.2
          have hln : (rows.take i ++ (r1 :: r2 :: rows.drop (i + 2))).length = rows.length := by rw [← hsp]
          refine put_bk (rows' := rows.take i ++ (r2 :: r1 :: rows.drop (i + 2))) rfl rfl os5 nF nc (gd8 _ (fun r hr => ?_) (by rw [List.length_append] at hln ⊢; simp only [List.length_cons] at hln ⊢; omega) (fun e => ?_)) (rising_turn hri c1) (by omega) (fun Q' hQ => ?_) (fun H' o' => ⟨_, _, _, _, _, _, _, by simp; omega, rfl, o'⟩)
          · rcases List.mem_append.mp hr with hr | hr
            · exact hok r (List.mem_of_mem_take hr)
            · rcases List.mem_cons.mp hr with rfl | hr
              · exact ok2
              · rcases List.mem_cons.mp hr with rfl | hr
                · exact ok1
                · exact hok r (List.mem_of_mem_drop hr)
          · have e2 := hsp.symm.trans e
            exact c2 (List.cons.inj (List.append_cancel_left e2)).1
          · walk_at "s"
            refine ⟨p, xs, rfl, SqL.of hp5, fun a1 h1 => ?_⟩
            rw [cut_to (by omega)]
            have s1 := same_upd (o := .lst (xs.take i)) h1
            walk_at "s"
            refine ⟨p, xs, rfl, SqL.of (s1 _ _ hp5), fun a2 h2 => ?_⟩
            rw [show ((i : Int) + 2) = ((i + 2 : Nat) : Int) by omega, cut_mid (by omega)]
            have ex2 : (xs.drop i).take 2 = [.ref t1, .ref t2] := by
              rw [List.drop_eq_getElem_cons (by omega), List.drop_eq_getElem_cons (by omega)]
              rw [List.getElem?_eq_getElem (by omega)] at ev1 ev2
              rw [Option.some.inj ev1, Option.some.inj ev2]
              rfl
            rw [ex2]
            have s2 := same_upd (o := .lst [.ref t1, .ref t2]) h2
            walk_at "s"
            refine ⟨a2, _, rfl, SqL.of upd_same, fun a3 h3 => ?_⟩
            have s3 := same_upd (o := .lst [V.ref t1, V.ref t2].reverse) h3
            refine ⟨a1, a3, _, _, rfl, rfl, s3 _ _ (s2 _ _ upd_same), upd_same, le_line (by simp; omega), fun a4 h4 => ?_⟩
            have s4 := same_upd (o := .lst (xs.take i ++ [V.ref t1, V.ref t2].reverse)) h4
            walk_at "s"
            refine ⟨p, xs, rfl, SqL.of (s4 _ _ (s3 _ _ (s2 _ _ (s1 _ _ hp5)))), fun a5 h5 => ?_⟩
            rw [show ((i : Int) + 2) = ((i + 2 : Nat) : Int) by omega, cut_from (by omega)]
            have s5 := same_upd (o := .lst (xs.drop (i + 2))) h5
            refine ⟨a4, a5, _, _, rfl, rfl, s5 _ _ upd_same, upd_same, le_line (by simp; omega), fun y hy => ?_⟩
            have s6 := same_upd (o := .lst (xs.take i ++ [V.ref t1, V.ref t2].reverse ++ xs.drop (i + 2))) hy
            have ss := ((((s1.trans s2).trans s3).trans s4).trans s5).trans s6
            have := rows_app (rows_app (r2 := [r2, r1]) (rows_take (dps_same ss _ _ hd5) i) (.cons (row_dp (sqT_same hr2 ss)) (.cons (row_dp (sqT_same hr1 ss)) .nil))) (rows_drop (dps_same ss _ _ hd5) (i + 2))
            refine hQ y _ _ ss upd_same ?_
            rw [show rows.take i ++ [r2, r1] ++ rows.drop (i + 2) = rows.take i ++ (r2 :: r1 :: rows.drop (i + 2)) by simp] at this
            exact this
      · refine iteF' (decide_eq_false fun e => c1 (by have := V.int.inj e; omega)) ?_
        walk_at "s"
        exact ⟨its5, _, _, _, _, _, _, by omega, rfl, os5⟩
    · rintro σ H5 ⟨its5, w5, w6, w7, w8, w9, w10, hits5, rfl, os5⟩
      walk_at "s"
      exact q op its5 H5 os5 (by omega)
end
theorem kit_no {K : PySem.W.Frag} {C : Addr} {T : String} (ic : PySem.W.isClsIn K C = true) (ty : PySem.W.typeIn K (.ref C) = some (.type "type")) (ts : PySem.W.subIn K (.type T) (.ref C) = some false) : PySem.W.kitOne K (.type T) (.ref C) = some false := by
  have ic' : (PySem.W.clsIn K C).isSome = true := ic
  have e : ((PySem.W.clsIn K C).isSome && PySem.W.typeIn K (.ref C) == some (.type "type")) = true := by rw [ic', ty]; rfl
  show (if (Value.type T == Value.ref C) = true then some true else if ((PySem.W.clsIn K C).isSome && PySem.W.typeIn K (.ref C) == some (.type "type")) = true then PySem.W.subIn K (.type T) (.ref C) else none) = some false
  rw [if_neg (by intro z; cases z), if_pos e]
  exact ts
def spLaw (K : PySem.W.Frag) : Sp := fun vs H Q _ => ∃ (a : Addr) (ns : List Int), vs = [.ref a] ∧ SqL K H a (ns.map V.int) ∧ ns.length ≤ 63 ∧ ∀ H', Q (.bl true) H'
set_option maxHeartbeats 8000000
local macro_rules | `(tactic| walk_at "c") => `(tactic| first | omega | decide | exact ⟨by omega, by omega⟩ | exact ⟨by decide, by decide⟩ | exact .inl ⟨by omega, by omega⟩ | exact .inr ⟨by omega, by omega⟩ | exact ⟨by omega, by omega, by omega⟩ | exact ⟨by decide, by decide, by decide⟩ | exact le_line (Nat.le_of_ble_eq_true rfl))
local macro_rules | `(tactic| walk_at "a") => `(tactic| with_reducible (first | refine i_seq ?_ | refine i_asg ?_ | refine i_cons ?_ | refine i_c ?_ | refine i_nil ?_ | refine i_op ?_ | refine i_call ?_ | refine i_cb ?_ | refine i_name ?_ | refine i_next ?_ | refine i_ret ?_ | refine i_drop ?_ | refine i_if ?_ | refine i_test ?_ | refine i_and ?_ | refine i_or ?_ | refine i_not ?_ | refine i_ite ?_ | refine i_lst ?_ | refine i_tup ?_ | refine i_bm ?_ | refine i_un ?_ | refine i_par ?_ | refine i_gsub ?_ | refine i_chain ?_ | refine i_sl ?_ | refine i_nopart ?_ | refine i_part ?_ | refine i_m1 ?_ | refine i_m0 ?_ | refine i_lc ?_ | refine i_iList ?_ | refine i_iTup ?_ | refine i_iStr ?_ | refine i_r1 ?_ | refine i_set ?_ | refine i_callk ?_ | refine i_callN ?_ | refine i_ckw ?_ | refine i_revL ?_ | refine i_tB ?_ | refine i_fld ?_ | refine i_sfld ?_ | refine i_make ?_ | refine i_makeN ?_ | refine i_meth ?_ | refine i_andV ?_ | refine i_orV ?_ | refine i_notV ?_ | refine iteT ?_ | refine iteF ?_ | refine i_yes ?_))
local macro_rules | `(tactic| walk_at "s") => `(tactic| repeat (first | walk_at "a" | refine i_var rfl ?_ | refine i_aug rfl ?_ | refine And.intro ⟨_, rfl⟩ ?_ | refine ⟨_, rfl, ?_⟩ | refine ⟨_, _, rfl, rfl, ?_⟩ | refine ⟨_, _, rfl, ?_⟩ | refine ⟨rfl, ?_⟩ | refine And.intro (by walk_at "c") ?_))
/-! ### == of Books, in lists -/
def DBk (K : PySem.W.Frag) (C : Addr) : V → V → Hp → Bool → Prop := fun x y H b => ∃ (p l q m : Addr) (b1 b2 : Str) (rows ss : List Row), x = .ref p ∧ y = .ref q ∧ BookAt K C H p l b1 rows ∧ BookAt K C H q m b2 ss ∧ (∀ r ∈ rows, RowOk r) ∧ (∀ r ∈ ss, RowOk r) ∧ rows.length ≤ 300 ∧ ss.length ≤ 300 ∧ b = (decide (b1 = b2) && decide (rows = ss)) ∧ (p = q → b = true)
theorem monBk {K : PySem.W.Frag} {C : Addr} : ∀ x y H H' b, Same H H' → DBk K C x y H b → DBk K C x y H' b := by
  rintro x y H H' b s ⟨p, l, q, m, b1, b2, rows, ss, e1, e2, h1, h2, r⟩
  exact ⟨p, l, q, m, b1, b2, rows, ss, e1, e2, h1.same s, h2.same s, r⟩
theorem dokBk {K : PySem.W.Frag} {C : Addr} : DOk C (DBk K C) := by
  refine ⟨fun x y H b h => ?_, fun x H b h => ?_, monBk⟩
  · obtain ⟨p, l, q, m, b1, b2, rows, ss, rfl, rfl, h1, h2, _⟩ := h
    obtain ⟨dx, e1⟩ := h1.ob
    obtain ⟨dy, e2⟩ := h2.ob
    exact ⟨_, _, _, _, _, _, rfl, e1, rfl, e2⟩
  · obtain ⟨p, l, q, m, b1, b2, rows, ss, rfl, e, h1, h2, _, _, _, _, _, hb⟩ := h
    cases e
    exact hb rfl
/-- a Book, and another thing -/
def TyS (K : PySem.W.Frag) (C : Addr) (H : Hp) (x : V) : Prop := ∀ H', Same H H' → ∃ t, TyX K H' x t ∧ PySem.W.kitOne K t (.ref C) = some false ∧ PySem.W.notFirst K C t = true
def GBk (K : PySem.W.Frag) (C : Addr) : V → V → Hp → Prop := fun y x H => ∃ (p l : Addr) (b : Str) (rows : List Row), y = .ref p ∧ BookAt K C H p l b rows ∧ (∀ r ∈ rows, RowOk r) ∧ rows.length ≤ 300 ∧ TyS K C H x
theorem hspBk {K : PySem.W.Frag} {C : Addr} : ∀ y x H Q, GBk K C y x H → (∀ H', Same H H' → Q (.bl false) H') → spBkEqA K C [y, x] H Q E0 := by
  rintro y x H Q ⟨p, l, b, rows, rfl, hb, ok, hl, ty⟩ hq
  obtain ⟨t, ty, hk, _⟩ := ty H same_refl
  exact ⟨p, l, x, b, rows, rfl, hb, ok, hl, .inr ⟨t, ty, hk, hq _ same_refl⟩⟩
theorem leftOk_same {H H' : Hp} {x : V} (h : LeftOk H x) (s : Same H H') : LeftOk H' x := by
  cases h with
  | non => exact .non
  | int i => exact .int i
  | str z => exact .str z
  | lst e => exact .lst (s _ _ e)
  | tup e => exact .tup (s _ _ e)
  | dK e => exact .dK (s _ _ e)
theorem monMix {K : PySem.W.Frag} {C : Addr} : ∀ x y H H' b, Same H H' → DOr (DBk K C) (DOth C (GBk K C)) x y H b → DOr (DBk K C) (DOth C (GBk K C)) x y H' b := by
  rintro x y H H' b s (h | ⟨e, lo, ⟨a, dx, fs, ey, ea⟩, p, l, b1, rows, e2, hb, ok, hl, ty⟩)
  · exact .inl (monBk _ _ _ _ _ s h)
  · exact .inr ⟨e, leftOk_same lo s, ⟨a, dx, fs, ey, s _ _ ea⟩, p, l, b1, rows, e2, hb.same s, ok, hl, fun H2 s2 => ty H2 (s.trans s2)⟩
theorem not_first {K : PySem.W.Frag} {C : Addr} {T : String} (ts : PySem.W.subIn K (.type T) (.ref C) = some false) : PySem.W.notFirst K C (.type T) = true := by
  unfold PySem.W.notFirst
  rw [ts]
  simp
/-- what was told of the Book ahead of each row -/
structure Held (K : PySem.W.Frag) (F l hp : Addr) (rows : List Row) (H : Hp) (i : Nat) (v : V) : Prop where
  ex : ∃ t q ys, v = .ref t ∧ H t = some (.tup [.ref q, .str (PyData.list ((rows.take i).map rowD3)).shown]) ∧ H q = some (.lst ys) ∧ DpAll K H ys ((rows.take i).map rowD3) ∧ q ≠ F ∧ q ≠ l ∧ q ≠ hp
def HeldAll (K : PySem.W.Frag) (F l hp : Addr) (rows : List Row) (H : Hp) (hv : List V) : Prop := ∀ (i : Nat) (v : V), hv[i]? = some v → Held K F l hp rows H i v
section
variable {K : PySem.W.Frag} {F l hp : Addr} {rows : List Row}
theorem Held.same {H H' : Hp} {i : Nat} {v : V} (h : Held K F l hp rows H i v) (s : Same H H') : Held K F l hp rows H' i v := by
  obtain ⟨t, q, ys, e, e1, e2, d, n⟩ := h.ex
  exact ⟨t, q, ys, e, s _ _ e1, s _ _ e2, dps_same s _ _ d, n⟩
theorem Held.keep {H H' : Hp} {i : Nat} {v : V} {G : Addr} {zs : List V} (h : Held K F l hp rows H i v) (hG : H G = some (.lst zs)) (g : G = F ∨ G = l ∨ G = hp) (k : Keep G H H') : Held K F l hp rows H' i v := by
  obtain ⟨t, q, ys, e, e1, e2, d, n1, n2, n3⟩ := h.ex
  have nq : q ≠ G := by rcases g with rfl | rfl | rfl <;> assumption
  exact ⟨t, q, ys, e, k _ _ (ne_of e1 hG (by intro z; cases z)) e1, k _ _ nq e2, dps_keep d hG k (noLs_rows _), n1, n2, n3⟩
end
/-- between two rows -/
structure PS8 (K : PySem.W.Frag) (C F c x l hp rp : Addr) (n : Nat) (b : Str) (rows : List Row) (xs : List V) (H0 H : Hp) (j m : Nat) : Prop where
  bk : BookAt K C H x l b (rows.take j)
  hd : ∃ hv, H hp = some (.lst hv) ∧ hv.length = m ∧ HeldAll K F l hp rows H hv
  tape : Tape H F c n
  keep : Keep F H0 H
section
variable {K : PySem.W.Frag} {C F c x l hp rp : Addr} {n : Nat} {b : Str} {rows : List Row} {xs : List V} {H0 H : Hp} {j m : Nat}
theorem PS8.same {H' : Hp} (h : PS8 K C F c x l hp rp n b rows xs H0 H j m) (s : Same H H') : PS8 K C F c x l hp rp n b rows xs H0 H' j m := by
  obtain ⟨hv, e, el, h1⟩ := h.hd
  exact ⟨h.bk.same s, ⟨hv, s _ _ e, el, fun i v ev => (h1 i v ev).same s⟩, h.tape.same s, fun z o nz ez => s _ _ (h.keep z o nz ez)⟩
theorem PS8.drawn {H' : Hp} {n' : Nat} (h : PS8 K C F c x l hp rp n b rows xs H0 H j m) (nl : l ≠ F) (nh : hp ≠ F) (k : Keep F H H') (t : Tape H' F c n') : PS8 K C F c x l hp rp n' b rows xs H0 H' j m := by
  obtain ⟨hv, e, el, h1⟩ := h.hd
  obtain ⟨yt, eyt⟩ := h.tape.tape
  exact ⟨h.bk.keep eyt nl k, ⟨hv, k _ _ nh e, el, fun i v ev => (h1 i v ev).keep eyt (.inl rfl) k⟩, t, h.keep.trans k⟩
end
section
variable {P : Program} {w : World} {K : PySem.W.Frag} {mg : Str → Option Value} {base : Heap} (T : Ev K mg)
theorem okBookB : FnOk P w K mg base CX0 1 T.fBook___eq__ T.fdBook___eq__ ["self", "other"] (spEqB (DBk K T.CBook)) := by
  refine (okBook___eq__ T).imp fun vs H Q E h => ?_
  obtain ⟨x, y, b, rfl, ⟨p, l, q, m, b1, b2, rows, ss, rfl, rfl, h1, h2, o1, o2, l1, l2, hb, _⟩, hq⟩ := h
  exact ⟨p, l, .ref q, b1, rows, rfl, h1, o1, l1, .inl ⟨q, m, b2, ss, rfl, h2, o2, l2, by rw [← hb]; exact hq _ same_refl⟩⟩
theorem eqBkA {H : Hp} {p l o m : Addr} {b c : Str} {rows ss : List Row} {Q : VK} (h1 : BookAt K T.CBook H p l b rows) (h2 : BookAt K T.CBook H o m c ss) (o1 : ∀ r ∈ rows, RowOk r) (o2 : ∀ r ∈ ss, RowOk r) (l1 : rows.length ≤ 300) (l2 : ss.length ≤ 300)
    (q0 : Q (.bl (decide (b = c) && decide (rows = ss))) H) : rOwnY K T.CBook (spBkEqA K T.CBook) E0 id (.ref p) (.ref o) H Q := by
  obtain ⟨dx, e1⟩ := h1.ob
  exact ⟨p, dx, _, _, rfl, e1, isBook T h2, T.nfBook, p, l, .ref o, b, rows, rfl, h1, o1, l1, .inl ⟨o, m, c, ss, rfl, h2, o2, l2, q0⟩⟩
theorem neBkA {H : Hp} {p l o m : Addr} {b c : Str} {rows ss : List Row} {Q : VK} (h1 : BookAt K T.CBook H p l b rows) (h2 : BookAt K T.CBook H o m c ss) (o1 : ∀ r ∈ rows, RowOk r) (o2 : ∀ r ∈ ss, RowOk r) (l1 : rows.length ≤ 300) (l2 : ss.length ≤ 300)
    (q0 : Q (.bl (!(decide (b = c) && decide (rows = ss)))) H) : rOwnY K T.CBook (spBkEqA K T.CBook) E0 QNot (.ref p) (.ref o) H Q := by
  obtain ⟨dx, e1⟩ := h1.ob
  exact ⟨p, dx, _, _, rfl, e1, isBook T h2, T.nfBook, p, l, .ref o, b, rows, rfl, h1, o1, l1, .inl ⟨o, m, c, ss, rfl, h2, o2, l2, _, rfl, q0⟩⟩
theorem eqOthA {H : Hp} {p l : Addr} {y : V} {b : Str} {rows : List Row} {Q : VK} (h1 : BookAt K T.CBook H p l b rows) (o1 : ∀ r ∈ rows, RowOk r) (l1 : rows.length ≤ 300) (ty : TyS K T.CBook H y)
    (q0 : Q (.bl false) H) : rOwnY K T.CBook (spBkEqA K T.CBook) E0 id (.ref p) y H Q := by
  obtain ⟨dx, e1⟩ := h1.ob
  obtain ⟨t, ty, hk, hn⟩ := ty H same_refl
  exact ⟨p, dx, _, t, rfl, e1, ty, hn, p, l, y, b, rows, rfl, h1, o1, l1, .inr ⟨t, ty, hk, q0⟩⟩
theorem tysN {H : Hp} : TyS K T.CBook H .non := fun _ _ => ⟨_, .base .non, kit_no T.icBook T.tyBook T.kitBook_NoneType, not_first T.kitBook_NoneType⟩
theorem tysS {H : Hp} (z : Str) : TyS K T.CBook H (.str z) := fun _ _ => ⟨_, .base (.str z), kit_no T.icBook T.tyBook T.kitBook_str, not_first T.kitBook_str⟩
theorem tysI {H : Hp} (i : Int) : TyS K T.CBook H (.int i) := fun _ _ => ⟨_, .base (.int i), kit_no T.icBook T.tyBook T.kitBook_int, not_first T.kitBook_int⟩
theorem tysL {H : Hp} {p : Addr} {xs : List V} (e : H p = some (.lst xs)) : TyS K T.CBook H (.ref p) := fun _ s => ⟨_, .base (.lst (s _ _ e)), kit_no T.icBook T.tyBook T.kitBook_list, not_first T.kitBook_list⟩
/-- such Books as are other ones -/
def OutB (K : PySem.W.Frag) (C : Addr) (H : Hp) (x : Addr) (b : Str) (rows : List Row) (v : V) : Prop := ∃ x2 l2 b2 rows2, v = .ref x2 ∧ BookAt K C H x2 l2 b2 rows2 ∧ (∀ r ∈ rows2, RowOk r) ∧ rows2.length ≤ 300 ∧ (decide (b = b2) && decide (rows = rows2)) = false ∧ x2 ≠ x
theorem ok_law : FnOkG P w K mg base CX0 12 T.flaw T.fdlaw ["_law_script"] (spLaw K) := by
  refine okG T.Flaw scLaw (fun vs H Q E h => ?_) (fun cdv A outer s H vs Q E gd hr h => ?_)
  · obtain ⟨a, ns, rfl, _⟩ := h
    rfl
  · obtain ⟨a, ns, rfl, hS, hlen, q⟩ := h
    refine ⟨_,
      (pss_cons (ps_set (i := 1) scLaw.nd rfl (.inl rfl) (pe_call (ok_law_feed T) (hr.mono (by decide)) (by rfl) T.g_law_feed T.F_law_feed.kp T.b_law_feed .nil pass0 (pa_cons (pv 0) pa_nil)))
      (pss_cons (ps_for PassesOwn.never rfl (pi_range1 (by rfl) T.mrange (pa_cons pe_int pa_nil)) (pg_name (i := 2) scLaw.nd rfl (.inl rfl))
      (pss_cons (ps_par (i := 3) (j := 4) rfl scLaw.nd rfl rfl (by decide) rfl rfl (pa_cons (pe_ix ix_list (pe_lst (pa_cons pe_str (pa_cons pe_str pa_nil))) (pe_call (ok_law_draw T) (hr.mono (by decide)) (by rfl) T.g_law_draw T.F_law_draw.kp T.b_law_draw .nil pass0 (pa_cons (pv 1) (pa_cons pe_int pa_nil))) (fun _ _ => rfl)) (pa_cons (pe_call (ok_law_names T) (hr.mono (by decide)) (by rfl) T.g_law_names T.F_law_names.kp T.b_law_names .nil pass0 (pa_cons (pv 1) (pa_cons pe_int pa_nil))) pa_nil)) (by rfl))
      (pss_cut (ps_set (i := 5) scLaw.nd rfl (.inl rfl) (pe_call (ok_law_rows T) (hr.mono (by decide)) (by rfl) T.g_law_rows T.F_law_rows.kp T.b_law_rows .nil pass0 (pa_cons (pv 1) (pa_cons (pv 4) (pa_cons (pe_call (ok_law_draw T) (hr.mono (by decide)) (by rfl) T.g_law_draw T.F_law_draw.kp T.b_law_draw .nil pass0 (pa_cons (pv 1) (pa_cons pe_int pa_nil))) pa_nil)))))
      (pss_cut (ps_par (i := 6) (j := 7) rfl scLaw.nd rfl rfl (by decide) rfl rfl (pa_cons (pe_makeK0 (mk_Book T) (okBook___init__ T) (hr.mono (by decide)) (by rfl) T.gCBook (kb_Book___init___1_bank T) pass0 (pk_cons (pv 3) pk_nil)) (pa_cons (pe_lst pa_nil) pa_nil)) (by rfl))
      (pss_cut (ps_for PassesOwn.never rfl (pi_range1 (by rfl) T.mrange (pa_cons (pe_callB call_len_seq (by rfl) T.mlen PySem.boot_len (pa_cons (pv 5) pa_nil)) pa_nil)) (pg_name (i := 8) scLaw.nd rfl (.inl rfl))
      (pss_cut (ps_asg (pe_ix ix_list (pv 5) (pv 8) (fun _ _ => rfl)) (pg_tup rfl (pgs_cons (pg_name (i := 9) scLaw.nd rfl (.inl rfl)) (pgs_cons (pg_name (i := 10) scLaw.nd rfl (.inl rfl)) (pgs_cons (pg_name (i := 11) scLaw.nd rfl (.inl rfl)) pgs_nil)))))
      (pss_cut (ps_expr (pe_bm PySem.F.plainAttrs_list PySem.F.slot_list_append PySem.F.type_list_append mt_append (pv 7) (pa_cons (pe_tup (pa_cons (pe_meth0 (pv 6) (cl_Book T) (mt_Book_rows T) (okBook_rows T) (hr.mono (by decide)) T.bBook_rows .nil pass0) (pa_cons (pe_callB (call_reprD gd hr) (by rfl) T.mrepr (by decide +kernel) (pa_cons (pe_slice sl_list (pv 5) po_none (po_some (pv 8))) pa_nil)) pa_nil))) pa_nil)))
      (pss_cut (ps_if (PW.pt (pw_or (pt_not (pt_val (pe_callG (ok_law_looks T) gd (hr.mono (by decide)) (by rfl) T.g_law_looks T.F_law_looks.kp T.b_law_looks .nil pass0 (pa_cons (pv 6) (pa_cons (pv 3) (pa_cons (pe_slice sl_list (pv 5) po_none (po_some (pv 8))) pa_nil)))))) (pw_or1 (pt_cmpR op_notN (pe_methA0 (E := fun _ => E0) (pv 6) (cl_Book T) (mt_Book_write T) (okBook_write T) (hr.mono (by decide)) (kb_Book_write_1_minute_word_name T) (fun _ _ _ _ _ _ _ h => h.elim) (by exact (pk_cons (pv 9) (pk_cons (pv 10) (pk_cons (pv 11) pk_nil))))) pe_non (nomark _)))))
      (pss_one (ps_ret pe_bl))
      pss_nil)
      (pss_one (ps_if (pt_cmpR op_gt (pv 9) pe_int (nomark _))
      (pss_cut (ps_set (i := 12) scLaw.nd rfl (.inl rfl) (pe_call (ok_law_backward T) (hr.mono (by decide)) (by rfl) T.g_law_backward T.F_law_backward.kp T.b_law_backward .nil pass0 (pa_cons (pv 6) (pa_cons (pe_op op_sub (pe_op op_sub (pv 9) pe_int) (pe_call (ok_law_draw T) (hr.mono (by decide)) (by rfl) T.g_law_draw T.F_law_draw.kp T.b_law_draw .nil pass0 (pa_cons (pv 1) (pa_cons (pv 9) pa_nil)))) pa_nil))))
      (pss_one (ps_if (pt_cmpR (op_neD hr.units) (pv 12) (pe_tup (pa_cons (pv 9) (pa_cons pe_bl (pa_cons pe_bl pa_nil)))) (nomark _))
      (pss_one (ps_ret pe_bl))
      pss_nil)))
      pss_nil))))))
      (pss_cut (ps_if (PW.pt (pw_or (pt_not (pt_val (pe_callG (ok_law_looks T) gd (hr.mono (by decide)) (by rfl) T.g_law_looks T.F_law_looks.kp T.b_law_looks .nil pass0 (pa_cons (pv 6) (pa_cons (pv 3) (pa_cons (pv 5) pa_nil)))))) (pw_or1 (pt_cmpR (op_neD hr.units) (pe_lc (own := [("_law_told", 12), ("_law_kept", 17)]) (g := gTup K 2 (gCons (gName 12) (gCons (gName 17) gNil)))  rfl scLaw.nd (pi_list (pv 7)) (blkOk_by (N := NLaw) (own := [("_law_told", 12), ("_law_kept", 17)]) (sc := defScope sLaw) (by decide +kernel)) (fun _ _ _ _ _ => pg_tup rfl (pgs_cons (pg_name (i := 12) scLaw.nd rfl (Or.inl rfl)) (pgs_cons (pg_name (i := 17) scLaw.nd rfl (Or.inl rfl)) pgs_nil))) (fun _ _ _ _ _ => pts_one (pt_cmpR op_ne (pe_callB (r := rReprD K) (call_reprD gd hr) (by rfl) T.mrepr (by decide +kernel) (pa_cons (pv 12) pa_nil)) (pv 17) (nomark _))) (fun _ _ _ _ _ => (pv 17))) (pe_lst pa_nil) (nomark _)))))
      (pss_one (ps_ret pe_bl))
      pss_nil)
      (pss_cut (ps_set (i := 13) scLaw.nd rfl (.inl rfl) (pe_call (ok_law_otherwise T) (hr.mono (by decide)) (by rfl) T.g_law_otherwise T.F_law_otherwise.kp T.b_law_otherwise .nil pass0 (pa_cons (pv 1) (pa_cons (pv 3) (pa_cons (pv 5) pa_nil)))))
      (pss_cut (ps_for PassesOwn.never rfl (pi_list (pv 13)) (pg_tup rfl (pgs_cons (pg_name (i := 14) scLaw.nd rfl (.inl rfl)) (pgs_cons (pg_name (i := 15) scLaw.nd rfl (.inl rfl)) pgs_nil)))
      (pss_one (ps_if (PW.pt (pw_or (pt_cmpR op_ne (pe_cmpR (op_eqY (mt_Book___eq__ T).at_ (mt_Book___eq__ T).fn (okBook___eq__ T) T.bBook___eq__ (hr.mono (by decide)) pass0) (pv 6) (pv 14) (nomark _)) (pv 15) (nomark _)) (pw_or (pt_cmpR op_ne (pe_cmpR (op_eqY (mt_Book___eq__ T).at_ (mt_Book___eq__ T).fn (okBook___eq__ T) T.bBook___eq__ (hr.mono (by decide)) pass0) (pv 14) (pv 6) (nomark _)) (pv 15) (nomark _)) (pw_or1 (pt_cmpR op_eq (pe_cmpR (op_neY (mt_Book___eq__ T).at_ (mt_Book___eq__ T).fn T.hmBook T.neBook (okBook___eq__ T) T.bBook___eq__ (hr.mono (by decide)) pass0) (pv 6) (pv 14) (nomark _)) (pv 15) (nomark _))))))
      (pss_one (ps_ret pe_bl))
      pss_nil)))
      (pss_cut (ps_set (i := 16) scLaw.nd rfl (.inl rfl) (pe_op op_cat (pe_lc (own := [("_law_other", 14), ("_law_same", 15)]) (g := gTup K 2 (gCons (gName 14) (gCons (gName 15) gNil)))  rfl scLaw.nd (pi_list (pv 13)) (blkOk_by (N := NLaw) (own := [("_law_other", 14), ("_law_same", 15)]) (sc := defScope sLaw) (by decide +kernel)) (fun _ _ _ _ _ => pg_tup rfl (pgs_cons (pg_name (i := 14) scLaw.nd rfl (Or.inl rfl)) (pgs_cons (pg_name (i := 15) scLaw.nd rfl (Or.inl rfl)) pgs_nil))) (fun _ _ _ _ _ => pts_one (pt_not (pt_val (pv 15)))) (fun _ _ _ _ _ => (pv 14))) (pe_lst (pa_cons pe_non (pa_cons (pe_callTy (call_strOwn (mt_Book___str__ T).at_ (mt_Book___str__ T).fn (okBook___str__ T) T.bBook___str__ (hr.mono (by decide)) pass0) (by rfl) T.mstr (by decide +kernel) (pa_cons (pv 6) pa_nil)) (pa_cons (pv 5) (pa_cons (pv 3) (pa_cons (pe_callB call_len_seq (by rfl) T.mlen PySem.boot_len (pa_cons (pv 5) pa_nil)) pa_nil))))))))
      (pss_one (ps_if (PW.pt (pw_or (pt_cmpR (op_inX monMix (eqB_or (eqB_ins dokBk (mt_Book___eq__ T).at_ (mt_Book___eq__ T).fn T.nfBook (okBookB T) T.bBook___eq__ pass0) (eqB_oth (mt_Book___eq__ T).at_ (mt_Book___eq__ T).fn ⟨T.subBook_NoneType, T.subBook_int, T.subBook_str, T.subBook_list, T.subBook_tuple, T.subBook_dict⟩ (okBook___eq__ T) T.bBook___eq__ pass0 hspBk)) (hr.mono (by decide))) (pv 6) (pv 16) (by rfl)) (pw_or (pt_cmpR (op_eqY (mt_Book___eq__ T).at_ (mt_Book___eq__ T).fn (okBook___eq__ T) T.bBook___eq__ (hr.mono (by decide)) pass0) (pv 6) (pv 5) (nomark _)) (pw_or (pt_not (pt_cmpR (op_inX monMix (eqB_or (eqB_ins dokBk (mt_Book___eq__ T).at_ (mt_Book___eq__ T).fn T.nfBook (okBookB T) T.bBook___eq__ pass0) (eqB_oth (mt_Book___eq__ T).at_ (mt_Book___eq__ T).fn ⟨T.subBook_NoneType, T.subBook_int, T.subBook_str, T.subBook_list, T.subBook_tuple, T.subBook_dict⟩ (okBook___eq__ T) T.bBook___eq__ pass0 hspBk)) (hr.mono (by decide))) (pv 6) (pe_op op_cat (pv 16) (pe_lst (pa_cons (pv 6) pa_nil))) (by rfl))) (pw_or1 (pt_cmpR (op_notInX monMix (eqB_or (eqB_ins dokBk (mt_Book___eq__ T).at_ (mt_Book___eq__ T).fn T.nfBook (okBookB T) T.bBook___eq__ pass0) (eqB_oth (mt_Book___eq__ T).at_ (mt_Book___eq__ T).fn ⟨T.subBook_NoneType, T.subBook_int, T.subBook_str, T.subBook_list, T.subBook_tuple, T.subBook_dict⟩ (okBook___eq__ T) T.bBook___eq__ pass0 hspBk)) (hr.mono (by decide))) (pe_ix ix_tup (pe_ix ix_list (pv 13) pe_int (fun _ _ => rfl)) pe_int (fun _ _ => rfl)) (pe_lst (pa_cons (pv 6) pa_nil)) (by rfl)))))))
      (pss_one (ps_ret pe_bl))
      pss_nil)))))))))))
      (pss_one (ps_ret pe_bl))))
      , ?_⟩
    walk_at "s"
    refine ⟨a, ns, rfl, hS, hlen, fun tp c H1 _ _ s01 T1 => ?_⟩
    walk_at "s"
    refine for_range (lo := 0) (n := 2) (fun i σ H2 => ∃ (w2 w3 w4 w5 w6 w7 w8 w9 w10 w11 w12 w13 w14 w15 w16 w17 : Option V), σ = [some (.ref a), some (.ref tp), w2, w3, w4, w5, w6, w7, w8, w9, w10, w11, w12, w13, w14, w15, w16, w17] ∧ Tape H2 tp c (200 * i))
      ⟨_, _, _, _, _, _, _, _, _, _, _, _, _, _, _, _, rfl, T1⟩ ?_ ?_
    · rintro i σ H2 hi ⟨w2, w3, w4, w5, w6, w7, w8, w9, w10, w11, w12, w13, w14, w15, w16, w17, rfl, T2⟩
      walk_at "s"
      intro lo hlo
      walk_at "s"
      refine dr 2 (T2.new hlo) (by omega) (by omega) (by omega) fun d1 H3 d10 d11 T3 k3 => ?_
      have el3 : H3 lo = some (.lst [.str "near", .str "far"]) := k3 _ _ (T2.ne hlo) upd_same
      obtain ⟨b, eb, hb⟩ : ∃ b : Str, [V.str "near", V.str "far"][d1.toNat]? = some (.str b) ∧ IsBank b := by
        have : d1.toNat = 0 ∨ d1.toNat = 1 := by omega
        rcases this with z | z <;> rw [z]
        · exact ⟨"near", rfl, .inl rfl⟩
        · exact ⟨"far", rfl, .inr rfl⟩
      have hb10 : b.length ≤ 10 := by rcases hb with rfl | rfl <;> decide
      refine i_ixLe d1.toNat (SqL.of el3) (by omega) eb ?_
      walk_at "s"
      refine ⟨tp, c, 4, _, rfl, by omega, by omega, T3, fun np zs H4 zl hz znd enp nnp hnp T4 k4 => ?_⟩
      walk_at "s"
      refine ⟨fun σ H' => ∃ (rp : Addr) (xs : List V) (rows : List Row), rows.length ≤ 20 ∧ GoodRows rows ∧ σ = [some (.ref a), some (.ref tp), some (.int (0 + (i : Int))), some (.str b), some (.ref np), some (.ref rp), w6, w7, w8, w9, w10, w11, w12, w13, w14, w15, w16, w17] ∧ H' rp = some (.lst xs) ∧ DpAll K H' xs (rows.map rowD3) ∧ rp ≠ tp ∧ Tape H' tp c (200 * i + 120), ?_, ?_⟩
      · walk_at "s"
        refine dr 21 T4 (by omega) (by omega) (by omega) fun d H6 d0 d1 T6 k6 => ?_
        obtain ⟨m, rfl⟩ := Int.eq_ofNat_of_zero_le d0
        walk_at "s"
        refine ⟨tp, c, np, zs, m, _, rfl, by omega, by omega, T6, k6 _ _ nnp enp, nnp, by omega, by omega, hz, fun rp xs rows H7 hl hg erp hd nrp hrp T7 k7 => ?_⟩
        walk_at "s"
        exact ⟨rp, xs, rows, by omega, hg, rfl, erp, hd, nrp, T7.mono (by omega)⟩
      rintro σ H5 ⟨rp, xs, rows, hrl, hg, rfl, erp, hd, nrp, T5⟩
      have hok : ∀ r ∈ rows, RowOk r := fun r hr => (hg.1 r hr).1
      have hxl := rows_len hd
      obtain ⟨yt5, eyt5⟩ := T5.tape
      have okt : ∀ j, OkD (.list ((rows.take j).map rowD3)) 2 100000 := fun j => okd_rows (fun r hr => hok r (List.mem_of_mem_take hr)) (by rw [List.length_take]; omega)
      -- a Book and what is held
      refine ⟨fun σ H' => ∃ (x l hp : Addr), σ = [some (.ref a), some (.ref tp), some (.int (0 + (i : Int))), some (.str b), some (.ref np), some (.ref rp), some (.ref x), some (.ref hp), w8, w9, w10, w11, w12, w13, w14, w15, w16, w17] ∧ PS8 K T.CBook tp c x l hp rp (200 * i + 120) b rows xs H5 H' 0 0 ∧ H5 l = none ∧ H5 hp = none ∧ l ≠ hp ∧ H5 x = none, ?_, ?_⟩
      · walk_at "s"
        intro x dx hx hdx ne
        refine ⟨x, dx, b, rfl, upd_same, fun l H6 hl1 hb6 k6 => ⟨rfl, ?_⟩⟩
        have s6 : Same H5 H6 := fun y o e => k6 _ _ (ne_of_none e hx) (by rw [upd_ne (ne_of_none e hx), upd_ne (ne_of_none e hdx)]; exact e)
        have hl5 : H5 l = none := mk_none hl1 hdx
        obtain ⟨y1, ey1⟩ := hb6.nep
        walk_at "s"
        intro hp hhp
        have st := same_upd (o := .lst []) hhp
        walk_at "s"
        refine ⟨x, l, hp, rfl, ⟨hb6.same st, ⟨[], upd_same, rfl, fun i v e => by cases e⟩, (T5.same s6).same st, fun z o nz ez => st _ _ (s6 _ _ ez)⟩, hl5, same_none s6 hhp, ne_of_none ey1 hhp, hx⟩
      rintro σ H6 ⟨x, l, hp, rfl, ps6, hl5, hhp5, nlh, hx5⟩
      have nlt : l ≠ tp := T5.ne hl5
      have nlc : l ≠ c := T5.nec hl5
      have nht : hp ≠ tp := T5.ne hhp5
      have nhc : hp ≠ c := T5.nec hhp5
      have row5 : ∀ H', Keep tp H5 H' → H' rp = some (.lst xs) ∧ DpAll K H' xs (rows.map rowD3) := fun H' k => ⟨k _ _ nrp erp, dps_keep hd eyt5 k (noLs_rows rows)⟩
      refine ⟨fun σ H' => ∃ (w8 w9 w10 w11 w12 : Option V), σ = [some (.ref a), some (.ref tp), some (.int (0 + (i : Int))), some (.str b), some (.ref np), some (.ref rp), some (.ref x), some (.ref hp), w8, w9, w10, w11, w12, w13, w14, w15, w16, w17] ∧ PS8 K T.CBook tp c x l hp rp (200 * i + 150) b rows xs H5 H' rows.length rows.length, ?_, ?_⟩
      · walk_at "s"
        refine ⟨rp, _, rfl, .inl (SqL.of (row5 _ ps6.keep).1), ?_⟩
        rw [hxl]
        walk_at "s"
        refine for_range (lo := 0) (n := rows.length) (fun j σ H' => ∃ (w8 w9 w10 w11 w12 : Option V), σ = [some (.ref a), some (.ref tp), some (.int (0 + (i : Int))), some (.str b), some (.ref np), some (.ref rp), some (.ref x), some (.ref hp), w8, w9, w10, w11, w12, w13, w14, w15, w16, w17] ∧ PS8 K T.CBook tp c x l hp rp (200 * i + 120 + j) b rows xs H5 H' j j)
          ⟨_, _, _, _, _, rfl, ps6⟩ ?_ ?_
        · rintro j σ H7 hj ⟨w8, w9, w10, w11, w12, rfl, ps7⟩
          obtain ⟨r, er⟩ : ∃ r, rows[j]? = some r := ⟨rows[j], List.getElem?_eq_getElem hj⟩
          have okr := hok r (List.mem_of_getElem? er)
          have ej : (0 : Int) + (j : Int) = (j : Int) := by omega
          refine i_name ?_
          refine ⟨fun σ H' => σ = [some (.ref a), some (.ref tp), some (.int (0 + (i : Int))), some (.str b), some (.ref np), some (.ref rp), some (.ref x), some (.ref hp), some (.int (0 + (j : Int))), some (.int (r.1 : Nat)), some (.str r.2.1), some (.str r.2.2), w12, w13, w14, w15, w16, w17] ∧ H' = H7, ?_, ?_⟩
          · walk_at "s"
            obtain ⟨e1, e2⟩ := row5 _ ps7.keep
            obtain ⟨v, ev⟩ : ∃ v, xs[j]? = some v := ⟨xs[j], List.getElem?_eq_getElem (by omega)⟩
            obtain ⟨t, r', rfl, er', hrt⟩ := rows_at e2 ev
            obtain rfl : r = r' := Option.some.inj (er.symm.trans er')
            refine i_ixLe j (SqL.of e1) ej ev ?_
            refine i_kw hrt rfl ?_
            walk_at "s"
            rfl
          rintro σ H8 ⟨rfl, rfl⟩
          -- held
          refine ⟨fun σ H' => σ = [some (.ref a), some (.ref tp), some (.int (0 + (i : Int))), some (.str b), some (.ref np), some (.ref rp), some (.ref x), some (.ref hp), some (.int (0 + (j : Int))), some (.int (r.1 : Nat)), some (.str r.2.1), some (.str r.2.2), w12, w13, w14, w15, w16, w17] ∧ PS8 K T.CBook tp c x l hp rp (200 * i + 120 + j) b rows xs H5 H' j (j + 1), ?_, ?_⟩
          · obtain ⟨hv, ehv, lhv, hall⟩ := ps7.hd
            walk_at "s"
            refine ⟨.inl ⟨rfl, _, SqL.of ehv⟩, ?_⟩
            walk_at "s"
            obtain ⟨dx, eb⟩ := ps7.bk.ob
            refine ⟨x, dx, _, rfl, eb, bookF_no b l (by decide) (by decide), ?_⟩
            walk_at "s"
            refine ⟨x, l, b, rows.take j, rfl, ps7.bk, fun q1 ys H9 s9 hq1 eq1 dq1 => ?_⟩
            obtain ⟨e1, e2⟩ := row5 _ (ps7.same s9).keep
            walk_at "s"
            refine ⟨rp, xs, rfl, SqL.of e1, fun c1 h1 => ?_⟩
            rw [ej, cut_to (by omega)]
            have s10 := same_upd (o := .lst (xs.take j)) h1
            walk_at "s"
            refine (okt j).rep (.lst (SqL.of upd_same) (rows_take (dps_same s10 _ _ e2) j)) ?_
            walk_at "s"
            intro t ht
            have s11 := same_upd (o := .tup [.ref q1, .str (PyData.list ((rows.take j).map rowD3)).shown]) ht
            walk_at "s"
            have ss := (s9.trans s10).trans s11
            have ps8 := ps7.same ss
            have eh8 := ss _ _ ehv
            have kk : Keep hp (upd (upd H9 c1 (.lst (xs.take j))) t (.tup [.ref q1, .str (PyData.list ((rows.take j).map rowD3)).shown])) (upd (upd (upd H9 c1 (.lst (xs.take j))) t (.tup [.ref q1, .str (PyData.list ((rows.take j).map rowD3)).shown])) hp (.lst (hv ++ [.ref t]))) := fun z o nz ez => by rw [upd_ne nz]; exact ez
            obtain ⟨yt, eyt⟩ := ps7.tape.tape
            refine ⟨hp, hv, .ref t, rfl, rfl, eh8, lt_line (by omega), rfl, ps8.bk.keep eh8 nlh kk, ⟨_, upd_same, by simp [lhv], fun i v ev => ?_⟩, ps8.tape.keepL kk nht.symm nhc.symm, fun z o nz ez => kk _ _ (ne_of_none ez hhp5) (ps8.keep z o nz ez)⟩
            by_cases ci : i < hv.length
            · rw [List.getElem?_append_left ci] at ev
              exact ((hall i v ev).same ss).keep eh8 (.inr (.inr rfl)) kk
            · rw [List.getElem?_append_right (by omega)] at ev
              have hi2 : i - hv.length = 0 := by
                by_cases z : i - hv.length = 0
                · exact z
                · rw [show i - hv.length = (i - hv.length - 1) + 1 by omega] at ev; cases ev
              have : i = j := by omega
              subst this
              rw [hi2] at ev
              cases ev
              have nq1 : q1 ≠ hp := fun z => by rw [z, ehv] at hq1; cases hq1
              have nq2 : q1 ≠ tp := fun z => by rw [z, eyt] at hq1; cases hq1
              have nq3 : q1 ≠ l := fun z => by obtain ⟨y1, e1⟩ := ps7.bk.nep; rw [z, e1] at hq1; cases hq1
              exact ⟨t, q1, ys, rfl, kk _ _ (ne_of upd_same eh8 (by intro z; cases z)) upd_same, kk _ _ nq1 (s11 _ _ (s10 _ _ eq1)), dps_keep (dps_same (s10.trans s11) _ _ dq1) eh8 kk (noLs_rows _), nq2, nq3, nq1⟩
          rintro σ H9 ⟨rfl, ps9⟩
          -- looked at, and written
          refine ⟨fun σ H' => σ = [some (.ref a), some (.ref tp), some (.int (0 + (i : Int))), some (.str b), some (.ref np), some (.ref rp), some (.ref x), some (.ref hp), some (.int (0 + (j : Int))), some (.int (r.1 : Nat)), some (.str r.2.1), some (.str r.2.2), w12, w13, w14, w15, w16, w17] ∧ PS8 K T.CBook tp c x l hp rp (200 * i + 120 + j) b rows xs H5 H' (j + 1) (j + 1), ?_, ?_⟩
          · obtain ⟨e1, e2⟩ := row5 _ ps9.keep
            walk_at "s"
            refine ⟨rp, xs, rfl, SqL.of e1, fun c1 h1 => ?_⟩
            rw [ej, cut_to (by omega)]
            have s10 := same_upd (o := .lst (xs.take j)) h1
            walk_at "s"
            refine ⟨x, l, c1, b, xs.take j, rows.take j, rfl, ps9.bk.same s10, hb10, upd_same, rows_take (dps_same s10 _ _ e2) j, by rw [List.length_take]; omega, fun r hr => hok r (List.mem_of_mem_take hr), fun H11 s11 => ?_⟩
            have ps11 := (ps9.same s10).same s11
            refine ⟨_, rfl, ?_⟩
            walk_at "s"
            obtain ⟨dx, eb⟩ := ps11.bk.ob
            refine ⟨x, dx, _, rfl, eb, bookF_no b l (by decide) (by decide), ?_⟩
            walk_at "s"
            refine ⟨x, l, b, rows.take j, r.1, r.2.1, r.2.2, rfl, ps11.bk, rising_last hg.2 er, by rw [List.length_take]; omega, fun H12 hb12 k12 ly => ?_⟩
            obtain ⟨yl, eyl⟩ := ps11.bk.nep
            obtain ⟨hv, ehv, lhv, hall⟩ := ps11.hd
            have ps12 : PS8 K T.CBook tp c x l hp rp (200 * i + 120 + j) b rows xs H5 H12 (j + 1) (j + 1) := ⟨by rw [List.take_succ, er]; exact hb12, ⟨hv, k12 _ _ nlh.symm ehv, lhv, fun i v ev => (hall i v ev).keep eyl (.inr (.inl rfl)) k12⟩, ps11.tape.keepL k12 nlt.symm nlc.symm, fun z o nz ez => k12 _ _ (ne_of_none ez hl5) (ps11.keep z o nz ez)⟩
            walk_at "s"
            exact ps12
          rintro σ H10 ⟨rfl, ps10⟩
          have hlm : lastM (rows.take (j + 1)) = r.1 := by rw [List.take_succ, er]; exact lastM_snoc _ _
          walk_at "s"
          by_cases c0 : 0 < r.1
          · refine iteT' (decide_eq_true (by omega)) ?_
            refine ⟨fun σ H' => ∃ t12, σ = [some (.ref a), some (.ref tp), some (.int (0 + (i : Int))), some (.str b), some (.ref np), some (.ref rp), some (.ref x), some (.ref hp), some (.int (0 + (j : Int))), some (.int (r.1 : Nat)), some (.str r.2.1), some (.str r.2.2), some (.ref t12), w13, w14, w15, w16, w17] ∧ H' t12 = some (.tup [.int (r.1 : Nat), .bl true, .bl false]) ∧ PS8 K T.CBook tp c x l hp rp (200 * i + 120 + (j + 1)) b rows xs H5 H' (j + 1) (j + 1), ?_, ?_⟩
            · walk_at "s"
              refine dr (r.1 : Nat) ps10.tape (by omega) (by have := (hg.1 r (List.mem_of_getElem? er)).2; omega) (by omega) fun d H11 d0 d1 T11 k11 => ?_
              obtain ⟨d, rfl⟩ := Int.eq_ofNat_of_zero_le d0
              have ps11 := ps10.drawn nlt nht k11 T11
              walk_at "s"
              refine ⟨x, l, b, rows.take (j + 1), r.1 - 1 - d, congrArg (fun z => [V.ref x, V.int z]) (by show (r.1 : Int) - 1 - (d : Int) = ((r.1 - 1 - d : Nat) : Int); omega), ps11.bk, by rw [hlm]; omega, fun t12 H12 s12 et12 => ?_⟩
              rw [hlm] at et12
              walk_at "s"
              have ps12 := ps11.same s12
              exact ⟨ps12.bk, ps12.hd, ps12.tape.mono (by omega), ps12.keep⟩
            rintro σ H11 ⟨t12, rfl, et12, ps11⟩
            walk_at "s"
            intro t ht
            have st := same_upd (o := .tup [.int (r.1 : Nat), .bl true, .bl false]) ht
            have o3 : OkD (.tuple [.int (r.1 : Nat), .bool true, .bool false]) 1 100 := (okd_tup (k := 0) (m := 11) (n := 3) (fun d hd => by
              have := okr.1
              simp only [List.mem_cons, List.not_mem_nil, or_false] at hd
              rcases hd with rfl | rfl | rfl
              · exact okd_int (by omega)
              · exact (okd_bool _).mono (by decide) (by decide)
              · exact (okd_bool _).mono (by decide) (by decide)) (by exact Nat.le_of_ble_eq_true rfl)).mono (by decide) (by decide)
            refine o3.not (.tup (SqT.of (st _ _ et12)) (.cons (.int _) (.cons (.bl _) (.cons (.bl _) .nil)))) (.tup (SqT.of upd_same) (.cons (.int _) (.cons (.bl _) (.cons (.bl _) .nil)))) ?_
            refine ⟨_, rfl, ?_⟩
            refine iteF' rfl ?_
            walk_at "s"
            exact ⟨_, _, _, _, _, rfl, ps11.same st⟩
          · refine iteF' (decide_eq_false (by omega)) ?_
            walk_at "s"
            exact ⟨_, _, _, _, _, rfl, ps10.bk, ps10.hd, ps10.tape.mono (by omega), ps10.keep⟩
        · rintro σ H7 ⟨w8, w9, w10, w11, w12, rfl, ps7⟩
          exact ⟨_, _, _, _, _, rfl, ps7.bk, ps7.hd, ps7.tape.mono (by omega), ps7.keep⟩
      rintro σ H7 ⟨w8, w9, w10, w11, w12, rfl, ps7⟩
      have hb7 := ps7.bk
      rw [List.take_length] at hb7
      obtain ⟨hv, ehv, lhv, hall⟩ := ps7.hd
      have okrows := okd_rows hok (show rows.length ≤ 300 by omega)
      -- all that was told stays
      refine ⟨fun σ H' => σ = [some (.ref a), some (.ref tp), some (.int (0 + (i : Int))), some (.str b), some (.ref np), some (.ref rp), some (.ref x), some (.ref hp), w8, w9, w10, w11, w12, w13, w14, w15, w16, w17] ∧ Same H7 H', ?_, ?_⟩
      · obtain ⟨e1, e2⟩ := row5 _ ps7.keep
        walk_at "s"
        refine ⟨x, l, rp, b, xs, rows, rfl, hb7, hb10, e1, e2, by omega, hok, fun H8 s8 => ?_⟩
        refine ⟨_, rfl, ?_⟩
        walk_at "s"
        have ehv8 := s8 _ _ ehv
        refine ⟨⟨_, SqL.of ehv8⟩, fun D hD => ?_⟩
        refine lc_list (K := K) (a := hp) (xs := hv) (fun j H' => H' D = some (.lst []) ∧ Same H8 H') ⟨upd_same, same_upd hD⟩ (fun j H' _ z => SqL.of (z.2 _ _ ehv8)) ?_ ?_
        · rintro j y H' hy ⟨eD, sj⟩
          obtain ⟨t, q1, ys, rfl, et, eq, dq, _⟩ := (hall j y hy).ex
          have ss := s8.trans sj
          refine ⟨t, _, rfl, SqT.of (ss _ _ et), rfl, ?_⟩
          walk_at "s"
          refine (okt j).rep (.lst (SqL.of (ss _ _ eq)) (dps_same ss _ _ dq)) ?_
          walk_at "s"
          rw [ne_self]
          refine iteF ?_
          exact ⟨eD, sj⟩
        · rintro H' ⟨eD, sj⟩
          walk_at "s"
          intro z hz
          walk_at "s"
          refine ⟨.list [], .list [], .lst (SqL.of (upd_at hz eD)) .nil, .lst (SqL.of upd_same) .nil, ke_shaped_ints [], ke_shaped_ints [], ?_⟩
          rw [show PyData.eqv (.list []) (.list []) = true by decide +kernel]
          walk_at "s"
          exact ((s8.trans sj).trans (same_upd hz))
      rintro σ H8 ⟨rfl, s8⟩
      have ps8 := ps7.same s8
      have hb8 := hb7.same s8
      obtain ⟨dx8, ex8⟩ := hb8.ob
      -- others
      refine ⟨fun σ H' => ∃ op its, σ = [some (.ref a), some (.ref tp), some (.int (0 + (i : Int))), some (.str b), some (.ref np), some (.ref rp), some (.ref x), some (.ref hp), w8, w9, w10, w11, w12, some (.ref op), w14, w15, w16, w17] ∧ OS K T.CBook tp c x op (200 * i + 151) b rows H8 H' its ∧ its.length ≤ 100, ?_, ?_⟩
      · obtain ⟨e1, e2⟩ := row5 _ ps8.keep
        walk_at "s"
        refine ⟨tp, c, rp, x, b, xs, rows, _, rfl, ⟨_, _, _, ex8⟩, hb, by omega, ps8.tape, e1, nrp, e2, by omega, hg, fun op its H9 os hi9 => ?_⟩
        walk_at "s"
        exact ⟨op, its, rfl, os, hi9⟩
      rintro σ H9 ⟨op, its, rfl, os9, hits⟩
      obtain ⟨ys8, eys8⟩ := ps8.tape.tape
      have hb9 := hb8.keep eys8 nlt os9.keep
      obtain ⟨xs9, eo9, ho9⟩ := os9.ls
      -- each of them
      refine ⟨fun σ H' => ∃ (w14 w15 : Option V), σ = [some (.ref a), some (.ref tp), some (.int (0 + (i : Int))), some (.str b), some (.ref np), some (.ref rp), some (.ref x), some (.ref hp), w8, w9, w10, w11, w12, some (.ref op), w14, w15, w16, w17] ∧ Same H9 H', ?_, ?_⟩
      · walk_at "s"
        refine ⟨⟨_, SqL.of eo9⟩, ?_⟩
        refine for_list (K := K) (a := op) (xs := xs9) (fun j σ H' => ∃ (w14 w15 : Option V), σ = [some (.ref a), some (.ref tp), some (.int (0 + (i : Int))), some (.str b), some (.ref np), some (.ref rp), some (.ref x), some (.ref hp), w8, w9, w10, w11, w12, some (.ref op), w14, w15, w16, w17] ∧ Same H9 H')
          ⟨_, _, rfl, same_refl⟩ (fun j σ H' _ ⟨_, _, _, z⟩ => SqL.of (z _ _ eo9)) ?_ ?_
        · rintro j y σ H10 hy ⟨w14, w15, rfl, s10⟩
          have hj : j < xs9.length := (List.getElem?_eq_some_iff.mp hy).1
          obtain ⟨it, eit⟩ : ∃ it, its[j]? = some it := ⟨its[j]'(by rw [← ho9.1]; exact hj), List.getElem?_eq_getElem _⟩
          obtain ⟨t, x2, l2, rfl, et, hb2, _, _, nx⟩ := (ho9.2 j y it hy eit).ex
          have g := os9.good it (List.mem_of_getElem? eit)
          have hbx := hb9.same s10
          have hb2' := hb2.same s10
          refine i_kw (SqT.of (s10 _ _ et)) rfl ?_
          walk_at "s"
          refine eqBkA T hbx hb2' hok g.2.1 (by omega) g.2.2.1 ?_
          rw [← g.2.2.2]
          walk_at "s"
          rw [ne_self]
          refine iteF ?_
          walk_at "s"
          refine eqBkA T hb2' hbx g.2.1 hok g.2.2.1 (by omega) ?_
          rw [show (decide (it.1 = b) && decide (it.2.1 = rows)) = it.2.2 by rw [g.2.2.2, decide_eq_decide.mpr (eq_comm (a := it.1)), decide_eq_decide.mpr (eq_comm (a := it.2.1))]]
          walk_at "s"
          rw [ne_self]
          refine iteF ?_
          walk_at "s"
          refine neBkA T hbx hb2' hok g.2.1 (by omega) g.2.2.1 ?_
          rw [← g.2.2.2]
          walk_at "s"
          refine iteF' (by cases it.2.2 <;> rfl) ?_
          walk_at "s"
          exact s10
        · rintro σ H10 ⟨w14, w15, rfl, s10⟩
          exact ⟨_, _, rfl, s10⟩
      rintro σ H10 ⟨w14, w15, rfl, s10⟩
      have hb10' := hb9.same s10
      have eo10 := s10 _ _ eo9
      -- in lists
      refine ⟨fun σ H' => ∃ (sp : Addr) (zs : List V), σ = [some (.ref a), some (.ref tp), some (.int (0 + (i : Int))), some (.str b), some (.ref np), some (.ref rp), some (.ref x), some (.ref hp), w8, w9, w10, w11, w12, some (.ref op), w14, w15, some (.ref sp), w17] ∧ zs.length ≤ 100 ∧ (∀ v ∈ zs, OutB K T.CBook H' x b rows v) ∧ H' sp = some (.lst (zs ++ [.non, .str (bookS b rows), .ref rp, .str b, .int (rows.length : Nat)])) ∧ Same H10 H', ?_, ?_⟩
      · walk_at "s"
        refine ⟨⟨_, SqL.of eo10⟩, fun D hD => ?_⟩
        refine lc_list (K := K) (a := op) (xs := xs9) (fun j H' => ∃ zs : List V, H' D = some (.lst zs) ∧ zs.length ≤ j ∧ (∀ v ∈ zs, OutB K T.CBook H10 x b rows v) ∧ Same H10 H') ⟨[], upd_same, Nat.zero_le _, fun v hv => (by simp at hv), same_upd hD⟩ (fun j H' _ ⟨_, _, _, _, z⟩ => SqL.of (z _ _ eo10)) ?_ ?_
        · rintro j y H' hy ⟨zs, eD, lz, hz, sj⟩
          have hj : j < xs9.length := (List.getElem?_eq_some_iff.mp hy).1
          have hj2 : xs9.length ≤ 100 := by rw [ho9.1]; exact hits
          obtain ⟨it, eit⟩ : ∃ it, its[j]? = some it := ⟨its[j]'(by rw [← ho9.1]; exact hj), List.getElem?_eq_getElem _⟩
          obtain ⟨t, x2, l2, rfl, et, hb2, _, _, nx⟩ := (ho9.2 j y it hy eit).ex
          have g := os9.good it (List.mem_of_getElem? eit)
          refine ⟨t, _, rfl, SqT.of (sj _ _ (s10 _ _ et)), rfl, ?_⟩
          walk_at "s"
          by_cases cs : it.2.2 = true
          · refine iteF' (by rw [cs]; rfl) ?_
            exact ⟨zs, eD, by omega, hz, sj⟩
          · have cs' : it.2.2 = false := by cases h : it.2.2 with | true => exact absurd h cs | false => rfl
            refine iteT' (by rw [cs']; rfl) ?_
            walk_at "s"
            refine ⟨zs, eD, lt_line (by omega), zs ++ [.ref x2], upd_same, by simp; omega, fun v hv => ?_, app_same hD sj⟩
            rcases List.mem_append.mp hv with hv | hv
            · exact hz v hv
            · rw [List.mem_singleton.mp hv]
              exact ⟨x2, l2, it.1, it.2.1, rfl, hb2.same s10, g.2.1, g.2.2.1, by rw [← g.2.2.2, cs'], nx⟩
        · rintro H' ⟨zs, eD, lz, hz, sj⟩
          have hbj := hb10'.same sj
          obtain ⟨dxj, exj⟩ := hbj.ob
          have hj2 : xs9.length ≤ 100 := by rw [ho9.1]; exact hits
          walk_at "s"
          refine ⟨x, dxj, _, rfl, exj, x, l, b, rows, rfl, hbj, hb10, by omega, hok, fun H11 s11 => ?_⟩
          refine ⟨_, rfl, ?_⟩
          walk_at "s"
          have erp11 : H11 rp = some (.lst xs) := s11 _ _ (sj _ _ (s10 _ _ (os9.keep _ _ nrp (row5 _ ps8.keep).1)))
          refine ⟨rp, xs, rfl, .inl (SqL.of erp11), ?_⟩
          rw [hxl]
          walk_at "s"
          intro z hz2
          have sz := same_upd (o := .lst [.non, .str (bookS b rows), .ref rp, .str b, .int (rows.length : Nat)]) hz2
          refine ⟨D, z, _, _, rfl, rfl, sz _ _ (s11 _ _ eD), upd_same, le_line (by simp; omega), fun sp hsp => ?_⟩
          have ss := same_upd (o := .lst (zs ++ [.non, .str (bookS b rows), .ref rp, .str b, .int (rows.length : Nat)])) hsp
          have st := ((sj.trans s11).trans sz).trans ss
          walk_at "s"
          refine ⟨sp, zs, rfl, by omega, fun v hv => ?_, upd_same, st⟩
          obtain ⟨x2, l2, b2, rows2, e, h1, h2⟩ := hz v hv
          exact ⟨x2, l2, b2, rows2, e, h1.same st, h2⟩
      rintro σ H11 ⟨sp, zs, rfl, lzs, hzs, esp, s11⟩
      have hb11 := hb10'.same s11
      have erp11 : H11 rp = some (.lst xs) := s11 _ _ (s10 _ _ (os9.keep _ _ nrp (row5 _ ps8.keep).1))
      walk_at "s"
      obtain ⟨dx11, ex11⟩ := hb11.ob
      have hDs : ∀ H', Same H11 H' → ∀ v, v ∈ zs ++ [.non, .str (bookS b rows), .ref rp, .str b, .int (rows.length : Nat)] → DOr (DBk K T.CBook) (DOth T.CBook (GBk K T.CBook)) v (.ref x) H' false := by
        intro H' s' v hv
        have hbx := hb11.same s'
        have oth : LeftOk H' v → TyS K T.CBook H' v → DOr (DBk K T.CBook) (DOth T.CBook (GBk K T.CBook)) v (.ref x) H' false := fun lo ty => .inr ⟨rfl, lo, ⟨x, dx11, _, rfl, s' _ _ ex11⟩, x, l, b, rows, rfl, hbx, hok, by omega, ty⟩
        rcases List.mem_append.mp hv with hv | hv
        · obtain ⟨x2, l2, b2, rows2, rfl, h2, o2, n2, hf, nx⟩ := hzs v hv
          refine .inl ⟨x2, l2, x, l, b2, b, rows2, rows, rfl, rfl, h2.same s', hbx, o2, hok, n2, by omega, ?_, fun e => absurd e nx⟩
          rw [← hf, decide_eq_decide.mpr (eq_comm (a := b2)), decide_eq_decide.mpr (eq_comm (a := rows2))]
        · simp only [List.mem_cons, List.not_mem_nil, or_false] at hv
          rcases hv with rfl | rfl | rfl | rfl | rfl
          · exact oth .non (tysN T)
          · exact oth (.str _) (tysS T _)
          · exact oth (.lst (s' _ _ erp11)) (tysL T (s' _ _ erp11))
          · exact oth (.str _) (tysS T _)
          · exact oth (.int _) (tysI T _)
      have self : ∀ H', Same H11 H' → DOr (DBk K T.CBook) (DOth T.CBook (GBk K T.CBook)) (.ref x) (.ref x) H' true := fun H' s' =>
        .inl ⟨x, l, x, l, b, b, rows, rows, rfl, rfl, hb11.same s', hb11.same s', hok, hok, by omega, by omega, by rw [decide_eq_true rfl, decide_eq_true rfl]; rfl, fun _ => rfl⟩
      refine ⟨sp, _, fun _ => false, rfl, esp, fun i v ev => hDs H11 same_refl v (List.mem_of_getElem? ev), .inr ⟨fun _ _ => rfl, fun H12 s12 => ?_⟩⟩
      refine ⟨_, rfl, ?_⟩
      refine iteF' rfl ?_
      walk_at "s"
      refine eqOthA T (hb11.same s12) hok (by omega) (tysL T (s12 _ _ erp11)) ?_
      refine ⟨_, rfl, ?_⟩
      refine iteF' rfl ?_
      walk_at "s"
      intro l1 hl1
      have s13 := s12.trans (same_upd (o := .lst [.ref x]) hl1)
      refine ⟨sp, l1, _, _, rfl, rfl, s13 _ _ esp, upd_same, le_line (by simp; omega), fun y hy => ?_⟩
      have s14 := s13.trans (same_upd (o := .lst ((zs ++ [.non, .str (bookS b rows), .ref rp, .str b, .int (rows.length : Nat)]) ++ [.ref x])) hy)
      refine ⟨y, _, fun i => decide (i = (zs ++ [V.non, .str (bookS b rows), .ref rp, .str b, .int (rows.length : Nat)]).length), rfl, upd_same, fun i v ev => ?_, .inl ⟨(zs ++ [V.non, .str (bookS b rows), .ref rp, .str b, .int (rows.length : Nat)]).length, by simp, decide_eq_true rfl, fun m hm => decide_eq_false (by omega), fun H15 s15 => ?_⟩⟩
      · by_cases ci : i < (zs ++ [V.non, .str (bookS b rows), .ref rp, .str b, .int (rows.length : Nat)]).length
        · rw [List.getElem?_append_left ci] at ev
          show DOr (DBk K T.CBook) (DOth T.CBook (GBk K T.CBook)) _ _ _ (decide _)
          rw [decide_eq_false (by omega)]
          exact hDs _ s14 v (List.mem_of_getElem? ev)
        · have hi2 : i = (zs ++ [V.non, .str (bookS b rows), .ref rp, .str b, .int (rows.length : Nat)]).length := by
            have := (List.getElem?_eq_some_iff.mp ev).1
            rw [List.length_append, List.length_singleton] at this
            omega
          rw [hi2, List.getElem?_append_right (Nat.le_refl _), Nat.sub_self] at ev
          cases ev
          show DOr (DBk K T.CBook) (DOth T.CBook (GBk K T.CBook)) _ _ _ (decide _)
          rw [decide_eq_true hi2]
          exact self _ s14
      refine ⟨_, rfl, ?_⟩
      walk_at "s"
      have s915 := ((s10.trans s11).trans s14).trans s15
      obtain ⟨v0, ev0⟩ : ∃ v, xs9[0]? = some v := ⟨xs9[0]'(by rw [ho9.1]; exact (List.getElem?_eq_some_iff.mp os9.fst).1), List.getElem?_eq_getElem _⟩
      obtain ⟨t0, x0, l0, rfl, et0, hb0, _, _, nx0⟩ := (ho9.2 0 v0 _ ev0 os9.fst).ex
      refine i_ixLe 0 (SqL.of (s915 _ _ eo9)) rfl ev0 ?_
      walk_at "s"
      refine i_ixT0 (SqT.of (s915 _ _ et0)) ?_
      walk_at "s"
      intro l3 hl3
      have s16 := s915.trans (same_upd (o := .lst [.ref x]) hl3)
      have bx := hb9.same s16
      have b0 := hb0.same s16
      refine ⟨l3, _, fun _ => true, rfl, upd_same, fun i v ev => ?_, .inl ⟨0, Nat.zero_lt_one, rfl, fun m hm => absurd hm (Nat.not_lt_zero _), fun H17 s17 => ?_⟩⟩
      · have : v = .ref x := by
          have := List.mem_of_getElem? ev
          simpa using this
        subst this
        exact .inl ⟨x, l, x0, l0, b, b, rows, rows, rfl, rfl, bx, b0, hok, hok, by omega, by omega, by rw [decide_eq_true rfl, decide_eq_true rfl]; rfl, fun _ => rfl⟩
      refine ⟨_, rfl, ?_⟩
      refine iteF' rfl ?_
      walk_at "s"
      exact ⟨_, _, _, _, _, _, _, _, _, _, _, _, _, _, _, _, rfl, ((os9.tape.same s16).same s17).mono (by omega)⟩
    · rintro σ H2 ⟨w2, w3, w4, w5, w6, w7, w8, w9, w10, w11, w12, w13, w14, w15, w16, w17, rfl, T2⟩
      walk_at "s"
      exact q H2
end
set_option maxHeartbeats 0 in
theorem all_mk {l : PySem.W.OpenLaw} {w : World} {K : PySem.W.Frag} {h : Heap} {mg : Str → Option Value} {fa fshow_time f_law_feed f_law_draw f_law_of f_law_names f_law_time f_law_rows f_law_book f_law_text f_law_backward f_law_looks f_law_otherwise flaw fBook___init__ fBook___eq__ fBook___len__ fBook___str__ fBook_write fBook_rows fBackward___init__ CBook CBackward : Addr} (X : K.In h) (G : h.Ns mainGlobals mg) (hfa : mg "law" = some (.ref fa))
    {odshow_time anshow_time od_law_feed an_law_feed od_law_draw an_law_draw od_law_of an_law_of od_law_names an_law_names od_law_time an_law_time od_law_rows an_law_rows od_law_book an_law_book od_law_text an_law_text od_law_backward an_law_backward od_law_looks an_law_looks od_law_otherwise an_law_otherwise odlaw anlaw odBook___init__ anBook___init__ odBook___eq__ anBook___eq__ odBook___len__ anBook___len__ odBook___str__ anBook___str__ odBook_write anBook_write odBook_rows anBook_rows odBackward___init__ anBackward___init__ : Option Addr} {slshow_time sl_law_feed sl_law_draw sl_law_of sl_law_names sl_law_time sl_law_rows sl_law_book sl_law_text sl_law_backward sl_law_looks sl_law_otherwise sllaw slBook___init__ slBook___eq__ slBook___len__ slBook___str__ slBook_write slBook_rows slBackward___init__ : Array (Option Value)} {ocshow_time kVshow_time dcshow_time pmshow_time cdshow_time ctshow_time oc_law_feed kV_law_feed dc_law_feed pm_law_feed cd_law_feed ct_law_feed oc_law_draw kV_law_draw dc_law_draw pm_law_draw cd_law_draw ct_law_draw oc_law_of kV_law_of dc_law_of pm_law_of cd_law_of ct_law_of oc_law_names kV_law_names dc_law_names pm_law_names cd_law_names ct_law_names oc_law_time kV_law_time dc_law_time pm_law_time cd_law_time ct_law_time oc_law_rows kV_law_rows dc_law_rows pm_law_rows cd_law_rows ct_law_rows oc_law_book kV_law_book dc_law_book pm_law_book cd_law_book ct_law_book oc_law_text kV_law_text dc_law_text pm_law_text cd_law_text ct_law_text oc_law_backward kV_law_backward dc_law_backward pm_law_backward cd_law_backward ct_law_backward oc_law_looks kV_law_looks dc_law_looks pm_law_looks cd_law_looks ct_law_looks oc_law_otherwise kV_law_otherwise dc_law_otherwise pm_law_otherwise cd_law_otherwise ct_law_otherwise oclaw kVlaw dclaw pmlaw cdlaw ctlaw ocBook___init__ kVBook___init__ dcBook___init__ pmBook___init__ cdBook___init__ ctBook___init__ ocBook___eq__ kVBook___eq__ dcBook___eq__ pmBook___eq__ cdBook___eq__ ctBook___eq__ ocBook___len__ kVBook___len__ dcBook___len__ pmBook___len__ cdBook___len__ ctBook___len__ ocBook___str__ kVBook___str__ dcBook___str__ pmBook___str__ cdBook___str__ ctBook___str__ ocBook_write kVBook_write dcBook_write pmBook_write cdBook_write ctBook_write ocBook_rows kVBook_rows dcBook_rows pmBook_rows cdBook_rows ctBook_rows ocBackward___init__ kVBackward___init__ dcBackward___init__ pmBackward___init__ cdBackward___init__ ctBackward___init__ : Value} {nmBackward qBackward : Str} {NBackward : Addr} {bsBackward : List Value} {snBackward : List Str} {subBackward : List Value} {abBackward : Bool} {colBackward : Option Bool} {ddBackward : Option Addr} {p0Backward p1Backward p2Backward p3Backward p5Backward : Option Value} {tDAY tHOUR : Tok}
    (aBackward : PySem.W.nsIn K mainGlobals "Backward" = some (some (.ref CBackward)))
    (xlBackward : K.lookup CBackward = some (excClassObj nmBackward qBackward CBackward NBackward bsBackward [.type "RuntimeError", .type "Exception", .type "BaseException", .type "object"] true snBackward subBackward abBackward colBackward ddBackward p0Backward p1Backward p2Backward p3Backward p5Backward "RuntimeError.__new__"))
    (hdBackward : PySem.W.hasDictIn K CBackward = true) (saBackward : PySem.W.findIn K (.ref CBackward) "__setattr__" = some (some (.builtin "object.__setattr__"))) (exBackward : PySem.W.subIn K (.ref CBackward) (.type "BaseException") = some true) (tyBackward : PySem.W.typeIn K (.ref CBackward) = some (.type "type")) (kcBackward : PySem.W.keepIn K (.ref CBackward) = true) (icBackward : PySem.W.isClsIn K CBackward = true) (seBackward : PySem.W.subIn K (.ref CBackward) (.ref CBackward) = some true) (upBackward : PySem.W.subIn K (.ref CBackward) (.type "RuntimeError") = some true)
    (gaBackward : PySem.W.findIn K (.ref CBackward) "__getattribute__" = some (some (.builtin "BaseException.__getattribute__"))) (ggBackward : PySem.W.findIn K (.ref CBackward) "__getattr__" = some none) (haBackward : PySem.W.findIn K (.ref CBackward) "__class__" = some (some (.builtin "object.__class__"))) (hnBackward : PySem.W.specialIn K (.builtin "object.__class__") "__get__" = some (some (.builtin "getset_descriptor.__get__"))) (htBackward : PySem.W.takesIn K (.builtin "object.__class__") = some true) (hmBackward : PySem.W.mroIn K CBackward (.type "object") = some true)
    (nBackward_minute : PySem.W.findIn K (.ref CBackward) "minute" = some none)
    (snBackward_ValueError : PySem.W.subIn K (.ref CBackward) (.type "ValueError") = some false)
    (aBook : PySem.W.nsIn K mainGlobals "Book" = some (some (.ref CBook))) (pgBook : PySem.W.plainGet K CBook Str.empty = true) (hdBook : PySem.W.hasDictIn K CBook = true) (poBook : PySem.W.plainOver K CBook = true) (saBook : PySem.W.findIn K (.ref CBook) "__setattr__" = some (some (.builtin "object.__setattr__"))) (mkBook : PySem.W.makesIn K CBook = true) (kcBook : PySem.W.keepIn K (.ref CBook) = true)
    (haBook : PySem.W.findIn K (.ref CBook) "__class__" = some (some (.builtin "object.__class__"))) (hnBook : PySem.W.specialIn K (.builtin "object.__class__") "__get__" = some (some (.builtin "getset_descriptor.__get__"))) (htBook : PySem.W.takesIn K (.builtin "object.__class__") = some true) (hmBook : PySem.W.mroIn K CBook (.type "object") = some true) (nfBook : PySem.W.notFirst K CBook (.ref CBook) = true)
    (nBook_bank : PySem.W.findIn K (.ref CBook) "bank" = some none)
    (nBook__rows : PySem.W.findIn K (.ref CBook) "_rows" = some none)
    (neBook : PySem.W.findIn K (.ref CBook) "__ne__" = some (some (.builtin "object.__ne__"))) (icBook : PySem.W.isClsIn K CBook = true) (tyBook : PySem.W.typeIn K (.ref CBook) = some (.type "type"))
    (subBook_NoneType : PySem.W.subIn K (.ref CBook) (.type "NoneType") = some false) (kitBook_NoneType : PySem.W.subIn K (.type "NoneType") (.ref CBook) = some false) (ntBook_NoneType : PySem.W.notFirst K CBook (.type "NoneType") = true)
    (subBook_int : PySem.W.subIn K (.ref CBook) (.type "int") = some false) (kitBook_int : PySem.W.subIn K (.type "int") (.ref CBook) = some false) (ntBook_int : PySem.W.notFirst K CBook (.type "int") = true)
    (subBook_str : PySem.W.subIn K (.ref CBook) (.type "str") = some false) (kitBook_str : PySem.W.subIn K (.type "str") (.ref CBook) = some false) (ntBook_str : PySem.W.notFirst K CBook (.type "str") = true)
    (subBook_list : PySem.W.subIn K (.ref CBook) (.type "list") = some false) (kitBook_list : PySem.W.subIn K (.type "list") (.ref CBook) = some false) (ntBook_list : PySem.W.notFirst K CBook (.type "list") = true)
    (subBook_tuple : PySem.W.subIn K (.ref CBook) (.type "tuple") = some false) (kitBook_tuple : PySem.W.subIn K (.type "tuple") (.ref CBook) = some false) (ntBook_tuple : PySem.W.notFirst K CBook (.type "tuple") = true)
    (subBook_dict : PySem.W.subIn K (.ref CBook) (.type "dict") = some false) (kitBook_dict : PySem.W.subIn K (.type "dict") (.ref CBook) = some false) (ntBook_dict : PySem.W.notFirst K CBook (.type "dict") = true)
    (blBook : PySem.W.findIn K (.ref CBook) "__bool__" = some none)
    (fmBook : PySem.W.findIn K (.ref CBook) "__format__" = some (some (.builtin "object.__format__")))
    (aBook___init__ : PySem.W.findIn K (.ref CBook) "__init__" = some (some (.ref fBook___init__))) (iBook___init__ : PySem.W.isFn K (.ref fBook___init__) = true) (lBook___init__ : K.lookup fBook___init__ = some ⟨ocBook___init__, odBook___init__, .func (PySem.W.fnOf "__init__" "Book.__init__" (defArgs sBookInit) (defBody sBookInit) (defScope sBookInit) .none kVBook___init__ dcBook___init__ pmBook___init__ anBook___init__ cdBook___init__ ctBook___init__), slBook___init__⟩) (cBook___init__ : PySem.W.codeIn K cdBook___init__ "Book.__init__" = true) (kBook___init__ : PySem.W.keepIn K (.ref fBook___init__) = true)
    (aBook___eq__ : PySem.W.findIn K (.ref CBook) "__eq__" = some (some (.ref fBook___eq__))) (iBook___eq__ : PySem.W.isFn K (.ref fBook___eq__) = true) (lBook___eq__ : K.lookup fBook___eq__ = some ⟨ocBook___eq__, odBook___eq__, .func (PySem.W.fnOf "__eq__" "Book.__eq__" (defArgs sBookEq) (defBody sBookEq) (defScope sBookEq) .none kVBook___eq__ dcBook___eq__ pmBook___eq__ anBook___eq__ cdBook___eq__ ctBook___eq__), slBook___eq__⟩) (cBook___eq__ : PySem.W.codeIn K cdBook___eq__ "Book.__eq__" = true) (kBook___eq__ : PySem.W.keepIn K (.ref fBook___eq__) = true)
    (aBook___len__ : PySem.W.findIn K (.ref CBook) "__len__" = some (some (.ref fBook___len__))) (iBook___len__ : PySem.W.isFn K (.ref fBook___len__) = true) (lBook___len__ : K.lookup fBook___len__ = some ⟨ocBook___len__, odBook___len__, .func (PySem.W.fnOf "__len__" "Book.__len__" (defArgs sBookLen) (defBody sBookLen) (defScope sBookLen) .none kVBook___len__ dcBook___len__ pmBook___len__ anBook___len__ cdBook___len__ ctBook___len__), slBook___len__⟩) (cBook___len__ : PySem.W.codeIn K cdBook___len__ "Book.__len__" = true) (kBook___len__ : PySem.W.keepIn K (.ref fBook___len__) = true)
    (aBook___str__ : PySem.W.findIn K (.ref CBook) "__str__" = some (some (.ref fBook___str__))) (iBook___str__ : PySem.W.isFn K (.ref fBook___str__) = true) (lBook___str__ : K.lookup fBook___str__ = some ⟨ocBook___str__, odBook___str__, .func (PySem.W.fnOf "__str__" "Book.__str__" (defArgs sBookStr) (defBody sBookStr) (defScope sBookStr) .none kVBook___str__ dcBook___str__ pmBook___str__ anBook___str__ cdBook___str__ ctBook___str__), slBook___str__⟩) (cBook___str__ : PySem.W.codeIn K cdBook___str__ "Book.__str__" = true) (kBook___str__ : PySem.W.keepIn K (.ref fBook___str__) = true)
    (aBook_write : PySem.W.findIn K (.ref CBook) "write" = some (some (.ref fBook_write))) (iBook_write : PySem.W.isFn K (.ref fBook_write) = true) (lBook_write : K.lookup fBook_write = some ⟨ocBook_write, odBook_write, .func (PySem.W.fnOf "write" "Book.write" (defArgs sBookWrite) (defBody sBookWrite) (defScope sBookWrite) .none kVBook_write dcBook_write pmBook_write anBook_write cdBook_write ctBook_write), slBook_write⟩) (cBook_write : PySem.W.codeIn K cdBook_write "Book.write" = true) (kBook_write : PySem.W.keepIn K (.ref fBook_write) = true)
    (aBook_rows : PySem.W.findIn K (.ref CBook) "rows" = some (some (.ref fBook_rows))) (iBook_rows : PySem.W.isFn K (.ref fBook_rows) = true) (lBook_rows : K.lookup fBook_rows = some ⟨ocBook_rows, odBook_rows, .func (PySem.W.fnOf "rows" "Book.rows" (defArgs sBookRows) (defBody sBookRows) (defScope sBookRows) .none kVBook_rows dcBook_rows pmBook_rows anBook_rows cdBook_rows ctBook_rows), slBook_rows⟩) (cBook_rows : PySem.W.codeIn K cdBook_rows "Book.rows" = true) (kBook_rows : PySem.W.keepIn K (.ref fBook_rows) = true)
    (aBackward___init__ : PySem.W.findIn K (.ref CBackward) "__init__" = some (some (.ref fBackward___init__))) (iBackward___init__ : PySem.W.isFn K (.ref fBackward___init__) = true) (lBackward___init__ : K.lookup fBackward___init__ = some ⟨ocBackward___init__, odBackward___init__, .func (PySem.W.fnOf "__init__" "Backward.__init__" (defArgs sBackwardInit) (defBody sBackwardInit) (defScope sBackwardInit) .none kVBackward___init__ dcBackward___init__ pmBackward___init__ anBackward___init__ cdBackward___init__ ctBackward___init__), slBackward___init__⟩) (cBackward___init__ : PySem.W.codeIn K cdBackward___init__ "Backward.__init__" = true) (kBackward___init__ : PySem.W.keepIn K (.ref fBackward___init__) = true)
    (ashow_time : PySem.W.nsIn K mainGlobals "show_time" = some (some (.ref fshow_time))) (lshow_time : K.lookup fshow_time = some ⟨ocshow_time, odshow_time, .func (PySem.W.fnOf "show_time" "show_time" (defArgs sShow) (defBody sShow) (defScope sShow) .none kVshow_time dcshow_time pmshow_time anshow_time cdshow_time ctshow_time), slshow_time⟩) (cshow_time : PySem.W.codeIn K cdshow_time "show_time" = true) (kshow_time : PySem.W.keepIn K (.ref fshow_time) = true)
    (a_law_feed : PySem.W.nsIn K mainGlobals "_law_feed" = some (some (.ref f_law_feed))) (l_law_feed : K.lookup f_law_feed = some ⟨oc_law_feed, od_law_feed, .func (PySem.W.fnOf "_law_feed" "_law_feed" (defArgs sFeed) (defBody sFeed) (defScope sFeed) .none kV_law_feed dc_law_feed pm_law_feed an_law_feed cd_law_feed ct_law_feed), sl_law_feed⟩) (c_law_feed : PySem.W.codeIn K cd_law_feed "_law_feed" = true) (k_law_feed : PySem.W.keepIn K (.ref f_law_feed) = true)
    (a_law_draw : PySem.W.nsIn K mainGlobals "_law_draw" = some (some (.ref f_law_draw))) (l_law_draw : K.lookup f_law_draw = some ⟨oc_law_draw, od_law_draw, .func (PySem.W.fnOf "_law_draw" "_law_draw" (defArgs sDraw) (defBody sDraw) (defScope sDraw) .none kV_law_draw dc_law_draw pm_law_draw an_law_draw cd_law_draw ct_law_draw), sl_law_draw⟩) (c_law_draw : PySem.W.codeIn K cd_law_draw "_law_draw" = true) (k_law_draw : PySem.W.keepIn K (.ref f_law_draw) = true)
    (a_law_of : PySem.W.nsIn K mainGlobals "_law_of" = some (some (.ref f_law_of))) (l_law_of : K.lookup f_law_of = some ⟨oc_law_of, od_law_of, .func (PySem.W.fnOf "_law_of" "_law_of" (defArgs sOf) (defBody sOf) (defScope sOf) .none kV_law_of dc_law_of pm_law_of an_law_of cd_law_of ct_law_of), sl_law_of⟩) (c_law_of : PySem.W.codeIn K cd_law_of "_law_of" = true) (k_law_of : PySem.W.keepIn K (.ref f_law_of) = true)
    (a_law_names : PySem.W.nsIn K mainGlobals "_law_names" = some (some (.ref f_law_names))) (l_law_names : K.lookup f_law_names = some ⟨oc_law_names, od_law_names, .func (PySem.W.fnOf "_law_names" "_law_names" (defArgs sNames) (defBody sNames) (defScope sNames) .none kV_law_names dc_law_names pm_law_names an_law_names cd_law_names ct_law_names), sl_law_names⟩) (c_law_names : PySem.W.codeIn K cd_law_names "_law_names" = true) (k_law_names : PySem.W.keepIn K (.ref f_law_names) = true)
    (a_law_time : PySem.W.nsIn K mainGlobals "_law_time" = some (some (.ref f_law_time))) (l_law_time : K.lookup f_law_time = some ⟨oc_law_time, od_law_time, .func (PySem.W.fnOf "_law_time" "_law_time" (defArgs sTime) (defBody sTime) (defScope sTime) .none kV_law_time dc_law_time pm_law_time an_law_time cd_law_time ct_law_time), sl_law_time⟩) (c_law_time : PySem.W.codeIn K cd_law_time "_law_time" = true) (k_law_time : PySem.W.keepIn K (.ref f_law_time) = true)
    (a_law_rows : PySem.W.nsIn K mainGlobals "_law_rows" = some (some (.ref f_law_rows))) (l_law_rows : K.lookup f_law_rows = some ⟨oc_law_rows, od_law_rows, .func (PySem.W.fnOf "_law_rows" "_law_rows" (defArgs sRows) (defBody sRows) (defScope sRows) .none kV_law_rows dc_law_rows pm_law_rows an_law_rows cd_law_rows ct_law_rows), sl_law_rows⟩) (c_law_rows : PySem.W.codeIn K cd_law_rows "_law_rows" = true) (k_law_rows : PySem.W.keepIn K (.ref f_law_rows) = true)
    (a_law_book : PySem.W.nsIn K mainGlobals "_law_book" = some (some (.ref f_law_book))) (l_law_book : K.lookup f_law_book = some ⟨oc_law_book, od_law_book, .func (PySem.W.fnOf "_law_book" "_law_book" (defArgs sBook) (defBody sBook) (defScope sBook) .none kV_law_book dc_law_book pm_law_book an_law_book cd_law_book ct_law_book), sl_law_book⟩) (c_law_book : PySem.W.codeIn K cd_law_book "_law_book" = true) (k_law_book : PySem.W.keepIn K (.ref f_law_book) = true)
    (a_law_text : PySem.W.nsIn K mainGlobals "_law_text" = some (some (.ref f_law_text))) (l_law_text : K.lookup f_law_text = some ⟨oc_law_text, od_law_text, .func (PySem.W.fnOf "_law_text" "_law_text" (defArgs sText) (defBody sText) (defScope sText) .none kV_law_text dc_law_text pm_law_text an_law_text cd_law_text ct_law_text), sl_law_text⟩) (c_law_text : PySem.W.codeIn K cd_law_text "_law_text" = true) (k_law_text : PySem.W.keepIn K (.ref f_law_text) = true)
    (a_law_backward : PySem.W.nsIn K mainGlobals "_law_backward" = some (some (.ref f_law_backward))) (l_law_backward : K.lookup f_law_backward = some ⟨oc_law_backward, od_law_backward, .func (PySem.W.fnOf "_law_backward" "_law_backward" (defArgs sBackward) (defBody sBackward) (defScope sBackward) .none kV_law_backward dc_law_backward pm_law_backward an_law_backward cd_law_backward ct_law_backward), sl_law_backward⟩) (c_law_backward : PySem.W.codeIn K cd_law_backward "_law_backward" = true) (k_law_backward : PySem.W.keepIn K (.ref f_law_backward) = true)
    (a_law_looks : PySem.W.nsIn K mainGlobals "_law_looks" = some (some (.ref f_law_looks))) (l_law_looks : K.lookup f_law_looks = some ⟨oc_law_looks, od_law_looks, .func (PySem.W.fnOf "_law_looks" "_law_looks" (defArgs sLooks) (defBody sLooks) (defScope sLooks) .none kV_law_looks dc_law_looks pm_law_looks an_law_looks cd_law_looks ct_law_looks), sl_law_looks⟩) (c_law_looks : PySem.W.codeIn K cd_law_looks "_law_looks" = true) (k_law_looks : PySem.W.keepIn K (.ref f_law_looks) = true)
    (a_law_otherwise : PySem.W.nsIn K mainGlobals "_law_otherwise" = some (some (.ref f_law_otherwise))) (l_law_otherwise : K.lookup f_law_otherwise = some ⟨oc_law_otherwise, od_law_otherwise, .func (PySem.W.fnOf "_law_otherwise" "_law_otherwise" (defArgs sOtherwise) (defBody sOtherwise) (defScope sOtherwise) .none kV_law_otherwise dc_law_otherwise pm_law_otherwise an_law_otherwise cd_law_otherwise ct_law_otherwise), sl_law_otherwise⟩) (c_law_otherwise : PySem.W.codeIn K cd_law_otherwise "_law_otherwise" = true) (k_law_otherwise : PySem.W.keepIn K (.ref f_law_otherwise) = true)
    (alaw : PySem.W.nsIn K mainGlobals "law" = some (some (.ref flaw))) (llaw : K.lookup flaw = some ⟨oclaw, odlaw, .func (PySem.W.fnOf "law" "law" (defArgs sLaw) (defBody sLaw) (defScope sLaw) .none kVlaw dclaw pmlaw anlaw cdlaw ctlaw), sllaw⟩) (claw : PySem.W.codeIn K cdlaw "law" = true) (klaw : PySem.W.keepIn K (.ref flaw) = true)
    (aDAY : PySem.W.nsIn K mainGlobals "DAY" = some (some (.int 1440 tDAY)))
    (aHOUR : PySem.W.nsIn K mainGlobals "HOUR" = some (some (.int 60 tHOUR)))
    (zRuntimeError : PySem.W.nsIn K mainGlobals "RuntimeError" = some none)
    (zValueError : PySem.W.nsIn K mainGlobals "ValueError" = some none)
    (zbool : PySem.W.nsIn K mainGlobals "bool" = some none)
    (zdivmod : PySem.W.nsIn K mainGlobals "divmod" = some none)
    (zint : PySem.W.nsIn K mainGlobals "int" = some none)
    (zisinstance : PySem.W.nsIn K mainGlobals "isinstance" = some none)
    (zlen : PySem.W.nsIn K mainGlobals "len" = some none)
    (zlist : PySem.W.nsIn K mainGlobals "list" = some none)
    (zmax : PySem.W.nsIn K mainGlobals "max" = some none)
    (zrange : PySem.W.nsIn K mainGlobals "range" = some none)
    (zrepr : PySem.W.nsIn K mainGlobals "repr" = some none)
    (zstr : PySem.W.nsIn K mainGlobals "str" = some none)
    : ∃ fd : FuncData, (∀ (s : Shared) (v : Value), BindsTo s fd ⟨[v], []⟩ [("_law_script", v)]) ∧ ∀ base : Heap, K.In base → base.Ns mainGlobals mg → FnOkG l.prog w K mg base CX0 12 fa fd ["_law_script"] (spLaw K) := by
  have e := hfa.symm.trans (PySem.W.mg_of X G alaw)
  cases e
  have gshow_time := PySem.W.mg_of X G ashow_time
  have Fshow_time := fun_mk (st := sShow) lshow_time cshow_time kshow_time
  have bshow_time := Fshow_time.binds (ps := ["minute"]) fun _ _ _ _ _ _ us hl => match us, hl with | [_], _ => rfl
  have g_law_feed := PySem.W.mg_of X G a_law_feed
  have F_law_feed := fun_mk (st := sFeed) l_law_feed c_law_feed k_law_feed
  have b_law_feed := F_law_feed.binds (ps := ["_law_script"]) fun _ _ _ _ _ _ us hl => match us, hl with | [_], _ => rfl
  have g_law_draw := PySem.W.mg_of X G a_law_draw
  have F_law_draw := fun_mk (st := sDraw) l_law_draw c_law_draw k_law_draw
  have b_law_draw := F_law_draw.binds (ps := ["_law_feed_here", "_law_many"]) fun _ _ _ _ _ _ us hl => match us, hl with | [_, _], _ => rfl
  have g_law_of := PySem.W.mg_of X G a_law_of
  have F_law_of := fun_mk (st := sOf) l_law_of c_law_of k_law_of
  have b_law_of := F_law_of.binds (ps := ["_law_feed_here", "_law_some"]) fun _ _ _ _ _ _ us hl => match us, hl with | [_, _], _ => rfl
  have g_law_names := PySem.W.mg_of X G a_law_names
  have F_law_names := fun_mk (st := sNames) l_law_names c_law_names k_law_names
  have b_law_names := F_law_names.binds (ps := ["_law_feed_here", "_law_many"]) fun _ _ _ _ _ _ us hl => match us, hl with | [_, _], _ => rfl
  have g_law_time := PySem.W.mg_of X G a_law_time
  have F_law_time := fun_mk (st := sTime) l_law_time c_law_time k_law_time
  have b_law_time := F_law_time.binds (ps := ["_law_moment"]) fun _ _ _ _ _ _ us hl => match us, hl with | [_], _ => rfl
  have g_law_rows := PySem.W.mg_of X G a_law_rows
  have F_law_rows := fun_mk (st := sRows) l_law_rows c_law_rows k_law_rows
  have b_law_rows := F_law_rows.binds (ps := ["_law_feed_here", "_law_names_here", "_law_many"]) fun _ _ _ _ _ _ us hl => match us, hl with | [_, _, _], _ => rfl
  have g_law_book := PySem.W.mg_of X G a_law_book
  have F_law_book := fun_mk (st := sBook) l_law_book c_law_book k_law_book
  have b_law_book := F_law_book.binds (ps := ["_law_side", "_law_rows_here"]) fun _ _ _ _ _ _ us hl => match us, hl with | [_, _], _ => rfl
  have g_law_text := PySem.W.mg_of X G a_law_text
  have F_law_text := fun_mk (st := sText) l_law_text c_law_text k_law_text
  have b_law_text := F_law_text.binds (ps := ["_law_side", "_law_rows_here"]) fun _ _ _ _ _ _ us hl => match us, hl with | [_, _], _ => rfl
  have g_law_backward := PySem.W.mg_of X G a_law_backward
  have F_law_backward := fun_mk (st := sBackward) l_law_backward c_law_backward k_law_backward
  have b_law_backward := F_law_backward.binds (ps := ["_law_book_here", "_law_when"]) fun _ _ _ _ _ _ us hl => match us, hl with | [_, _], _ => rfl
  have g_law_looks := PySem.W.mg_of X G a_law_looks
  have F_law_looks := fun_mk (st := sLooks) l_law_looks c_law_looks k_law_looks
  have b_law_looks := F_law_looks.binds (ps := ["_law_book_here", "_law_side", "_law_rows_here"]) fun _ _ _ _ _ _ us hl => match us, hl with | [_, _, _], _ => rfl
  have g_law_otherwise := PySem.W.mg_of X G a_law_otherwise
  have F_law_otherwise := fun_mk (st := sOtherwise) l_law_otherwise c_law_otherwise k_law_otherwise
  have b_law_otherwise := F_law_otherwise.binds (ps := ["_law_feed_here", "_law_side", "_law_rows_here"]) fun _ _ _ _ _ _ us hl => match us, hl with | [_, _, _], _ => rfl
  have glaw := PySem.W.mg_of X G alaw
  have Flaw := fun_mk (st := sLaw) llaw claw klaw
  have blaw := Flaw.binds (ps := ["_law_script"]) fun _ _ _ _ _ _ us hl => match us, hl with | [_], _ => rfl
  have oxBackward := oex_of PySem.F.excBase_RuntimeError PySem.F.store_RuntimeError xlBackward (by decide +kernel) hdBackward saBackward exBackward tyBackward kcBackward
  have gCBook := PySem.W.mg_of X G aBook
  have FBook___init__ := fun_mk (st := sBookInit) lBook___init__ cBook___init__ kBook___init__
  have bBook___init__ := FBook___init__.binds (ps := ["self", "bank"]) fun _ _ _ _ _ _ us hl => match us, hl with | [_, _], _ => rfl
  have FBook___eq__ := fun_mk (st := sBookEq) lBook___eq__ cBook___eq__ kBook___eq__
  have bBook___eq__ := FBook___eq__.binds (ps := ["self", "other"]) fun _ _ _ _ _ _ us hl => match us, hl with | [_, _], _ => rfl
  have FBook___len__ := fun_mk (st := sBookLen) lBook___len__ cBook___len__ kBook___len__
  have bBook___len__ := FBook___len__.binds (ps := ["self"]) fun _ _ _ _ _ _ us hl => match us, hl with | [_], _ => rfl
  have FBook___str__ := fun_mk (st := sBookStr) lBook___str__ cBook___str__ kBook___str__
  have bBook___str__ := FBook___str__.binds (ps := ["self"]) fun _ _ _ _ _ _ us hl => match us, hl with | [_], _ => rfl
  have FBook_write := fun_mk (st := sBookWrite) lBook_write cBook_write kBook_write
  have bBook_write := FBook_write.binds (ps := ["self", "minute", "word", "name"]) fun _ _ _ _ _ _ us hl => match us, hl with | [_, _, _, _], _ => rfl
  have FBook_rows := fun_mk (st := sBookRows) lBook_rows cBook_rows kBook_rows
  have bBook_rows := FBook_rows.binds (ps := ["self"]) fun _ _ _ _ _ _ us hl => match us, hl with | [_], _ => rfl
  have gCBackward := PySem.W.mg_of X G aBackward
  have FBackward___init__ := fun_mk (st := sBackwardInit) lBackward___init__ cBackward___init__ kBackward___init__
  have bBackward___init__ := FBackward___init__.binds (ps := ["self", "minute"]) fun _ _ _ _ _ _ us hl => match us, hl with | [_, _], _ => rfl
  have mDAY := PySem.W.mg_of X G aDAY
  have mHOUR := PySem.W.mg_of X G aHOUR
  have mRuntimeError := PySem.W.mg_none_of X G zRuntimeError
  have mValueError := PySem.W.mg_none_of X G zValueError
  have mbool := PySem.W.mg_none_of X G zbool
  have mdivmod := PySem.W.mg_none_of X G zdivmod
  have mint := PySem.W.mg_none_of X G zint
  have misinstance := PySem.W.mg_none_of X G zisinstance
  have mlen := PySem.W.mg_none_of X G zlen
  have mlist := PySem.W.mg_none_of X G zlist
  have mmax := PySem.W.mg_none_of X G zmax
  have mrange := PySem.W.mg_none_of X G zrange
  have mrepr := PySem.W.mg_none_of X G zrepr
  have mstr := PySem.W.mg_none_of X G zstr
  exact ⟨_, fun s v => .of_eq rfl, fun base _ _ => ok_law ({ fshow_time := _, fdshow_time := _, Fshow_time := Fshow_time, bshow_time := bshow_time, gshow_time := gshow_time, f_law_feed := _, fd_law_feed := _, F_law_feed := F_law_feed, b_law_feed := b_law_feed, g_law_feed := g_law_feed, f_law_draw := _, fd_law_draw := _, F_law_draw := F_law_draw, b_law_draw := b_law_draw, g_law_draw := g_law_draw, f_law_of := _, fd_law_of := _, F_law_of := F_law_of, b_law_of := b_law_of, g_law_of := g_law_of, f_law_names := _, fd_law_names := _, F_law_names := F_law_names, b_law_names := b_law_names, g_law_names := g_law_names, f_law_time := _, fd_law_time := _, F_law_time := F_law_time, b_law_time := b_law_time, g_law_time := g_law_time, f_law_rows := _, fd_law_rows := _, F_law_rows := F_law_rows, b_law_rows := b_law_rows, g_law_rows := g_law_rows, f_law_book := _, fd_law_book := _, F_law_book := F_law_book, b_law_book := b_law_book, g_law_book := g_law_book, f_law_text := _, fd_law_text := _, F_law_text := F_law_text, b_law_text := b_law_text, g_law_text := g_law_text, f_law_backward := _, fd_law_backward := _, F_law_backward := F_law_backward, b_law_backward := b_law_backward, g_law_backward := g_law_backward, f_law_looks := _, fd_law_looks := _, F_law_looks := F_law_looks, b_law_looks := b_law_looks, g_law_looks := g_law_looks, f_law_otherwise := _, fd_law_otherwise := _, F_law_otherwise := F_law_otherwise, b_law_otherwise := b_law_otherwise, g_law_otherwise := g_law_otherwise, flaw := _, fdlaw := _, Flaw := Flaw, blaw := blaw, glaw := glaw, fBook___init__ := _, fdBook___init__ := _, FBook___init__ := FBook___init__, bBook___init__ := bBook___init__, fBook___eq__ := _, fdBook___eq__ := _, FBook___eq__ := FBook___eq__, bBook___eq__ := bBook___eq__, fBook___len__ := _, fdBook___len__ := _, FBook___len__ := FBook___len__, bBook___len__ := bBook___len__, fBook___str__ := _, fdBook___str__ := _, FBook___str__ := FBook___str__, bBook___str__ := bBook___str__, fBook_write := _, fdBook_write := _, FBook_write := FBook_write, bBook_write := bBook_write, fBook_rows := _, fdBook_rows := _, FBook_rows := FBook_rows, bBook_rows := bBook_rows, fBackward___init__ := _, fdBackward___init__ := _, FBackward___init__ := FBackward___init__, bBackward___init__ := bBackward___init__, tDAY := _, mDAY := mDAY, tHOUR := _, mHOUR := mHOUR, mRuntimeError := mRuntimeError, mValueError := mValueError, mbool := mbool, mdivmod := mdivmod, mint := mint, misinstance := misinstance, mlen := mlen, mlist := mlist, mmax := mmax, mrange := mrange, mrepr := mrepr, mstr := mstr, CBook := _, CBackward := _, gCBackward := gCBackward, oxBackward := oxBackward, exBackward := exBackward, hdBackward := hdBackward, tyBackward := tyBackward, icBackward := icBackward, seBackward := seBackward, upBackward := upBackward, gaBackward := gaBackward, ggBackward := ggBackward, haBackward := haBackward, hnBackward := hnBackward, htBackward := htBackward, hmBackward := hmBackward, nBackward_minute := nBackward_minute, snBackward_ValueError := snBackward_ValueError, aBackward___init__ := aBackward___init__, iBackward___init__ := iBackward___init__, kBackward___init__ := kBackward___init__, gCBook := gCBook, pgBook := pgBook, hdBook := hdBook, poBook := poBook, saBook := saBook, mkBook := mkBook, kcBook := kcBook, haBook := haBook, hnBook := hnBook, htBook := htBook, hmBook := hmBook, nfBook := nfBook, nBook_bank := nBook_bank, nBook__rows := nBook__rows, neBook := neBook, icBook := icBook, tyBook := tyBook, subBook_NoneType := subBook_NoneType, kitBook_NoneType := kitBook_NoneType, ntBook_NoneType := ntBook_NoneType, subBook_int := subBook_int, kitBook_int := kitBook_int, ntBook_int := ntBook_int, subBook_str := subBook_str, kitBook_str := kitBook_str, ntBook_str := ntBook_str, subBook_list := subBook_list, kitBook_list := kitBook_list, ntBook_list := ntBook_list, subBook_tuple := subBook_tuple, kitBook_tuple := kitBook_tuple, ntBook_tuple := ntBook_tuple, subBook_dict := subBook_dict, kitBook_dict := kitBook_dict, ntBook_dict := ntBook_dict, blBook := blBook, fmBook := fmBook, aBook___init__ := aBook___init__, iBook___init__ := iBook___init__, kBook___init__ := kBook___init__, aBook___eq__ := aBook___eq__, iBook___eq__ := iBook___eq__, kBook___eq__ := kBook___eq__, aBook___len__ := aBook___len__, iBook___len__ := iBook___len__, kBook___len__ := kBook___len__, aBook___str__ := aBook___str__, iBook___str__ := iBook___str__, kBook___str__ := kBook___str__, aBook_write := aBook_write, iBook_write := iBook_write, kBook_write := kBook_write, aBook_rows := aBook_rows, iBook_rows := iBook_rows, kBook_rows := kBook_rows } : Ev K mg)⟩
end Bb
open PySem PySem.W PyProof.Rows
set_option maxHeartbeats 0 in
theorem PySem.Challenge.cw_boatbridge_k68_books_as_objects_holds : PySem.Challenge.rw_boatbridge_k68_books_as_objects.Holds := by
  w_on; o_law; k_head; (case hw => w_witness2)
  k_fill
  refine Bb.walkG (l := PySem.Challenge.rw_boatbridge_k68_books_as_objects) (n := 63) (k := 12) (x := "_law_script") (sp := fun w => Bb.spLaw _) rfl (by decide) rfl ⟨rfl, by decide, by decide⟩ (fun w h Y => PySem.W.kIn_of Y) ?F (fun _ _ a ns hl _ hS => ⟨a, ns, rfl, hS, hl, fun _ => rfl⟩)
  case F =>
    intro w mg fa h KX G hmg
    refine' Bb.all_mk KX G hmg ?aBackward ?xlBackward ?hdBackward ?saBackward ?exBackward ?tyBackward ?kcBackward ?icBackward ?seBackward ?upBackward ?gaBackward ?ggBackward ?haBackward ?hnBackward ?htBackward ?hmBackward ?nBackward_minute ?snBackward_ValueError ?aBook ?pgBook ?hdBook ?poBook ?saBook ?mkBook ?kcBook ?haBook ?hnBook ?htBook ?hmBook ?nfBook ?nBook_bank ?nBook__rows ?neBook ?icBook ?tyBook ?subBook_NoneType ?kitBook_NoneType ?ntBook_NoneType ?subBook_int ?kitBook_int ?ntBook_int ?subBook_str ?kitBook_str ?ntBook_str ?subBook_list ?kitBook_list ?ntBook_list ?subBook_tuple ?kitBook_tuple ?ntBook_tuple ?subBook_dict ?kitBook_dict ?ntBook_dict ?blBook ?fmBook ?aBook___init__ ?iBook___init__ ?lBook___init__ ?cBook___init__ ?kBook___init__ ?aBook___eq__ ?iBook___eq__ ?lBook___eq__ ?cBook___eq__ ?kBook___eq__ ?aBook___len__ ?iBook___len__ ?lBook___len__ ?cBook___len__ ?kBook___len__ ?aBook___str__ ?iBook___str__ ?lBook___str__ ?cBook___str__ ?kBook___str__ ?aBook_write ?iBook_write ?lBook_write ?cBook_write ?kBook_write ?aBook_rows ?iBook_rows ?lBook_rows ?cBook_rows ?kBook_rows ?aBackward___init__ ?iBackward___init__ ?lBackward___init__ ?cBackward___init__ ?kBackward___init__ ?ashow_time ?lshow_time ?cshow_time ?kshow_time ?a_law_feed ?l_law_feed ?c_law_feed ?k_law_feed ?a_law_draw ?l_law_draw ?c_law_draw ?k_law_draw ?a_law_of ?l_law_of ?c_law_of ?k_law_of ?a_law_names ?l_law_names ?c_law_names ?k_law_names ?a_law_time ?l_law_time ?c_law_time ?k_law_time ?a_law_rows ?l_law_rows ?c_law_rows ?k_law_rows ?a_law_book ?l_law_book ?c_law_book ?k_law_book ?a_law_text ?l_law_text ?c_law_text ?k_law_text ?a_law_backward ?l_law_backward ?c_law_backward ?k_law_backward ?a_law_looks ?l_law_looks ?c_law_looks ?k_law_looks ?a_law_otherwise ?l_law_otherwise ?c_law_otherwise ?k_law_otherwise ?alaw ?llaw ?claw ?klaw ?aDAY ?aHOUR ?zRuntimeError ?zValueError ?zbool ?zdivmod ?zint ?zisinstance ?zlen ?zlist ?zmax ?zrange ?zrepr ?zstr
    (case aBackward => k_is)
    (case xlBackward => k_is)
    (case hdBackward => k_is)
    (case saBackward => k_is)
    (case exBackward => k_is)
    (case tyBackward => k_is)
    (case kcBackward => k_is)
    (case icBackward => k_is)
    (case seBackward => k_is)
    (case upBackward => k_is)
    (case gaBackward => k_is)
    (case ggBackward => k_is)
    (case haBackward => k_is)
    (case hnBackward => k_is)
    (case htBackward => k_is)
    (case hmBackward => k_is)
    (case nBackward_minute => k_is)
    (case snBackward_ValueError => k_is)
    (case aBook => k_is)
    (case pgBook => k_is)
    (case hdBook => k_is)
    (case poBook => k_is)
    (case saBook => k_is)
    (case mkBook => k_is)
    (case kcBook => k_is)
    (case haBook => k_is)
    (case hnBook => k_is)
    (case htBook => k_is)
    (case hmBook => k_is)
    (case nfBook => k_is)
    (case nBook_bank => k_is)
    (case nBook__rows => k_is)
    (case neBook => k_is)
    (case icBook => k_is)
    (case tyBook => k_is)
    (case subBook_NoneType => k_is)
    (case kitBook_NoneType => k_is)
    (case ntBook_NoneType => k_is)
    (case subBook_int => k_is)
    (case kitBook_int => k_is)
    (case ntBook_int => k_is)
    (case subBook_str => k_is)
    (case kitBook_str => k_is)
    (case ntBook_str => k_is)
    (case subBook_list => k_is)
    (case kitBook_list => k_is)
    (case ntBook_list => k_is)
    (case subBook_tuple => k_is)
    (case kitBook_tuple => k_is)
    (case ntBook_tuple => k_is)
    (case subBook_dict => k_is)
    (case kitBook_dict => k_is)
    (case ntBook_dict => k_is)
    (case blBook => k_is)
    (case fmBook => k_is)
    (case aBook___init__ => k_is)
    (case iBook___init__ => k_is)
    (case lBook___init__ => k_is)
    (case cBook___init__ => k_is)
    (case kBook___init__ => k_is)
    (case aBook___eq__ => k_is)
    (case iBook___eq__ => k_is)
    (case lBook___eq__ => k_is)
    (case cBook___eq__ => k_is)
    (case kBook___eq__ => k_is)
    (case aBook___len__ => k_is)
    (case iBook___len__ => k_is)
    (case lBook___len__ => k_is)
    (case cBook___len__ => k_is)
    (case kBook___len__ => k_is)
    (case aBook___str__ => k_is)
    (case iBook___str__ => k_is)
    (case lBook___str__ => k_is)
    (case cBook___str__ => k_is)
    (case kBook___str__ => k_is)
    (case aBook_write => k_is)
    (case iBook_write => k_is)
    (case lBook_write => k_is)
    (case cBook_write => k_is)
    (case kBook_write => k_is)
    (case aBook_rows => k_is)
    (case iBook_rows => k_is)
    (case lBook_rows => k_is)
    (case cBook_rows => k_is)
    (case kBook_rows => k_is)
    (case aBackward___init__ => k_is)
    (case iBackward___init__ => k_is)
    (case lBackward___init__ => k_is)
    (case cBackward___init__ => k_is)
    (case kBackward___init__ => k_is)
    (case ashow_time => k_is)
    (case lshow_time => k_is)
    (case cshow_time => k_is)
    (case kshow_time => k_is)
    (case a_law_feed => k_is)
    (case l_law_feed => k_is)
    (case c_law_feed => k_is)
    (case k_law_feed => k_is)
    (case a_law_draw => k_is)
    (case l_law_draw => k_is)
    (case c_law_draw => k_is)
    (case k_law_draw => k_is)
    (case a_law_of => k_is)
    (case l_law_of => k_is)
    (case c_law_of => k_is)
    (case k_law_of => k_is)
    (case a_law_names => k_is)
    (case l_law_names => k_is)
    (case c_law_names => k_is)
    (case k_law_names => k_is)
    (case a_law_time => k_is)
    (case l_law_time => k_is)
    (case c_law_time => k_is)
    (case k_law_time => k_is)
    (case a_law_rows => k_is)
    (case l_law_rows => k_is)
    (case c_law_rows => k_is)
    (case k_law_rows => k_is)
    (case a_law_book => k_is)
    (case l_law_book => k_is)
    (case c_law_book => k_is)
    (case k_law_book => k_is)
    (case a_law_text => k_is)
    (case l_law_text => k_is)
    (case c_law_text => k_is)
    (case k_law_text => k_is)
    (case a_law_backward => k_is)
    (case l_law_backward => k_is)
    (case c_law_backward => k_is)
    (case k_law_backward => k_is)
    (case a_law_looks => k_is)
    (case l_law_looks => k_is)
    (case c_law_looks => k_is)
    (case k_law_looks => k_is)
    (case a_law_otherwise => k_is)
    (case l_law_otherwise => k_is)
    (case c_law_otherwise => k_is)
    (case k_law_otherwise => k_is)
    (case alaw => k_is)
    (case llaw => k_is)
    (case claw => k_is)
    (case klaw => k_is)
    (case aDAY => k_is)
    (case aHOUR => k_is)
    (case zRuntimeError => k_is)
    (case zValueError => k_is)
    (case zbool => k_is)
    (case zdivmod => k_is)
    (case zint => k_is)
    (case zisinstance => k_is)
    (case zlen => k_is)
    (case zlist => k_is)
    (case zmax => k_is)
    (case zrange => k_is)
    (case zrepr => k_is)
    (case zstr => k_is)
