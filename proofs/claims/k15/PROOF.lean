import PyProof.Rows.All
import Wide.All
import OpenK.AllK
import Wide.FinOn
import PyProof.FString3
import PyProof.InstNe
import HandS.ForMost
import HandS.FStr
import HandS.StrMore
import HandS.IsInst
import HandS.Codes
import HandS.TryOnly
import HandS.SlotsOwn
import HandS.Defaults
import HandS.MakeKw
import HandS.MakeKwOnly
import HandS.OwnEq
import KE.KCallOwn
import KE.KFmtOwn
import HandS.ExcInit
import HandS.ExcIs
import HandS.ExcField
import HandS.ExcValue
import KE.KExcIs
import KE.KExcInit
import HandS.Conv
import OpenK.KOps
import PyProof.Rows.Range3
import PyProof.ListRange
import HandS.Style
import PyProof.ReprRoads
import PyProof.ExcBaseAll.LookupError
import PyProof.ExcBaseAll.IndexError
import HandS.SortInts
import HandS.SortKw
import HandS.Star
import HandS.Flow
import HandS.WordsExc
import HandS.FStrTup
import HandS.CallSlots
import HandS.Zip
import HandS.Lambda
import HandS.EndTab
import HandS.More
import HandS.List
import KE.KxIndex
import PyProof.Rows.StrRev
import KE.IntTextLaws
import KE.IntTextText
import HandS.SetFor
import HandS.Strs
import HandS.SortInts
import HandS.IntHex
import PySem.Challenge.RW_boatbridge_k15_whole_loads_up_to_the_bri
set_option Elab.async false
set_option linter.all false
set_option maxRecDepth 100000
namespace Bb
open PySem PySem.Spec PyProof.Rows L2 PySem.W
open C8 (pss_cut)
open TL (tl ext_tl partition_app partition_none)
/-! ### a call with keywords alone -/
section
variable {X : Cx} {CX : CXT} {k : Nat} {f : Addr} {fd : FuncData} {ps ks : List Str} {sp : Sp} {E : XK} {x : Str} {p pos : Pos} {kws : List Keyword} {tk : TA} {g : List Value → List Value → List Value} {gV : List V → List V → List V}
theorem pe_callK0 (F : FnOk X.prog X.w X.K X.mg X.base CX k f fd ps sp) (hr : Room k X.A) (hg : Gl X x) (hm : X.mg x = some (.ref f)) (hk : PySem.W.keepIn X.K (.ref f) = true) (hb : KBinds X.K fd ps ks g gV) (hx : Passes CX X E)
    (hkw : PK X kws tk) (hall : (backToKw pos (keywordEach kws X.env)).all (·.1.isSome) = true := by rfl) (hks : (backToKw pos (keywordEach kws X.env)).filterMap (·.1) = ks := by rfl)
    (hdb : (x == ("__debug__" : Str)) = false := by decide)
    (hpl : ((backTo pos (starEach [] X.env)).any (·.1) || (backToKw pos (keywordEach kws X.env)).any (·.1.isNone)) = false := by rfl) :
    PE X (.Call (.Name x p) [] kws pos) (tCallK sp gV E tNil tk) := by
  refine ⟨fun pins s σ H Q I h => ?_⟩
  refine wpAny_Call_Name_kw (ld_glob I hg hm ?_ hdb)
  refine PySem.W.callWith_KW0 (h₀ := X.base) I.ok.mod.kin hk hall ?_ hpl
  refine thn (hkw.run pos pins s σ H _ I h) fun ws s2 ⟨zs, H2, I2, rz, q2⟩ => ⟨I2.kIn, ?_⟩
  rw [hks]
  exact run_fnk F hr hb hx I2 .nil rz q2
/-- keywords in the parameters' own order -/
theorem fun_kbinds {K : Frag} {x qual : Str} {st : Stmt} {f : Addr} {fd : FuncData} {ps ks : List Str} (F : Fun K x qual st f fd)
    (h : ∀ (kV doc pm : Value) (an : Option Addr) (cdv ct : Value) (us ws : List Value), (us ++ ws).length = ps.length → bindArgs (PySem.W.fnOf x qual (defArgs st) (defBody st) (defScope st) .none kV doc pm an cdv ct) ⟨us, ks.zip ws⟩ = pure (ps.zip (us ++ ws))) :
    KBinds K fd ps ks (· ++ ·) (· ++ ·) := by
  obtain ⟨oc, od, kV, doc, pm, an, cdv, ct, osl, rfl, lk, hcd⟩ := F.ex
  exact ⟨fun s us ws _ hl => .of_eq (h kV doc pm an cdv ct us ws hl), fun a b => a.append b⟩
theorem vals_rev : ∀ {zs : List V} {ws : List Value}, Vals zs ws → Vals zs.reverse ws.reverse
  | _, _, .nil => .nil
  | _, _, .cons r t => by
    rw [List.reverse_cons, List.reverse_cons]
    exact (vals_rev t).append (.cons r .nil)
/-- all by keywords -/
def kwAll {α : Type} (n : Nat) (us ws : List α) : List α := if us.length = 0 ∧ ws.length = n then ws else []
theorem kwAll_vals {n : Nat} {vs zs : List V} {us ws : List Value} (a : Vals vs us) (b : Vals zs ws) : Vals (kwAll n vs zs) (kwAll n us ws) := by
  unfold kwAll
  rw [a.length, b.length]
  split
  · exact b
  · exact .nil
theorem fun_kbindsA {K : Frag} {x qual : Str} {st : Stmt} {f : Addr} {fd : FuncData} {ps ks : List Str} (F : Fun K x qual st f fd) (hn : ps ≠ [])
    (h : ∀ (kV doc pm : Value) (an : Option Addr) (cdv ct : Value) (ws : List Value), ws.length = ps.length → bindArgs (PySem.W.fnOf x qual (defArgs st) (defBody st) (defScope st) .none kV doc pm an cdv ct) ⟨[], ks.zip ws⟩ = pure (ps.zip ws)) :
    KBinds K fd ps ks (kwAll ps.length) (kwAll ps.length) := by
  obtain ⟨oc, od, kV, doc, pm, an, cdv, ct, osl, rfl, lk, hcd⟩ := F.ex
  refine ⟨fun s us ws _ hl => ?_, kwAll_vals⟩
  unfold kwAll at hl ⊢
  split at hl
  · rename_i c
    rw [if_pos c, List.eq_nil_of_length_eq_zero c.1]
    exact .of_eq (h kV doc pm an cdv ct ws c.2)
  · exact absurd (List.eq_nil_of_length_eq_zero hl.symm) hn
/-- all by keywords, in the parameters' order turned about -/
theorem fun_kbindsR {K : Frag} {x qual : Str} {st : Stmt} {f : Addr} {fd : FuncData} {ps ks : List Str} (F : Fun K x qual st f fd) (hn : ps ≠ [])
    (h : ∀ (kV doc pm : Value) (an : Option Addr) (cdv ct : Value) (ws : List Value), ws.length = ps.length → bindArgs (PySem.W.fnOf x qual (defArgs st) (defBody st) (defScope st) .none kV doc pm an cdv ct) ⟨[], ks.zip ws⟩ = pure (ps.zip ws.reverse)) :
    KBinds K fd ps ks (fun us ws => (kwAll ps.length us ws).reverse) (fun us ws => (kwAll ps.length us ws).reverse) := by
  obtain ⟨oc, od, kV, doc, pm, an, cdv, ct, osl, rfl, lk, hcd⟩ := F.ex
  refine ⟨fun s us ws _ hl => ?_, fun a b => vals_rev (kwAll_vals a b)⟩
  rw [List.length_reverse] at hl
  unfold kwAll at hl ⊢
  split at hl
  · rename_i c
    rw [if_pos c, List.eq_nil_of_length_eq_zero c.1]
    exact .of_eq (h kV doc pm an cdv ct ws c.2)
  · exact absurd (List.eq_nil_of_length_eq_zero hl.symm) hn
end
/-! ### defs that are called where no repr is under way (so that repr of lists and tuples is known) -/
structure FnOkG (P : Program) (w : World) (K : PySem.W.Frag) (mg : Str → Option Value) (base : Heap) (CX : CXT) (k : Nat) (f : Addr) (fd : FuncData) (ps : List Str) (sp : Sp) : Prop where
  many : ∀ vs H Q E, sp vs H Q E → vs.length = ps.length
  goes : ∀ (A : Around) (outer : List Env) (s : Shared) (H : Hp) (args : Args) (us : List Value) (vs : List V) (Q : VK) (E : XK), A.guards = some [] → Room k A → Env0 P w K mg base A outer s H → BindsTo s fd args (ps.zip us) → Vals vs us → sp vs H Q E →
    codeAny (model P w) A (.call (.ref f) args) (CR CX outer P w H s Q E) s
theorem FnOk.g {P : Program} {w : World} {K : PySem.W.Frag} {mg : Str → Option Value} {base : Heap} {CX : CXT} {k : Nat} {f : Addr} {fd : FuncData} {ps : List Str} {sp : Sp} (F : FnOk P w K mg base CX k f fd ps sp) : FnOkG P w K mg base CX k f fd ps sp :=
  ⟨F.len, fun A o s H a us vs Q E _ => F.run A o s H a us vs Q E⟩
section
variable {P : Program} {w : World} {K : PySem.W.Frag} {mg : Str → Option Value} {base : Heap}
theorem okG {x qual : Str} {st : Stmt} {f : Addr} {fd : FuncData} {N ps : List Str} {k : Nat} {sp : Sp} (F : Fun K x qual st f fd) (S : FnScope N ps (defScope st)) (hn : ∀ vs H Q E, sp vs H Q E → vs.length = ps.length)
    (hb : ∀ (cdv : Value) (A : Around) (outer : List Env) (s : Shared) (H : Hp) (vs : List V) (Q : VK) (E : XK), A.guards = some [] → Room k (A.deeper (envOfC qual (defScope st) s.heap.objs.size f cdv)) → sp vs H Q E →
      ∃ t, PSs (cxOf CX0 P w K mg base N qual (defScope st) f cdv A outer s H E).nox (defBody st) t ∧ t { nx := fun _ H' => Q .non H', rt := Q } (start N vs) H) : FnOkG P w K mg base CX0 (k + 1) f fd ps sp := by
  obtain ⟨oc, od, kV, doc, pm, an, cdv, ct, osl, rfl, lk, hcd⟩ := F.ex
  constructor
  · exact hn
  intro A outer s H args us vs Q E gd hr env bnd rel want
  have olds : ∀ z y, base.get? z = some y → s.heap.get? z = some y := fun z y e => (env.bs z y e).1
  have inK : K.In s.heap := env.mod.kin.keeps olds
  have vis : ∀ q ∈ ps.zip us, (defScope st).names.lookup q.1 = some .local ∨ ((defScope st).names.lookup q.1 = some .cell ∧ ((cellsFrom (s.heap.objs.size + 1) (defScope st).names []).lookup q.1).isSome = true) := by
    intro q hq
    obtain ⟨n, v⟩ := q
    exact (S.par n (List.of_mem_zip hq).1).elim Or.inl fun c => Or.inr ⟨c, PySem.W.cellsFrom_some _ _ _ (Or.inl c)⟩
  apply codeAny_call_function hr.depth (inK _ _ lk) rfl S.co S.gen rfl (PySem.W.codeRec_of inK hcd)
  apply bnd
  refine wpAny_newFunctionEnv_cells S.kind vis fun env' he s1 x => ?_
  cases he
  refine ⟨(env.mod.nolimit.keeps olds).keeps x.toInCall.keep, codeAny_func ?_⟩
  obtain ⟨t, ht, hq⟩ := hb cdv A outer s H vs Q E gd (hr.deeper _) want
  have ht := ht.nox
  have J0 : L2.Inv (cxOf CX0 P w K mg base N qual (defScope st) f cdv A outer s H E) [] (start N vs) H s1 := inv_start S hr.hd env (hn _ _ _ _ want) rel x
  refine wpAny_mono (ht.run [] s1 (start N vs) H _ J0 hq) (fun fl s' z => ?_) fun _ _ z => z
  match fl, z with
  | .ret u, ⟨v, σ', H', J, rv, q⟩ => exact ⟨v, H', J.os, J.bare, J.base, J.hok, rv, q⟩
  | .next, ⟨σ', H', J, q⟩ => exact ⟨V.non, H', J.os, J.bare, J.base, J.hok, rfl, q⟩
  | .brk, ⟨_, _, _, q⟩ => exact q.elim
  | .cont, ⟨_, _, _, q⟩ => exact q.elim
end
section
variable {X : Cx} {CX : CXT} {k : Nat} {f : Addr} {fd : FuncData} {ps : List Str} {sp : Sp} {dvs : List V} {ds : List Value} {E : XK} {x : Str} {p pos : Pos} {e : Expr} {es : List Expr} {t : TA}
/-- f(e, ..), f such a def -/
theorem pe_callG (F : FnOkG X.prog X.w X.K X.mg X.base CX k f fd ps sp) (gd : X.A.guards = some []) (hr : Room k X.A) (hg : Gl X x) (hm : X.mg x = some (.ref f)) (hk : PySem.W.keepIn X.K (.ref f) = true) (hb : L2.Binds X.K fd ps ds) (hd : Vals dvs ds) (hx : Passes CX X E)
    (ha : PA X (e :: es) t) (n1 : (x == ("__debug__" : Str)) = false := by decide) (n2 : starEach (e :: es) X.env = (false, eval e X.env) :: starEach es X.env := by rfl) (n3 : (backTo pos (starEach es X.env)).any (·.1) = false := by rfl) :
    PE X (.Call (.Name x p) (e :: es) [] pos) (tCall sp dvs E t) := by
  constructor
  intro pins s σ H Q I h
  apply wpAny_Call_Name_kw (ld_glob I hg hm ?_ n1)
  refine PySem.W.callWith_K (h₀ := X.base) I.ok.mod.kin hk (thn (ha.run pos pins s σ H _ I h) ?_) n2 n3
  rintro us s1 ⟨vs, H1, I1, r, q⟩
  refine ⟨I1.kIn, ?_⟩
  have rr : Vals (vs ++ dvs) (us ++ ds) := r.append hd
  have ll : (us ++ ds).length = ps.length := rr.length.symm.trans (F.many _ _ _ _ q)
  refine wpAny_call (codeAny_mono (F.goes X.A X.stack s1 H1 ⟨us, []⟩ (us ++ ds) (vs ++ dvs) Q E gd hr I1.env0 (hb s1 us I1.kIn ll) rr q) fun z s' hz => ?_)
  match z, hz with
  | .error er, hz => exact hx pins σ H1 s1 er s' I1 hz
  | .ok (.ret u), hz => exact I1.after hz
  | .ok .next, hz => exact (show False from hz).elim
  | .ok .brk, hz => exact (show False from hz).elim
  | .ok .cont, hz => exact (show False from hz).elim
/-- repr(x) of data -/
def rReprD (K : PySem.W.Frag) : List V → Hp → VK → Prop := fun xs H Q => ∃ x d, xs = [x] ∧ Dp K H x d ∧ SeqAt.shaped d = true ∧ d.showable = true ∧ d.shown.length ≤ sizeLine ∧ Q (.str d.shown) H
theorem call_reprD (gd : X.A.guards = some []) (hr : Room k X.A) : CallR X (.builtin "repr") (rReprD X.K) := by
  intro pins s σ H xs us Q I r h
  obtain ⟨y, d, rfl, hd, sh, sw, sz, q⟩ := h
  obtain ⟨u, rfl, ru⟩ := Vals.one r
  have dd := SeqAt.depth_of_shaped sh
  have un := hr.un
  have nd : d.hasDict = true → sysModules ∉ ([] : List Addr) := fun z => by rw [PyData.hasDict_of_canLay d (SeqAt.canLay_of_shaped sh)] at z; cases z
  cases hd with
  | non =>
    cases (show u = Value.none from ru)
    exact P.repr_of_none ⟨V.str "None", H, I.tok _, ⟨_, rfl⟩, by rw [PyData.shown] at q; exact q⟩
  | bl b =>
    cases (show u = Value.bool b from ru)
    exact P.repr_of_bool ⟨V.str (if b then "True" else "False"), H, I.tok _, ⟨_, rfl⟩, by rw [PyData.shown] at q; exact q⟩
  | int i =>
    obtain ⟨t, rfl⟩ := (show ∃ t, u = Value.int i t from ru)
    refine P.repr_of_int (of_decide_eq_true (by rw [PyData.showable] at sw; exact sw)) ⟨V.str (toString i), H, I.tok _, ⟨_, rfl⟩, by rw [PyData.shown] at q; exact q⟩
  | str z =>
    obtain ⟨t, rfl⟩ := (show ∃ t, u = Value.str z t from ru)
    exact P.repr_of_str ⟨V.str (reprText z), H, I.tok _, ⟨_, rfl⟩, by rw [PyData.shown] at q; exact q⟩ (by rw [PyData.shown] at sz; exact sz)
  | lst a b =>
    obtain ⟨as, rd⟩ := Dp.reads I _ _ u (.lst a b) ru
    cases ru
    exact repr_of_reads' rd sw (fun z => by rw [PyData.hasDict_of_canLay _ (SeqAt.canLay_of_shaped sh)] at z; cases z) gd (by omega) (fun _ _ z => z) (fun h' t' tk hk => ⟨V.str (PyData.shown _), H, I.kept hk, ⟨_, rfl⟩, q⟩) sz
  | tup a b =>
    obtain ⟨as, rd⟩ := Dp.reads I _ _ u (.tup a b) ru
    cases ru
    exact repr_of_reads' rd sw (fun z => by rw [PyData.hasDict_of_canLay _ (SeqAt.canLay_of_shaped sh)] at z; cases z) gd (by omega) (fun _ _ z => z) (fun h' t' tk hk => ⟨V.str (PyData.shown _), H, I.kept hk, ⟨_, rfl⟩, q⟩) sz
end
/-! ### the law's end, for such a law -/
section
variable {P : Program} {w : World} {K : PySem.W.Frag} {mg mb : Str → Option Value} {k : Nat} {fa a : Addr} {fd : FuncData} {x : Str} {sp : Sp} {s₁ : Shared} {vs : List Value} {ns : List Int}
/-- from a heap in which nothing but the script may stand -/
theorem lawG0 (KX : K.In s₁.heap) (g1 : s₁.heap.Ns mainGlobals mg) (g2 : s₁.heap.Ns builtinsNs mb) (g3 : ∀ x : Str, x ≠ "__name__" → mb x = bootBuiltins x) (g4 : s₁.heap.NoLimit) (g5 : s₁.gens = #[])
    (ha : s₁.heap.get? a = some { cls := .type "list", data := .seq vs.toArray }) (hr : Room k callerA)
    (F : ∀ base : Heap, K.In base → base.Ns mainGlobals mg → FnOkG P w K mg base CX0 k fa fd [x] sp) (bd : ∀ (s : Shared) (u : Value), BindsTo s fd ⟨[u], []⟩ [(x, u)])
    (H : Hp) (hO : Only H) (want : sp [.ref a] H (fun v _ => v = .bl true) fun _ _ _ => False) (ok : HOk P w H s₁.heap) (hA : ∀ b, H b ≠ none → b = a) (hK : H a ≠ none → K.lookup a = none) :
    codeAny (model P w) callerA (.call (.ref fa) ⟨[.ref a], []⟩) (fun r s' => r = .ok (.ret (.bool true)) ∧ OldK s₁.heap s'.heap ∧ s'.os = s₁.os ∧ AllBare s'.gens) s₁ := by
  have noA : ∀ {b : Addr} {o : Obj} {es : Array DictEntry} {ep : Nat}, s₁.heap.get? b = some o → o.data = .dict es ep → H b = none := by
    intro b o es ep e d
    apply Classical.byContradiction
    intro z
    have e2 := e
    rw [hA b z, ha] at e2
    cases e2
    exact nomatch (show Data.seq vs.toArray _ = Data.dict es ep from d)
  have nsK : ∀ {b : Addr} {m : Str → Option Value}, s₁.heap.Ns b m → (hidT s₁.heap H).Ns b m := by
    rintro b m ⟨o, es, ep, e, d, r⟩
    exact ⟨o, es, ep, hidT_get e (noA e d), d, r⟩
  have kb : K.In (hidT s₁.heap H) := by
    intro b o e
    refine hidT_get (KX b o e) (Classical.byContradiction fun z => ?_)
    have eb := hA b z
    subst eb
    rw [hK z] at e
    cases e
  have M : Mod K mg (hidT s₁.heap H) := by
    obtain ⟨mc, h1, h2⟩ := g4
    exact ⟨kb, nsK g1, ⟨mb, nsK g2, g3⟩, ⟨mc, nsK h1, h2⟩⟩
  have e0 : Env0 P w K mg (hidT s₁.heap H) callerA [] s₁ H :=
    { frames := rfl, mod := M, bs := fun b o e => of_hidT e, bsz := Nat.le_of_eq (hidT_size _ _), funs := trivial, frf := fun b z => absurd (show b ∈ ([] : List Addr) from z) (by simp), hok := ok, bare := .of_eq g5 }
  have run := (F _ kb (nsK g1)).goes callerA [] s₁ H ⟨[.ref a], []⟩ [.ref a] [.ref a] _ _ rfl hr e0 (bd s₁ (.ref a)) (.cons rfl .nil) want
  refine codeAny_mono run fun r s' h => ?_
  match r, h with
  | .error e, h => exact (show False from h).elim
  | .ok .next, h => exact (show False from h).elim
  | .ok .brk, h => exact (show False from h).elim
  | .ok .cont, h => exact (show False from h).elim
  | .ok (.ret u), ⟨v, H', os, bare, un, ok', rv, (qv : v = .bl true)⟩ =>
    cases qv
    cases (show u = Value.bool true from rv)
    refine ⟨rfl, OldK.of_keep fun b o e => ?_, os, bare⟩
    cases q : H b with
    | none => exact un.keep b o e q (fun z => absurd (show b ∈ ([] : List Addr) from z) (by simp)) (by simp)
    | some y =>
      rcases hO b with z | ⟨ob, xs, z⟩
      · rw [z] at q; cases q
      · have f1 := (ok b _ z).1
        have f2 := (ok' b _ (un.frzs b ob _ z)).1
        rw [f1] at e
        cases e
        exact f2
theorem lawG (KX : K.In s₁.heap) (g1 : s₁.heap.Ns mainGlobals mg) (g2 : s₁.heap.Ns builtinsNs mb) (g3 : ∀ x : Str, x ≠ "__name__" → mb x = bootBuiltins x) (g4 : s₁.heap.NoLimit) (g5 : s₁.gens = #[])
    (ha : s₁.heap.get? a = some { cls := .type "list", data := .seq vs.toArray }) (hi : IntsAre vs ns) (hl : ns.length ≤ sizeLine) (hr : Room k callerA)
    (F : ∀ base : Heap, K.In base → base.Ns mainGlobals mg → FnOkG P w K mg base CX0 k fa fd [x] sp) (bd : ∀ (s : Shared) (u : Value), BindsTo s fd ⟨[u], []⟩ [(x, u)])
    (want : ∀ H : Hp, Only H → SqL K H a (ns.map V.int) → sp [.ref a] H (fun v _ => v = .bl true) fun _ _ _ => False) :
    codeAny (model P w) callerA (.call (.ref fa) ⟨[.ref a], []⟩) (fun r s' => r = .ok (.ret (.bool true)) ∧ OldK s₁.heap s'.heap ∧ s'.os = s₁.os ∧ AllBare s'.gens) s₁ := by
  have rv := vals_ints hi
  rcases hk : K.lookup a with _ | o
  · let H : Hp := fun b => if b = a then some (.frz { cls := .type "list", data := .seq vs.toArray } (.lst (ns.map V.int))) else none
    have Ha : H a = some (.frz { cls := .type "list", data := .seq vs.toArray } (.lst (ns.map V.int))) := if_pos rfl
    have Hn : ∀ b, b ≠ a → H b = none := fun b n => if_neg n
    have hO : Only H := fun b => (Classical.em (b = a)).elim (fun e => .inr ⟨_, _, e ▸ Ha⟩) fun n => .inl (Hn b n)
    have hA : ∀ b, H b ≠ none → b = a := fun b z => Classical.byContradiction fun n => z (Hn b n)
    refine lawG0 KX g1 g2 g3 g4 g5 ha hr F bd H hO (want H hO (.inl (.inr ⟨_, Ha⟩))) (fun b u z => ?_) hA fun _ => hk
    have e := hA b (by rw [z]; intro y; cases y)
    subst e
    rw [Ha] at z
    cases z
    exact ⟨ha, by rw [List.length_map]; exact hl, vs, _, rv, ha⟩
  · have e := KX a o hk
    rw [ha] at e
    cases e
    refine lawG0 KX g1 g2 g3 g4 g5 ha hr F bd (fun _ => none) (fun _ => .inl rfl) (want _ (fun _ => .inl rfl) (.inr ⟨_, vs.toArray, _, hk, rfl, rfl, rfl, by rw [List.size_toArray, hi.length]; exact hl, by simpa using rv⟩)) (fun b u z => nomatch (show (none : Option HO) = some u from z)) (fun b z => absurd rfl z) fun z => absurd rfl z
end
theorem walkG {l : PySem.W.OpenLaw} {n k : Nat} {q : Program} {loose : List Str} {XP : (Str → Option Value) → Heap → Prop} {YP : World → Heap → Prop} {d : DefRec} {K : Params → PySem.W.Frag} {sp : World → Sp} {x : Str}
    (hn : l.most = some n) (hn2 : n ≤ sizeLine) (hdf : d.params.defaults = []) (hr : Room k callerA) (hY : ∀ (w : World) (h : Heap), YP w h → (K w.params).In h)
    (F : ∀ (w : World) (mg : Str → Option Value) (fa : Addr) (h : Heap), (K w.params).In h → h.Ns mainGlobals mg → mg d.name = some (.ref fa) →
      ∃ fd : FuncData, (∀ (s : Shared) (u : Value), BindsTo s fd ⟨[u], []⟩ [(x, u)]) ∧ ∀ base : Heap, (K w.params).In base → base.Ns mainGlobals mg → FnOkG l.prog w (K w.params) mg base CX0 k fa fd [x] (sp w))
    (want : ∀ (w : World) (H : Hp) (a : Addr) (ns : List Int), ns.length ≤ n → Only H → SqL (K w.params) H a (ns.map V.int) → sp w [.ref a] H (fun v _ => v = .bl true) fun _ _ _ => False) :
    PySem.W.WalkO q loose XP YP l.row.toRowW d [] (fun f vs => PySem.call f vs) := by
  apply Att.attach_call hn hdf
  intro w s₀ s₁ mg mb fa o pm cd doc a vs ns G Y ho hd hcd hmg hobj hints hlen hg
  have KX := hY w _ Y
  obtain ⟨fd, bd, hF⟩ := F w mg fa _ KX G.T.g hmg
  exact lawG KX G.T.g G.T.b G.T.builtins G.T.nolimit hg hobj hints (Nat.le_trans hlen hn2) hr hF bd fun H hO hS => want w H a ns hlen hO hS
/-! ### an exception that is kept past its clause -/
/-- at a: an exception object of the class cls, its own dict at d -/
def keptX (cls : Value) (d : Option Addr) (a : Addr) : HO := .ext fun h => ∃ (oe : Obj) (vs : Array Value), h.get? a = some oe ∧ Zc cls d oe ∧ oe.data = .fields vs
theorem keptX_ok {P : Program} {w : World} {H : Hp} {h : Heap} {cls : Value} {d : Option Addr} {a : Addr} {oe : Obj} {vs : Array Value} (g : h.get? a = some oe) (z : Zc cls d oe) (f : oe.data = .fields vs) : ObjOk P w H h a (keptX cls d a) :=
  ⟨⟨oe, vs, g, z, f⟩, ⟨oe, g⟩, fun _ _ ⟨o, v, q, r⟩ k => ⟨o, v, k o q, r⟩⟩
theorem keptX_at {P : Program} {w : World} {H : Hp} {h : Heap} {cls : Value} {d : Option Addr} {a : Addr} (hok : HOk P w H h) (e : H a = some (keptX cls d a)) : ∃ (oe : Obj) (vs : Array Value), h.get? a = some oe ∧ Zc cls d oe ∧ oe.data = .fields vs := by
  have x : ObjOk P w H h a (.ext fun h => ∃ (oe : Obj) (vs : Array Value), h.get? a = some oe ∧ Zc cls d oe ∧ oe.data = .fields vs) := hok a _ e
  exact x.1
section
variable {X : Cx} {pins : List (Addr × Obj)} {σ : L2.St} {H : Hp} {s sI : Shared}
/-- the caught object is told to the ledger: it is none of the objects of the state sI ahead of it -/
theorem inv_keep (J : Inv X pins σ H sI) (ge : sI.heap.get? a = none) (I : Inv X pins σ H s) (hx : X.ex = []) {oe : Obj} {vs : Array Value} {cls : Value} {d : Option Addr} (ha : s.heap.get? a = some oe) (hz : Zc cls d oe) (hd : oe.data = .fields vs) (na : H a = none) :
    Inv X pins σ (upd H a (keptX cls d a)) s := by
  have ne : ∀ {b : Addr} {o : Obj}, sI.heap.get? b = some o → b ≠ a := by
    intro b o e z
    rw [z, ge] at e
    cases e
  have n0 : ∀ {b : Addr} {o : Obj}, X.s_0.heap.get? b = some o → b ≠ a := by
    intro b o e
    obtain ⟨o', e'⟩ := J.base.there b o e (by rw [hx]; exact fun z => nomatch z)
    exact ne e'
  have bs : Un X.fs X.ex X.H_0 (upd H a (keptX cls d a)) X.s_0.heap s.heap := {
    keep := I.base.keep
    slot := I.base.slot
    there := I.base.there
    free := by
      intro b o e n q
      rw [upd_ne (n0 e)]
      exact I.base.free b o e n q
    tups := by
      intro b xs e
      have z := I.base.tups b xs e
      rw [upd_ne (ne_of_none z na)]
      exact z
    frzs := by
      intro b o u e
      have z := I.base.frzs b o u e
      rw [upd_ne (ne_of_none z na)]
      exact z
    tbls := by
      intro b ps e
      obtain ⟨m, z⟩ := I.base.tbls b ps e
      exact ⟨m, by rw [upd_ne (ne_of_none z na)]; exact z⟩ }
  have fr : X.env.locals ≠ a := by
    obtain ⟨m, ⟨o, es, ep, ho, _⟩, _⟩ := J.loc
    exact ne ho
  refine ⟨I.ok, I.os, I.bare, bs, I.loc, I.cell, ?_, ?_, ?_, ?_, I.len⟩
  · rw [upd_ne fr]
    exact I.free
  · intro x c e
    obtain ⟨v, o, ho, _⟩ := J.cell x c e
    rw [upd_ne (ne ho)]
    exact I.freeC x c e
  · intro p hp
    obtain ⟨e, n, r⟩ := I.pin p hp
    refine ⟨e, ?_, r⟩
    rw [upd_ne (ne (J.pin p hp).1)]
    exact n
  · intro b o e
    by_cases hb : b = a
    · subst hb
      rw [upd_same] at e
      cases e
      exact keptX_ok ha hz hd
    · rw [upd_ne hb] at e
      refine (I.hok b o e).stay (fun c v _ q => q) (fun c q => ?_) (fun c xs q => ?_)
      · rw [upd_ne (ne_of_none q na)]
        exact q
      · rw [upd_ne (ne_of_none q na)]
        exact q
/-- into the clause's suite, no object pinned -/
theorem inv_into (I : Inv X pins σ H s) (a : Addr) : Inv (X.suite a (X.pn ++ pins)) [] σ H s where
  ok := I.ok.suite a _
  os := I.os
  bare := I.bare
  base := I.base
  loc := I.loc
  cell := I.cell
  free := I.free
  freeC := I.freeC
  pin := by
    intro p hp
    rw [List.append_nil] at hp
    exact I.pin p hp
  hok := I.hok
  len := I.len
/-- and out of it -/
theorem inv_outof {a : Addr} {pn : List (Addr × Obj)} (I : Inv (X.suite a (X.pn ++ pins)) pn σ H s) (ok : X.Ok) : Inv X pins σ H s where
  ok := ok
  os := I.os
  bare := I.bare
  base := I.base
  loc := I.loc
  cell := I.cell
  free := I.free
  freeC := I.freeC
  pin := fun p hp => I.pin p (List.mem_append_left _ hp)
  hok := I.hok
  len := I.len
end
/-- what the clause leaves: its own name is gone -/
def goneE (i : Nat) (D : Ends) : Ends where
  nx := fun σ H => D.nx (σ.set i none) H
  rt := D.rt
  bk := fun σ H => D.bk (σ.set i none) H
  ct := fun σ H => D.ct (σ.set i none) H
/-- what the clause wishes of the body's exceptions: each is caught, and stays -/
def wKeep (K : PySem.W.Frag) (c : Value) (i : Nat) (ts : Addr → Value → Option Addr → TS) (D : Ends) : WX := fun cls d σ H =>
  PySem.W.exmOne K cls c = some true ∧ ∀ a, H a = none → ts a cls d (goneE i D) (σ.set i (some (.ref a))) (upd H a (keptX cls d a))
section
variable {X : Cx} {x n : Str} {c : Value} {i : Nat} {body suite : List Stmt} {b₀ : Stmt} {np pos pos' : Pos} {tb : WX → TS} {ts : Addr → Value → Option Addr → TS}
theorem ps_try_keep (hs : X.stack = X.env :: X.outer) (hf : X.env.frame = some X.env.locals) (hex : X.ex = []) (hN : X.N.Nodup) (hi : X.N[i]? = some n) (hln : X.env.kindOf n = some .local) (hc : Names X x c)
    (hb : ∀ (W : WX) (pn : List (Addr × Obj)) (xe : Value → Shared → Prop), Takes (X.tr pn xe) W → PassesOwn (model X.prog X.w) X.A X.env xe → PSs (X.tr pn xe) body (tb W))
    (hsu : ∀ (a : Addr) (cls : Value) (d : Option Addr) (pn : List (Addr × Obj)), PSs (X.suite a pn) (b₀ :: suite) (ts a cls d)) :
    PS X (.Try body [.ExceptHandler (some (.Name x np)) (some n) (b₀ :: suite) pos'] [] [] pos) (fun D σ H => tb (wKeep X.K c i ts D) D σ H) := by
  constructor
  intro pins s σ H D I h
  have ok := I.ok
  have fr0 : X.A.frames = some (X.env :: X.outer) := by
    rw [ok.frames, hs]
  refine wpAny_Try_except ?_
  let xe' : Value → Shared → Prop := fun e s₁ => wpAny (model X.prog X.w) X.A (noteFrame e X.env) (fun _ s₂ => wpAny (model X.prog X.w) X.A (setFlight e none) (fun _ s₃ =>
    wpAny (model X.prog X.w) X.A (handleBy e X.env [.ExceptHandler (some (.Name x np)) (some n) (b₀ :: suite) pos']) (SP X pins D) X.xe s₃) X.xe s₂) X.xe s₁
  have catches : Takes (X.tr (X.pn ++ pins) xe') (wKeep X.K c i ts D) := by
    rintro u s' ⟨a, B, sI, pins', σ', H', cls, d, rfl, J', nb, up, sky, na, os, ag, hm, hyes⟩
    have J : Inv X pins σ' H' sI := J'.ofTry ok
    rw [show (X.tr (X.pn ++ pins) xe').stack = X.env :: X.outer from hs] at sky
    show wpAny (model X.prog X.w) X.A (noteFrame (.ref a) X.env) _ _ _
    refine Sky.land Zc.steady fr0 hf sky ?_
    intro h3 fl3 up3
    have J3 : Inv X pins σ' H' { s' with heap := h3 } := J.landed nb fl3.1 (up.trans up3) os ag
    refine wpAny_handleBy_cons (codeAny_handlers_test ?_) (fun q => nomatch q)
    -- the class is looked up and held against
    have look : PySem.W.Looks (model X.prog X.w) h3 (typeOf (.ref a)) cls := by
      obtain ⟨o3, v3, e3, z3, d3⟩ := fl3.there
      intro A Q E s k q
      refine wpAny_typeOf_ref (k _ _ e3) ?_
      rw [z3.1]
      exact q
    have hit := PySem.W.exm_one (M := model X.prog X.w) J3.kIn look hm
    have named : ∀ {Q : Value → Shared → Prop} {E : Value → Shared → Prop}, Q c { s' with heap := h3 } → wpAny (model X.prog X.w) (X.A.mark (some (.ref a))) (eval (.Name x np) X.env) Q E { s' with heap := h3 } := by
      intro Q E q
      have S3 := inv_into J3 a
      obtain ⟨hg, hdb, hv⟩ := hc
      rcases hv with hv | ⟨hv, hw, hn⟩
      · exact ld_glob (X := X.suite a (X.pn ++ pins)) S3 hg hv q hdb
      · exact ld_blt (X := X.suite a (X.pn ++ pins)) S3 hg hv hw q hn hdb
    refine named (hit.here (codeAny_handlers_suite_as (HandSPX.lands_againZ fl3 ?_)))
    intro h4 fl4 up4
    have J4 : Inv X pins σ' H' { s' with heap := h4 } := J.landed nb fl4.1 ((up.trans up3).trans up4) os ag
    obtain ⟨o4, v4, e4, z4, d4⟩ := fl4.there
    have ge : sI.heap.get? a = none := by
      cases q : sI.heap.get? a with
      | none => rfl
      | some o =>
        exfalso
        by_cases hm' : a ∈ frs (X.env :: X.outer)
        · obtain ⟨_, o', q', nf⟩ := fl4.2.2.1.mem hm'
          rw [e4] at q'
          cases q'
          exact nf _ d4
        · have z := nb a o q (by rw [show (X.tr (X.pn ++ pins) xe').stack = X.env :: X.outer from hs]; exact hm')
          rw [fl4.2.1] at z
          cases z
    have S4 := inv_into (inv_keep J ge J4 hex e4 z4 d4 na) a
    refine store_ok (X := X.suite a (X.pn ++ pins)) (v := .ref a) S4 hN hi (.inl hln) rfl ?_ (.inr hln)
    intro s5 S5
    refine wpAny_mono ((hsu a cls d (X.pn ++ pins)).run [] s5 _ _ (goneE i D) S5 (hyes a na)) ?_ (fun _ _ z => False.elim z)
    intro f s6 sp
    have out : ∀ {σ6 : L2.St} {H6 : Hp} {Q : Shared → Prop}, Inv (X.suite a (X.pn ++ pins)) [] σ6 H6 s6 → (∀ s7, Inv X pins (σ6.set i none) H6 s7 → Q s7) →
        wpAny (model X.prog X.w) X.A (do bindName X.env n .none; unbindBehindTheSuite X.env n pos') (fun _ s7 => Q s7) X.xe s6 := by
      intro σ6 H6 Q S6 hq
      exact gone_ok (inv_outof S6 ok) hN hi hln hq
    match f, sp with
    | .next, ⟨_, _, S6, q⟩ => exact out S6 fun s7 J7 => ⟨_, _, J7, q⟩
    | .brk, ⟨_, _, S6, q⟩ => exact out S6 fun s7 J7 => ⟨_, _, J7, q⟩
    | .cont, ⟨_, _, S6, q⟩ => exact out S6 fun s7 J7 => ⟨_, _, J7, q⟩
    | .ret u, ⟨_, _, _, S6, r, q⟩ => exact out S6 fun s7 J7 => ⟨_, _, _, J7, r, q⟩
  refine wpAny_mono ((hb (wKeep X.K c i ts D) (X.pn ++ pins) xe' catches PassesOwn.looking).run [] s σ H D (I.toTry _) h) ?_ (fun _ _ z => z)
  intro f s1 sp
  match f, sp with
  | .next, ⟨σ', H', J, q⟩ => exact wpAny_execs_nil ⟨σ', H', J.ofTry ok, q⟩
  | .brk, ⟨σ', H', J, q⟩ => exact ⟨σ', H', J.ofTry ok, q⟩
  | .cont, ⟨σ', H', J, q⟩ => exact ⟨σ', H', J.ofTry ok, q⟩
  | .ret u, ⟨v, σ', H', J, r, q⟩ => exact ⟨v, σ', H', J.ofTry ok, r, q⟩
end
/-! ### own exceptions under a class that is made by another's __new__ (KeyError, by LookupError's) -/
section
open Builtin Builtin.ObjectAttr
variable {prog : Program} {w : World} {M : Model} {A : Around} {E : Value → Shared → Prop} {R : Result → Shared → Prop} {h : Heap} {g : Array GenState} {d : Drawn} {t : Nat} {os : OsState}
variable {nm q : Str} {C N : Addr} {bs bm bmB : List Value} {hdct : Bool} {sn : List Str} {sub : List Value} {ab : Bool} {col : Option Bool} {dd : Option Addr} {k0 k1 k2 k3 k5 : Option Value} {B newId initId : String}
/-- what is asked of the classes above -/
structure Above (B : String) (bm : List Value) : Prop where
  is : bm.contains (.type B) = true
  noA : bm.contains (.type "AttributeError") = false
  noN : bm.contains (.type "NameError") = false
theorem mk_check (F : ExcBaseFacts B newId initId bmB) (T : Above B bm) {rest : List Value} {Q : Unit → Shared → Prop}
    (hC : h.get? C = some (excClassObj nm q C N bs bm hdct sn sub ab col dd k0 k1 k2 k3 k5 newId)) (hq : Q () ⟨h, g, d, t, os⟩) : wpAny M A (checkBuiltinCall newId ⟨.ref C :: rest, []⟩) Q E ⟨h, g, d, t, os⟩ := by
  have c1 : (Value.ref C :: bm).contains (.type B) = true := by
    rw [List.contains_cons, T.is, Bool.or_true]
  have c2 := F.noStar
  simp only [F.newKind, F.newSplit, F.newRow, checkBuiltinCall]
  repeat (first
    | refine wpAny_loadPart_at hC ?_
    | (refine wpAny_isSubtype_exc hC ?_; rw [c1])
    | refine wpAny_staticBase_exc hC ?_
    | refine wpAny_madeBy_exc hC ?_
    | simp only [bne_self_eq_false, Bool.false_eq_true, if_false]
    | wp_step)
  exact hq
theorem mk_new (F : ExcBaseFacts B newId initId bmB) (T : Above B bm) {rest : List Value}
    (hC : h.get? C = some (excClassObj nm q C N bs bm hdct sn sub ab col dd k0 k1 k2 k3 k5 newId)) (hz : rest.length ≤ sizeLine)
    (hq : R (.ok (.ret (.ref (h.objs.size + 1)))) ⟨(h.push (PySem.W.kdv_tup rest)).push (PySem.HandSPX.excO C h.objs.size), g, d, t, os⟩) :
    codeAny (model prog w) A (.builtin newId ⟨.ref C :: rest, []⟩) R ⟨h, g, d, t, os⟩ := by
  have ends := F.ends
  have c1 : (Value.ref C :: bm).contains (.type B) = true := by
    rw [List.contains_cons, T.is, Bool.or_true]
  have c2 : (Value.ref C :: bm).contains (.type "AttributeError") = false := by
    rw [List.contains_cons, T.noA]
    rfl
  have c3 : (Value.ref C :: bm).contains (.type "NameError") = false := by
    rw [List.contains_cons, T.noN]
    rfl
  refine PySem.codeAny_builtinAt F.entry ?_
  unfold Builtin.«BaseException.__new__»
  refine PySem.wpAt_bind ?_
  show PySem.wpAt _ _ _ (stack >>= _) _ _ _
  refine PySem.wpAt_bind (PySem.wpAt_stack ?_)
  intro p below
  refine PySem.wpAt_of_wpAny ?_
  wp_walk
  refine PySem.wpAt_of_wpAny ?_
  rw [F.owner]
  repeat (first
    | with_reducible refine wpAny_madeHere_exc F.canon hC ?_
    | with_reducible refine wpAny_loadPart_at hC ?_
    | (with_reducible refine wpAny_isSubtype_exc hC ?_; first | rw [c1] | rw [c2] | rw [c3])
    | wp_step)
  show R _ _
  rw [Heap.size_push]
  exact hq
theorem mk_type (F : ExcBaseFacts B newId initId bmB) (T : Above B bm) {rest : List Value} {fI : Addr} {Q : Fin → Shared → Prop}
    (hC : h.get? C = some (excClassObj nm q C N bs bm hdct sn sub ab col dd k0 k1 k2 k3 k5 newId)) (hi : PySem.W.Looks (model prog w) h (typeLookup (.ref C) "__init__") (some (.ref fI)))
    (hb : ∀ self, PySem.W.Looks (model prog w) h (bindSpecial (.ref fI) self) (.ref fI, [self])) (hz : rest.length ≤ sizeLine)
    (hq : codeAny (model prog w) A (.call (.ref fI) ⟨.ref (h.objs.size + 1) :: rest, []⟩) (fun r s' => match r with | .ok (.ret v) => v = .none ∧ Q (.done (.ret (.ref (h.objs.size + 1)))) s' | .ok _ => False | .error e => E e s')
      ⟨(h.push (PySem.W.kdv_tup rest)).push (PySem.HandSPX.excO C h.objs.size), g, d, t, os⟩) :
    wpAny (model prog w) A (Builtin.«type.__call__» ⟨.ref C :: rest, []⟩) Q E ⟨h, g, d, t, os⟩ := by
  have k : ∀ b o, h.get? b = some o → ((h.push (PySem.W.kdv_tup rest)).push (PySem.HandSPX.excO C h.objs.size)).get? b = some o := by
    intro b o e
    exact Heap.get?_push_of_some _ (Heap.get?_push_of_some _ e)
  have hC1 := k _ _ hC
  have got : ((h.push (PySem.W.kdv_tup rest)).push (PySem.HandSPX.excO C h.objs.size)).get? (h.objs.size + 1) = some (PySem.HandSPX.excO C h.objs.size) := by heap_get
  have self : (Value.ref C :: bm).contains (.ref C) = true := by simp
  repeat (first
    | with_reducible refine wpAny_loadPart_at hC ?_
    | with_reducible refine wpAny_madeBy_exc hC ?_
    | wp_step)
  refine codeAny_call_builtin_code (Code.quiet_builtin _ F.quiet) (mk_check F T hC (mk_new F T hC hz ?_))
  show wpAny _ _ _ _ _ _
  have look := hi.keeps k
  have bind := (hb (.ref (h.objs.size + 1))).keeps k
  unfold isInstance
  repeat (first
    | with_reducible refine wpAny_loadPart_at got ?_
    | (with_reducible refine wpAny_isSubtype_exc hC1 ?_; rw [self])
    | wp_step)
  show wpAny _ _ (typeLookup (.ref C) _) _ _ _
  refine look.at (wpAny_holding (wpAny_bind (bind.at (wpAny_bind (wpAny_call (codeAny_mono hq ?_))))))
  intro r s' z
  match r, z with
  | .error e, z => exact z
  | .ok (.ret v), ⟨e, z⟩ =>
    subst e
    first
      | exact wpAny_pure (wpAny_pure z)
      | (wp_walk; exact z)
theorem mk_call (F : ExcBaseFacts B newId initId bmB) (T : Above B bm) {rest : List Value} {fI : Addr}
    (hC : h.get? C = some (excClassObj nm q C N bs bm hdct sn sub ab col dd k0 k1 k2 k3 k5 newId)) (hi : PySem.W.Looks (model prog w) h (typeLookup (.ref C) "__init__") (some (.ref fI)))
    (hb : ∀ self, PySem.W.Looks (model prog w) h (bindSpecial (.ref fI) self) (.ref fI, [self])) (hz : rest.length ≤ sizeLine)
    (hq : codeAny (model prog w) (A.under (.builtin "type.__call__" ⟨.ref C :: rest, []⟩)) (.call (.ref fI) ⟨.ref (h.objs.size + 1) :: rest, []⟩) (PySem.W.InitBack (h.objs.size + 1) R)
      ⟨(h.push (PySem.W.kdv_tup rest)).push (PySem.HandSPX.excO C h.objs.size), g, d, t, os⟩) : codeAny (model prog w) A (.call (.ref C) ⟨rest, []⟩) R ⟨h, g, d, t, os⟩ := by
  have l1 := tc_lookup
  have l2 := tc_bind (.ref C)
  have ty : (⟨h, g, d, t, os⟩ : Shared).TypeIs (.ref C) "type" := ⟨_, hC, rfl⟩
  refine codeAny_of_tree ?_
  show wpAny _ _ (callAny (.ref C) _) _ _ _
  repeat (any_goals (first
    | assumption
    | with_reducible refine wpAny_loadPart_at hC ?_
    | wp_step))
  refine ⟨rfl, codeAny_call_builtin_at (Code.quiet_builtin _ (by decide +kernel)) entry_typeCall (wpAny_check_type_call_sub hC (mk_type F T hC hi hb hz (codeAny_mono hq ?_)))⟩
  intro r s' z
  rcases r with e | (v | _ | _ | _) <;> exact z
end
/-! ### own exceptions over any built-in class, with fields -/
section
open Builtin Builtin.ObjectAttr
/-- what the written part says of such a class -/
structure OexB (K : PySem.W.Frag) (C : Addr) : Prop where
  made : ∃ (B newId initId : String) (bmB bm : List Value) (nm q : Str) (N : Addr) (bs : List Value) (hdct : Bool) (sn : List Str) (sub : List Value) (ab : Bool) (col : Option Bool) (dd : Option Addr) (k0 k1 k2 k3 k5 : Option Value),
    PySem.ExcBaseFacts B newId initId bmB ∧ Above B bm ∧ K.lookup C = some (excClassObj nm q C N bs bm hdct sn sub ab col dd k0 k1 k2 k3 k5 newId)
  st : ∃ (T : String) (bmT : List Value), PySem.StoreFacts T bmT "object.__setattr__" "object" ∧ PySem.W.excOver K C bmT = true
  hd : PySem.W.hasDictIn K C = true
  sa : PySem.W.findIn K (.ref C) "__setattr__" = some (some (.builtin "object.__setattr__"))
  exC : PySem.W.subIn K (.ref C) (.type "BaseException") = some true
  tyC : PySem.W.typeIn K (.ref C) = some (.type "type")
  kC : PySem.W.keepIn K (.ref C) = true
theorem OexB.cd {K : PySem.W.Frag} {C : Addr} (T : OexB K C) : ∃ cd, PySem.W.clsIn K C = some cd ∧ cd.hasDict = true := PySem.W.any_some T.hd
theorem taker_none {K : PySem.W.Frag} {C : Addr} {f : Str} (h : PySem.W.findIn K (.ref C) f = some none) : PySem.W.takerIn K C f = some none := by
  unfold PySem.W.takerIn
  rw [h]
  rfl
variable {prog : Program} {w : World} {A : Around} {R : Result → Shared → Prop} {hp : Heap} {g : Array GenState} {d : Drawn} {t : Nat} {os : OsState} {K : PySem.W.Frag} {name : Str} {tk : Tok} {v : Value} {x C : Addr} {fv : Array Value}
theorem sa_first (T : OexB K C) (X : K.In hp) (hx : hp.get? x = some { cls := .ref C, data := .fields fv }) (ha : PySem.W.findIn K (.ref C) name = some none)
    (hq : ∀ h' tk' dx, (∀ b o, b ≠ x → hp.get? b = some o → h'.get? b = some o) → hp.objs.size ≤ dx → dx ≠ x → h'.get? x = some { cls := .ref C, dict := some dx, data := .fields fv } → h'.Ns1 dx (fun y => if y = name then some v else none) → R (.ok (.ret .none)) ⟨h', g, d, tk', os⟩) :
    codeAny (model prog w) A (.call (.builtin "object.__setattr__") ⟨[.ref x, .str name tk, v], []⟩) R ⟨hp, g, d, t, os⟩ := by
  obtain ⟨TT, bmT, SF, ov⟩ := T.st
  obtain ⟨cd, hcd, hdd⟩ := T.cd
  have I : PySem.W.InstAt hp x { cls := .ref C, data := .fields fv } C none := ⟨hx, rfl, rfl, trivial⟩
  have hxs : x ≠ hp.objs.size := Nat.ne_of_lt (Heap.lt_size hx)
  refine PySem.W.osa_openX SF X I ov (taker_none ha) (fun b => ?_)
  have lc : PySem.W.Looks (model prog w) hp (classData C) cd := PySem.W.looks_clsIn X hcd
  obtain ⟨z1, z2, z3, z4, z5, z6, z7, z8, z9, z10, z11⟩ := cd
  dsimp only at hdd
  subst hdd
  show wpAny _ _ (storeInOwnDict (.ref x) (.ref C) (.str name tk) name v b) _ _ _
  unfold storeInOwnDict ownDictForStores
  cases b <;>
  · repeat (first | with_reducible refine PySem.HandSPX.store_in_new ?_ ?_ | with_reducible refine wpAny_loadPart_at hx ?_ | with_reducible refine lc.at ?_ | wp_step)
    · exact ⟨_, #[], _, (Heap.get?_update_ne _ _ _ _ hxs.symm).trans (Heap.get?_push_at rfl rfl), rfl, fun e he => absurd he (by simp), fun _ => rfl⟩
    · intro h' tk' hn' hs
      have hx1 : (hp.push { cls := .type "dict", data := .dict #[] }).get? x = some { cls := .ref C, data := .fields fv } := Heap.get?_push_of_some _ hx
      refine hq h' tk' hp.objs.size ?_ (Nat.le_refl _) hxs.symm ?_ hn'
      · intro b o hb ho
        have e1 := hs.2 b (Nat.ne_of_lt (Heap.lt_size ho))
        rw [e1, Heap.get?_update_ne _ _ _ _ hb]
        exact Heap.get?_push_of_some _ ho
      · rw [hs.2 x hxs]
        exact Heap.get?_update_self _ hx1 rfl
theorem sa_further {dx : Addr} {m0 : Str → Option Value} {nl : List Str} (T : OexB K C) (X : K.In hp) (hx : hp.get? x = some { cls := .ref C, dict := some dx, data := .fields fv }) (hns : hp.Ns1 dx m0) (hw : Within m0 nl) (hz : nl.length ≤ 1000) (ha : PySem.W.findIn K (.ref C) name = some none)
    (hq : ∀ h' tk', (∀ b o, b ≠ dx → hp.get? b = some o → h'.get? b = some o) → h'.Ns1 dx (fun y => if y = name then some v else m0 y) → R (.ok (.ret .none)) ⟨h', g, d, tk', os⟩) :
    codeAny (model prog w) A (.call (.builtin "object.__setattr__") ⟨[.ref x, .str name tk, v], []⟩) R ⟨hp, g, d, t, os⟩ := by
  obtain ⟨TT, bmT, SF, ov⟩ := T.st
  obtain ⟨cd, hcd, hdd⟩ := T.cd
  obtain ⟨oD, _, _, hoD, _, _⟩ := hns.count hw
  have I : PySem.W.InstAt hp x { cls := .ref C, dict := some dx, data := .fields fv } C (some oD) := ⟨hx, rfl, rfl, hoD⟩
  refine PySem.W.osa_openX SF X I ov (taker_none ha) (fun b => ?_)
  have lc : PySem.W.Looks (model prog w) hp (classData C) cd := PySem.W.looks_clsIn X hcd
  obtain ⟨z1, z2, z3, z4, z5, z6, z7, z8, z9, z10, z11⟩ := cd
  dsimp only at hdd
  subst hdd
  show wpAny _ _ (storeInOwnDict (.ref x) (.ref C) (.str name tk) name v b) _ _ _
  unfold storeInOwnDict ownDictForStores
  cases b <;>
  · repeat (first | with_reducible refine PySem.OEX.store_in_old hns hw hz ?_ | with_reducible refine wpAny_loadPart_at hx ?_ | with_reducible refine lc.at ?_ | wp_step)
    intro h' tk' hn' hs
    exact hq h' tk' (fun b o hb ho => (hs.2 b hb).trans ho) hn'
end
section
variable {X : Cx} {pins : List (Addr × Obj)} {σ : L2.St} {H : Hp} {s : Shared} {a C dx : Addr} {f : Str} {y : V} {u : Value} {fs : List (Str × V)} {Q : Unit → Shared → Prop} {E : Value → Shared → Prop} {A : Around}
theorem put_first (T : OexB X.K C) (I : Inv X pins σ H s) (e : H a = some (exo a C none)) (hno : PySem.W.findIn X.K (.ref C) f = some none) (ry : RelV y u)
    (h : ∀ dx s', H dx = none → dx ≠ a → Inv X pins σ (upd (upd H dx (exd dx [(f, y)])) a (exo a C (some dx))) s' → Q () s') : wpAny (model X.prog X.w) A (setAttr (.ref a) f u) Q E s := by
  obtain ⟨t1, ho⟩ := exo_at I.hok e
  obtain ⟨hp, g, d, t, os⟩ := s
  refine PySem.W.set_plain I.kIn (od := none) ⟨ho, rfl, rfl, trivial⟩ T.sa (sa_first T I.kIn ho hno ?_)
  intro h' tk' dx k big ne hx hn
  have fresh : H dx = none := I.hok.fresh big
  have notd : ∀ {b : Addr} {o : Obj}, hp.get? b = some o → b ≠ dx := by
    intro b o q
    exact Nat.ne_of_lt (Nat.lt_of_lt_of_le (Heap.lt_size q) big)
  have nota : ∀ {b : Addr}, H b = none → b ≠ a := by
    intro b n z
    rw [z, e] at n
    cases n
  have step : Un X.fs [] H (upd (upd H dx (exd dx [(f, y)])) a (exo a C (some dx))) hp h' := by
    constructor
    case keep => exact fun b o q n _ _ => k b o (nota n) q
    case slot => exact fun b o q n _ _ => ⟨o.slots, k b o (nota n) q⟩
    case free =>
      intro b o q n _
      rw [upd_ne (nota n), upd_ne (notd q)]
      exact n
    case there =>
      intro b o q _
      by_cases hb : b = a
      · subst hb
        exact ⟨_, hx⟩
      · exact ⟨o, k b o hb q⟩
    case tups =>
      intro b xs q
      rw [upd_ne (at_ne e q exo_tup), upd_ne (ne_of_none q fresh)]
      exact q
    case frzs =>
      intro b o v q
      rw [upd_ne (at_ne e q exo_frz), upd_ne (ne_of_none q fresh)]
      exact q
    case tbls =>
      intro b ps q
      refine ⟨#[], ?_⟩
      rw [upd_ne (at_ne e q exo_tbl), upd_ne (ne_of_none q fresh), q]
      simp
  refine h dx _ fresh ne (I.un (t' := tk') step ?_)
  intro b o q
  by_cases hb : b = a
  · subst hb
    rw [upd_same] at q
    cases q
    exact exo_ok hx
  rw [upd_ne hb] at q
  by_cases hd : b = dx
  · subst hd
    rw [upd_same] at q
    cases q
    exact exd_ok hn (relO_put (fs := []) ry fun _ => True.intro)
  rw [upd_ne hd] at q
  refine (I.hok b o q).stay (fun c v hc z => k c v ?_ z) (fun c hc => ?_) (fun c xs hc => ?_)
  · rcases hc with rfl | hc
    · exact hb
    · exact at_ne e hc exo_own
  · rw [upd_ne (at_ne e hc exo_own), upd_ne (ne_of_none hc fresh)]
    exact hc
  · rw [upd_ne (at_ne e hc exo_tup), upd_ne (ne_of_none hc fresh)]
    exact hc
theorem put_further (T : OexB X.K C) (I : Inv X pins σ H s) (e : H a = some (exo a C (some dx))) (ed : H dx = some (exd dx fs)) (hl : fs.length ≤ 900) (hno : PySem.W.findIn X.K (.ref C) f = some none) (ry : RelV y u)
    (h : ∀ s', Inv X pins σ (upd H dx (exd dx ((f, y) :: fs))) s' → Q () s') : wpAny (model X.prog X.w) A (setAttr (.ref a) f u) Q E s := by
  obtain ⟨t1, ho⟩ := exo_at I.hok e
  obtain ⟨mA, hns, rel⟩ := exd_at I.hok ed
  have hw := within_of rel
  obtain ⟨hp, g, d, t, os⟩ := s
  obtain ⟨oD, _, _, hoD, _, _⟩ := hns.count hw
  refine PySem.W.set_plain I.kIn (od := some oD) ⟨ho, rfl, rfl, hoD⟩ T.sa (sa_further T I.kIn ho hns hw ?_ hno ?_)
  · rw [List.length_map]
    omega
  · intro h' tk' k hn
    have there : ∃ o, h'.get? dx = some o := by
      obtain ⟨o, _, _, e', _⟩ := hn
      exact ⟨o, e'⟩
    refine h _ (I.write (t' := tk') (x := dx) (e := dx) (o := exd dx ((f, y) :: fs)) ?_ (.inl rfl) k there (exd_ok hn (relO_put ry rel)))
    rw [ed]
    exact True.intro
end
/-- self.f = y in the __init__ of an exception -/
def tPut (K : PySem.W.Frag) (f : Str) (to te : TE) : TS := fun D σ H => te σ H fun y H1 => to σ H1 fun x H2 => ∃ a C : Addr, x = .ref a ∧ OexB K C ∧ PySem.W.findIn K (.ref C) f = some none ∧
  ((H2 a = some (exo a C none) ∧ ∀ dx, H2 dx = none → dx ≠ a → D.nx σ (upd (upd H2 dx (exd dx [(f, y)])) a (exo a C (some dx)))) ∨
    ∃ (dx : Addr) (fs : List (Str × V)), H2 a = some (exo a C (some dx)) ∧ H2 dx = some (exd dx fs) ∧ fs.length ≤ 900 ∧ D.nx σ (upd H2 dx (exd dx ((f, y) :: fs))))
section
variable {X : Cx} {o e : Expr} {es : List Expr} {to te : TE} {ta : TA} {f : Str} {p p' pos : Pos}
theorem ps_put (ho : PE X o to) (he : PE X e te) (hs : swapsWith e (some (.Attribute o f p')) pos.line X.env = pure false := by rfl) : PS X (.Assign [.Attribute o f p'] e pos) (tPut X.K f to te) := by
  constructor
  intro pins s σ H D I h
  refine plainObj_wpAny_Assign_Attribute (thn (he.run pins s σ H _ I h) ?_) hs
  rintro v s1 ⟨y, H1, I1, r1, q1⟩
  refine thn (ho.run pins s1 σ H1 _ I1 q1) ?_
  rintro u s2 ⟨x, H2, I2, r2, a, C, rfl, T, hno, q⟩
  obtain rfl : u = Value.ref a := r2
  rcases q with ⟨ea, q⟩ | ⟨dx, fs, ea, ed, hl, q⟩
  · exact put_first T I2 ea hno r1 fun dx s' n ne J => ⟨σ, _, J, q dx n ne⟩
  · exact put_further T I2 ea ed hl hno r1 fun s' J => ⟨σ, _, J, q⟩
/-- C(e, ..) of such a class, to be raised -/
theorem pmk_oexB {CX : CXT} {x : Str} {C fI : Addr} {k : Nat} {fd : FuncData} {ps : List Str} {sp : Sp} (T : OexB X.K C) (iC : PySem.W.findIn X.K (.ref C) "__init__" = some (some (.ref fI))) (tI : PySem.W.typeIn X.K (.ref fI) = some (.type "function"))
    (G : FnOk X.prog X.w X.K X.mg X.base CX k fI fd ps sp) (hr : Room (k + 1) X.A) (hb : Binds X.K fd ps []) (hx : Passes CX X (fun _ _ _ => False)) (hg : Gl X x) (hm : X.mg x = some (.ref C)) (ha : PA X (e :: es) ta)
    (hdb : (x == ("__debug__" : Str)) = false := by decide) (he : starEach (e :: es) X.env = (false, eval e X.env) :: starEach es X.env := by rfl) (hpl : (backTo pos (starEach es X.env)).any (·.1) = false := by rfl) :
    PMk X (.Call (.Name x p) (e :: es) [] pos) (tMkO C sp [] ta) := by
  intro pins s σ H Q I h
  obtain ⟨B, newId, initId, bmB, bm, nm, qn, N, bs, hdct, sn, sub, ab, col, dd, k0, k1, k2, k3, k5, FB, hT, hC0⟩ := T.made
  refine wpAny_Call_Name_kw (ld_glob I hg hm ?_ hdb)
  refine PySem.W.callWith_K (h₀ := X.base) I.ok.mod.kin T.kC (thn (ha.run pos pins s σ H _ I h) ?_) he hpl
  rintro us s1 ⟨vs, H1, I1, r1, hz, q1⟩
  refine ⟨I1.kIn, ?_⟩
  show wpAny _ _ (call (.ref C) us) _ _ _
  obtain ⟨hp, g, dr, tk, os⟩ := s1
  have hC := I1.kIn _ _ hC0
  let A1 := hp.objs.size + 1
  let hp2 := (hp.push (PySem.W.kdv_tup us)).push (PySem.HandSPX.excO C hp.objs.size)
  have big : hp.objs.size ≤ A1 := Nat.le_succ _
  have q2 := q1 A1 (I1.hok.fresh big)
  have kk : ∀ b o, hp.get? b = some o → hp2.get? b = some o := fun b o e => Heap.get?_push_of_some _ (Heap.get?_push_of_some _ e)
  have got : hp2.get? A1 = some (PySem.HandSPX.excO C hp.objs.size) := by
    show ((hp.push (PySem.W.kdv_tup us)).push (PySem.HandSPX.excO C hp.objs.size)).get? (hp.objs.size + 1) = _
    heap_get
  have I2 : Inv X pins σ (upd H1 A1 (exo A1 C none)) ⟨hp2, g, dr, tk, os⟩ := I1.laid (t' := tk) (a := A1) (o := exo A1 C none) (h' := hp2) kk big (exo_ok got)
  have r2 : Vals (V.ref A1 :: (vs ++ [])) (Value.ref A1 :: us) := by
    rw [List.append_nil]
    exact .cons rfl r1
  have hlen : (Value.ref A1 :: us).length = ps.length := by
    rw [← r2.length]
    exact G.len _ _ _ _ q2
  have hus : us.length ≤ sizeLine := by
    rw [← Paired.length r1, sizeLine_eq]
    omega
  have bd := hb ⟨hp2, g, dr, tk, os⟩ (Value.ref A1 :: us) I2.kIn (by rw [List.append_nil]; exact hlen)
  rw [List.append_nil] at bd
  refine wpAny_call (mk_call FB hT hC (PySem.W.looks_findIn I1.kIn iC) (fun self => PySem.W.bind_fn I1.kIn self tI) hus ?_)
  refine codeAny_mono (G.run _ X.stack _ _ ⟨Value.ref A1 :: us, []⟩ (Value.ref A1 :: us) _ _ (fun _ _ _ => False) (hr.make C us []) (I2.env0.make C us []) bd r2 q2) ?_
  intro r s' hq'
  match r, hq' with
  | .error er, hq' => exact hx pins σ _ _ er s' I2 hq'
  | .ok (.ret u), ⟨v, H2, os2, bare2, un2, hok2, rv, ev, d, fs, ea, ed, hd1, q3⟩ =>
    subst ev
    obtain ⟨h2, g2, d2, t2, os'⟩ := s'
    exact ⟨rv, mk_end (raises_own T.exC T.tyC) I1 big kk un2 hok2 os2 bare2 ea ed hd1 q3⟩
end
/-! ### a kept exception, looked at -/
/-- at a stands a kept exception of the class C with these fields -/
def KeptE (H : Hp) (a C : Addr) (fs : List (Str × V)) : Prop := ∃ dd : Addr, H a = some (keptX (.ref C) (some dd) a) ∧ H dd = some (.xd fs)
theorem keptE_inst {X : Cx} {pins : List (Addr × Obj)} {σ : L2.St} {H : Hp} {s : Shared} {a C : Addr} {fs : List (Str × V)} (I : Inv X pins σ H s) (h : KeptE H a C fs) : ∃ (ox od : Obj), PySem.W.InstAt s.heap a ox C (some od) ∧
    ∀ f, ∃ u, RelO (fs.lookup f) u ∧ PySem.W.lookIn f od = some u := by
  obtain ⟨dd, ea, ed⟩ := h
  obtain ⟨oe, vs, ho, hz, hd⟩ := keptX_at I.hok ea
  have hx : ObjOk X.prog X.w H s.heap dd (.xd fs) := I.hok dd _ ed
  obtain ⟨mA, hns, hr⟩ := hx
  obtain ⟨od, h1, hl⟩ := lookIn_ns hns
  refine ⟨oe, od, ⟨ho, hz.1, ?_, ?_⟩, fun f => ⟨mA f, hr f, hl f⟩⟩
  · unfold PySem.W.notCls
    rw [hd] <;> rfl
  · rw [hz.2]
    exact h1
/-- e.f, e a kept exception -/
def tFldX (K : PySem.W.Frag) (f : Str) (te : TE) : TE := fun σ H Q => te σ H fun x H1 => ∃ (a C : Addr) (fs : List (Str × V)) (v : V), x = .ref a ∧ XfC K C ∧ PySem.W.findIn K (.ref C) f = some none ∧ KeptE H1 a C fs ∧ fs.lookup f = some v ∧ Q v H1
theorem pe_fldX {X : Cx} {e : Expr} {te : TE} {pos : Pos} {n : Str} (he : PE X e te) (hb : attributeBase e n X.env (eval e X.env) = eval e X.env := by rfl) : PE X (.Attribute e n pos) (tFldX X.K n te) := by
  constructor
  intro pins s σ H Q I h
  refine attr_of hb (thn (he.run pins s σ H _ I h) ?_)
  rintro u s1 ⟨x, H1, I1, rx, a, C, fs, v, rfl, T, hno, hk, l, q⟩
  obtain rfl : u = Value.ref a := rx
  obtain ⟨ox, od, J, look⟩ := keptE_inst I1 hk
  obtain ⟨m, r, hl⟩ := look n
  obtain ⟨u, hu, ru⟩ := RelO.some_of (v := v) (o := m) (by rw [← l]; exact r)
  exact HandSPX.exc_get I1.kIn J T.ga T.gg T.exC (PySem.W.findObj_own T.hdC hno rfl (by rw [hl, hu])) (handed_of ru) ⟨v, H1, I1.tok _, ru, q⟩
theorem keptE_kit {K : PySem.W.Frag} {a C : Addr} {od : Option Obj} {ox : Obj} (T : ExcC K C) : PySem.W.KitX K (.ref a) (.ref C) (fun h => PySem.W.InstAt h a ox C od) := by
  obtain ⟨cd, hc, _⟩ := PySem.W.any_some T.hd
  exact PySem.W.kitx_exc (by rw [hc]; rfl) T.hg T.hk T.hs T.ha T.hn T.ht T.hm
/-- isinstance(e, c) of a kept exception, or of what the layer knows already -/
def rIsO (K : PySem.W.Frag) : List V → Hp → VK → Prop := fun xs H Q => rIsi K xs H Q ∨ ∃ (a C : Addr) (fs : List (Str × V)) (c : V) (u : Value) (b : Bool), xs = [.ref a, c] ∧ KeptE H a C fs ∧ ExcC K C ∧ ClsV c u ∧ PySem.W.kitOne K (.ref C) u = some b ∧ Q (.bl b) H
theorem call_isO {X : Cx} : CallR X (.builtin "isinstance") (rIsO X.K) := by
  intro pins s σ H xs us Q I r h
  rcases h with h | ⟨a, C, fs, c, u, b, rfl, hk, T, k, e, q⟩
  · exact call_isi pins s σ H xs us Q I r h
  obtain ⟨u1, u2, rfl, r1, r2⟩ := vals2 r
  obtain rfl : u1 = Value.ref a := r1
  have e2 := k.eq r2
  subst e2
  obtain ⟨ox, od, J, _⟩ := keptE_inst I hk
  exact PySem.W.kia_one (keptE_kit T) I.kIn J e (fun z => nomatch z) fun tk => ⟨.bl b, H, I.tok tk, rfl, q⟩
/-- isinstance(e, (c1, c2, ..)) of a kept exception, or of what the layer knows already -/
def rIsOT (K : PySem.W.Frag) : List V → Hp → VK → Prop := fun xs H Q => rIsiT K xs H Q ∨ ∃ (a C : Addr) (fs : List (Str × V)) (tp : Addr) (cs : List V) (us : List Value) (b : Bool), xs = [.ref a, .ref tp] ∧ KeptE H a C fs ∧ ExcC K C ∧ H tp = some (.tup cs) ∧ Paired ClsV cs us ∧
  PySem.W.kitAny K (.ref C) us = some b ∧ Q (.bl b) H
theorem call_isOT {X : Cx} : CallR X (.builtin "isinstance") (rIsOT X.K) := by
  intro pins s σ H xs us Q I r h
  rcases h with h | ⟨a, C, fs, tp, cs, ws, b, rfl, hk, T, hT, k, e, q⟩
  · exact call_isiT pins s σ H xs us Q I r h
  obtain ⟨u1, u2, rfl, r1, r2⟩ := vals2 r
  obtain rfl : u1 = Value.ref a := r1
  obtain rfl : u2 = Value.ref tp := r2
  obtain ⟨ox, od, J, _⟩ := keptE_inst I hk
  have ht : ObjOk X.prog X.w H s.heap tp (.tup cs) := I.hok tp _ hT
  obtain ⟨_, its, rv, o, h1, h2, n, h3⟩ := ht
  have e3 := ClsV.all k rv
  subst e3
  obtain ⟨oc, od', dt, sl⟩ := o
  simp only at h2 h3
  subst h2 h3
  exact PySem.W.kia_tup (keptE_kit T) I.kIn J h1 e (fun z => nomatch z) fun tk => ⟨.bl b, H, I.tok tk, rfl, q⟩
/-! ### an object made that may refuse -/
section
variable {X : Cx} {CX : CXT} {k : Nat} {f C : Addr} {fd : FuncData} {ps : List Str} {sp : Sp} {dvs : List V} {ds : List Value} {E : L2.St → XK} {x : Str} {p pos : Pos} {e : Expr} {es : List Expr} {t : TA}
def tMakeS (C : Addr) (sp : Sp) (dvs : List V) (E : L2.St → XK) (t : TA) : TE := fun σ H Q => t σ H fun vs H1 => ∀ x dx, H1 x = none → H1 dx = none → dx ≠ x → sp (.ref x :: (vs ++ dvs)) (upd (upd H1 dx (.own x)) x (.ins C dx [])) (fun v H2 => v = .non ∧ Q (.ref x) H2) (E σ)
theorem pe_makeS (M : Mk X.K C f) (G : FnOk X.prog X.w X.K X.mg X.base CX k f fd ps sp) (hr : Room (k + 1) X.A) (hg : Gl X x) (hm : X.mg x = some (.ref C)) (hb : Binds X.K fd ps ds) (hd : Vals dvs ds) (hx : ∀ σ, PassesAt CX X σ (E σ))
    (ha : PA X (e :: es) t) (hdb : (x == ("__debug__" : Str)) = false := by decide) (he : starEach (e :: es) X.env = (false, eval e X.env) :: starEach es X.env := by rfl) (hpl : (backTo pos (starEach es X.env)).any (·.1) = false := by rfl) :
    PE X (.Call (.Name x p) (e :: es) [] pos) (tMakeS C sp dvs E t) := by
  constructor
  intro pins s σ H Q I h
  refine wpAny_Call_Name_kw (ld_glob I hg hm ?_ hdb)
  refine PySem.W.callWith_K (h₀ := X.base) I.ok.mod.kin M.kp (thn (ha.run pos pins s σ H _ I h) ?_) he hpl
  rintro us s1 ⟨vs, H1, I1, r, q⟩
  refine ⟨I1.kIn, ?_⟩
  have q2 := q (s1.heap.objs.size + 1) s1.heap.objs.size (I1.hok.fresh (Nat.le_succ _)) (I1.hok.fresh (Nat.le_refl _)) (Nat.ne_of_lt (Nat.lt_succ_self _))
  have J := Inv.made (C := C) I1
  have r2 : Vals (V.ref (s1.heap.objs.size + 1) :: (vs ++ dvs)) (Value.ref (s1.heap.objs.size + 1) :: (us ++ ds)) := .cons rfl (r.append hd)
  have hl : (Value.ref (s1.heap.objs.size + 1) :: us ++ ds).length = ps.length := by
    have e := r2.length
    rw [G.len _ _ _ _ q2] at e
    exact e.symm
  refine wpAny_call (make_map (f := f) I1.kIn M.makes M.init (beq_iff_eq.mp M.fn) (codeAny_mono (G.run _ X.stack _ _ ⟨Value.ref (s1.heap.objs.size + 1) :: us, []⟩ (Value.ref (s1.heap.objs.size + 1) :: (us ++ ds)) _ _ (E σ) (hr.make C us [])
    (J.env0.make C us []) (hb _ (Value.ref (s1.heap.objs.size + 1) :: us) J.kIn hl) r2 q2) ?_))
  intro r s' hq
  match r, hq with
  | .error er, hq => exact hx σ pins _ _ er s' J hq
  | .ok (.ret u), hq =>
    obtain ⟨v, H', I3, rv, ev, q3⟩ := J.after hq
    subst ev
    exact ⟨rv, ⟨V.ref (s1.heap.objs.size + 1), H', I3, rfl, q3⟩⟩
end
theorem oex_of {K : PySem.W.Frag} {B newId initId : String} {nm q : Str} {C N : Addr} {bs bm : List Value} {sn : List Str} {sub : List Value} {ab : Bool} {col : Option Bool} {dd : Option Addr} {m0 m1 m2 m3 m5 : Option Value}
    (FB : PySem.ExcBaseFacts B newId initId bm) (SF : PySem.StoreFacts B bm "object.__setattr__" "object") (xL : K.lookup C = some (excClassObj nm q C N bs bm true sn sub ab col dd m0 m1 m2 m3 m5 newId)) (ht : PySem.W.excTail bm bm = true)
    (hd : PySem.W.hasDictIn K C = true) (sa : PySem.W.findIn K (.ref C) "__setattr__" = some (some (.builtin "object.__setattr__"))) (exC : PySem.W.subIn K (.ref C) (.type "BaseException") = some true) (tyC : PySem.W.typeIn K (.ref C) = some (.type "type")) (kC : PySem.W.keepIn K (.ref C) = true) : OexB K C := by
  refine ⟨⟨B, newId, initId, bm, bm, nm, q, N, bs, true, sn, sub, ab, col, dd, m0, m1, m2, m3, m5, FB, ⟨FB.hasB, FB.noAttr, FB.noName⟩, xL⟩, ⟨B, bm, SF, ?_⟩, hd, sa, exC, tyC, kC⟩
  unfold PySem.W.excOver PySem.W.clsIn
  rw [xL]
  simp [excClassObj, ht]
/-- KeyError: stores by its own facts, made by LookupError's __new__ -/
abbrev keyTail : List Value := [.type "KeyError", .type "LookupError", .type "Exception", .type "BaseException", .type "object"]
theorem store_KeyError : PySem.StoreFacts "KeyError" keyTail "object.__setattr__" "object" :=
  ⟨by kernel_rfl, .of (n := "__setattr__") (owner := "object") (by rw [typeLookup_type, builtinLookup_eq_fast]; kernel_rfl) (by decide +kernel) (by decide +kernel) (by decide +kernel) (.inl (by decide +kernel)) (by rw [isSubtype_type]; kernel_rfl),
    PySem.F.entry_object_sa, by decide +kernel, by decide +kernel, by decide +kernel, fun a b c => by unfold argsOk; kernel_rfl, fun self => by kernel_rfl⟩
theorem oex_key {K : PySem.W.Frag} {nm q : Str} {C N : Addr} {bs : List Value} {sn : List Str} {sub : List Value} {ab : Bool} {col : Option Bool} {dd : Option Addr} {m0 m1 m2 m3 m5 : Option Value}
    (xL : K.lookup C = some (excClassObj nm q C N bs keyTail true sn sub ab col dd m0 m1 m2 m3 m5 "LookupError.__new__"))
    (hd : PySem.W.hasDictIn K C = true) (sa : PySem.W.findIn K (.ref C) "__setattr__" = some (some (.builtin "object.__setattr__"))) (exC : PySem.W.subIn K (.ref C) (.type "BaseException") = some true) (tyC : PySem.W.typeIn K (.ref C) = some (.type "type")) (kC : PySem.W.keepIn K (.ref C) = true) : OexB K C := by
  refine ⟨⟨"LookupError", _, _, _, keyTail, nm, q, N, bs, true, sn, sub, ab, col, dd, m0, m1, m2, m3, m5, PySem.F.excBase_LookupError, ⟨by decide +kernel, by decide +kernel, by decide +kernel⟩, xL⟩, ⟨"KeyError", keyTail, store_KeyError, ?_⟩, hd, sa, exC, tyC, kC⟩
  unfold PySem.W.excOver PySem.W.clsIn
  rw [xL]
  simp [excClassObj, show PySem.W.excTail keyTail keyTail = true by decide +kernel]
theorem kit_up {K : PySem.W.Frag} {C : Addr} {T : String} (m : PySem.W.kitMeta T = true) (s : PySem.W.subIn K (.ref C) (.type T) = some true) : PySem.W.kitOne K (.ref C) (.type T) = some true := by
  show (if (Value.ref C == Value.type T) = true then some true else if PySem.W.kitMeta T = true then PySem.W.subIn K (.ref C) (.type T) else none) = some true
  rw [if_neg (by intro z; cases z), if_pos m]
  exact s
theorem kit_cls2 {K : PySem.W.Frag} {C D : Addr} {b : Bool} (ic : PySem.W.isClsIn K D = true) (ty : PySem.W.typeIn K (.ref D) = some (.type "type")) (s : PySem.W.subIn K (.ref C) (.ref D) = some b) : PySem.W.kitCls K (.ref C) (.ref D) = some b := by
  have ic' : (PySem.W.clsIn K D).isSome = true := ic
  have e : ((PySem.W.clsIn K D).isSome && PySem.W.typeIn K (.ref D) == some (.type "type")) = true := by rw [ic', ty]; rfl
  show (if ((PySem.W.clsIn K D).isSome && PySem.W.typeIn K (.ref D) == some (.type "type")) = true then PySem.W.subIn K (.ref C) (.ref D) else none) = some b
  rw [if_pos e]
  exact s
theorem kit_other {K : PySem.W.Frag} {C D : Addr} (self : PySem.W.subIn K (.ref C) (.ref C) = some true) (ic : PySem.W.isClsIn K D = true) (ty : PySem.W.typeIn K (.ref D) = some (.type "type")) (s : PySem.W.subIn K (.ref C) (.ref D) = some false) : PySem.W.kitOne K (.ref C) (.ref D) = some false := by
  have ne : ¬ (Value.ref C == Value.ref D) = true := by
    intro z
    have e := eq_of_beq z
    injection e with e
    subst e
    rw [self] at s
    cases s
  show (if (Value.ref C == Value.ref D) = true then some true else PySem.W.kitCls K (.ref C) (.ref D)) = some false
  rw [if_neg ne]
  exact kit_cls2 ic ty s
theorem exm_hit {K : PySem.W.Frag} {C : Addr} (ex : PySem.W.subIn K (.ref C) (.type "BaseException") = some true) (ic : PySem.W.isClsIn K C = true) (ty : PySem.W.typeIn K (.ref C) = some (.type "type")) (s : PySem.W.subIn K (.ref C) (.ref C) = some true) : PySem.W.exmOne K (.ref C) (.ref C) = some true := by
  show (if (PySem.W.subIn K (.ref C) (.type "BaseException") == some true) = true then PySem.W.kitCls K (.ref C) (.ref C) else none) = some true
  rw [if_pos (by rw [ex]; rfl)]
  exact kit_cls2 ic ty s
theorem any_no {K : PySem.W.Frag} {t c : Value} {cs : List Value} (h : PySem.W.kitOne K t c = some false) (r : PySem.W.kitAny K t cs = some false) : PySem.W.kitAny K t (c :: cs) = some false := kitAny_cons h (fun _ => r) (fun z => nomatch z)
/-! ### a block by a reading of one's own -/
theorem pss_imp {X : Cx} {b : List Stmt} {t t' : TS} (h : PSs X b t) (i : ∀ D σ H, t' D σ H → t D σ H) : PSs X b t' := ⟨fun pins s σ H D I z => h.run pins s σ H D I (i _ _ _ z)⟩
/-! ### o.m(e, .., k = v, ..), what is raised wished for at the caller's slots -/
section
variable {X : Cx} {CX : CXT} {k n : Nat} {f C : Addr} {fd : FuncData} {ps ks : List Str} {sp : Sp} {E : L2.St → XK} {m : Str} {apos pos : Pos} {o e : Expr} {es : List Expr} {kws : List Keyword} {ta : TE} {t tk : TA} {g : List Value → List Value → List Value} {gV : List V → List V → List V}
theorem passNo {P : Program} {w : World} {σ : L2.St} (hP : X.prog = P) (hw : X.w = w) : PassesAt (L2.CX P w) X σ E0 := by
  intro pins H s e s' I h
  obtain ⟨_, _, _, _, _, _, _, _, _, _, _, _, z⟩ := h
  exact (show False from z).elim
theorem run_kbn {pins : List (Addr × Obj)} {σ : L2.St} {H : Hp} {s : Shared} {Q : VK} {us ws : List Value} {vs zs : List V} (F : FnOk X.prog X.w X.K X.mg X.base CX k f fd ps sp) (hr : Room k X.A) (hb : KBn X.K fd ps n ks g gV) (hx : PassesAt CX X σ (E σ))
    (I : L2.Inv X pins σ H s) (r : Vals vs us) (rz : Vals zs ws) (l1 : vs.length = n) (l2 : zs.length = ks.length) (h : sp (gV vs zs) H Q (E σ)) : wpAny (model X.prog X.w) X.A (call (.ref f) us (ks.zip ws)) (EP X pins σ Q) X.xe s := by
  have bd := hb.to s us ws I.kIn (r.length.symm.trans l1) (rz.length.symm.trans l2)
  refine wpAny_call (codeAny_mono (F.run X.A X.stack s H ⟨us, ks.zip ws⟩ (g us ws) (gV vs zs) Q (E σ) hr I.env0 bd (hb.rel r rz) h) fun z s' hz => ?_)
  match z, hz with
  | .error er, hz => exact hx pins H s er s' I hz
  | .ok (.ret u), hz => exact I.after hz
  | .ok .next, hz => exact (show False from hz).elim
  | .ok .brk, hz => exact (show False from hz).elim
  | .ok .cont, hz => exact (show False from hz).elim
def tMethA (C : Addr) (m : Str) (n nk : Nat) (sp : Sp) (gV : List V → List V → List V) (E : L2.St → XK) (ta : TE) (t tk : TA) : TE := fun σ H Q => ta σ H fun x H1 => ∃ a dx fs, x = .ref a ∧ H1 a = some (.ins C dx fs) ∧ fs.lookup m = none ∧
  t σ H1 fun vs H2 => tk σ H2 fun zs H3 => vs.length = n ∧ zs.length = nk ∧ sp (gV (.ref a :: vs) zs) H3 Q (E σ)
theorem pe_methA {pl : Sem Bool} (he : PE X o ta) (c : Cls X.K C) (hm : Meth X.K C m f) (F : FnOk X.prog X.w X.K X.mg X.base CX k f fd ps sp) (hr : Room k X.A) (hb : KBn X.K fd ps (n + 1) ks g gV) (hx : ∀ σ, PassesAt CX X σ (E σ))
    (ha : PA X (e :: es) t) (hkw : PK X kws tk) (n1 : (backToKw pos (keywordEach kws X.env)).all (·.1.isSome) = true := by rfl) (n2 : (backToKw pos (keywordEach kws X.env)).filterMap (·.1) = ks := by rfl)
    (n3 : starEach (e :: es) X.env = (false, eval e X.env) :: starEach es X.env := by rfl) (n4 : ((backTo pos (starEach (e :: es) X.env)).any (·.1) || (backToKw pos (keywordEach kws X.env)).any (·.1.isNone)) = false := by rfl)
    (n5 : eval (.Call (.Attribute o m apos) (e :: es) kws pos) X.env = (do
      let ov ← eval o X.env
      standAt apos.atName
      let (f, first) ← holding [ov] (getMethod ov m pl)
      callWith pos f first (backTo pos (starEach (e :: es) X.env)) (backToKw pos (keywordEach kws X.env))) := by rfl) :
    PE X (.Call (.Attribute o m apos) (e :: es) kws pos) (tMethA C m n ks.length sp gV E ta t tk) := by
  constructor
  intro pins s σ H Q I h
  refine PySem.W.methodCall_KW (pl := pl) (thn (he.run pins s σ H _ I h) ?_) n5
  rintro u s1 ⟨x, H1, I1, rx, a, dx, fs, rfl, ea, l, q⟩
  cases (show u = Value.ref a from rx)
  refine getmeth_ok I1 ea c hm l ?_
  refine PySem.W.callWith_KW (first := [.ref a]) (h₀ := X.base) I.ok.mod.kin hm.kp n1 (thn (ha.run pos pins s1 σ H1 _ I1 q) ?_) n4 n3
  rintro us s2 ⟨vs, H2, I2, r, q2⟩
  refine thn (hkw.run pos pins s2 σ H2 _ I2 q2) ?_
  rintro ws s3 ⟨zs, H3, I3, rz, l1, l2, q3⟩
  refine ⟨I3.kIn, ?_⟩
  rw [n2]
  exact run_kbn (us := .ref a :: us) (vs := .ref a :: vs) F hr hb (hx σ) I3 (.cons rfl r) rz (congrArg Nat.succ l1) l2 q3
/-- o.m(k = v, ..) -/
theorem pe_methA0 {pl : Sem Bool} (he : PE X o ta) (c : Cls X.K C) (hm : Meth X.K C m f) (F : FnOk X.prog X.w X.K X.mg X.base CX k f fd ps sp) (hr : Room k X.A) (hb : KBn X.K fd ps 1 ks g gV) (hx : ∀ σ, PassesAt CX X σ (E σ))
    (hkw : PK X kws tk) (n1 : (backToKw pos (keywordEach kws X.env)).all (·.1.isSome) = true := by rfl) (n2 : (backToKw pos (keywordEach kws X.env)).filterMap (·.1) = ks := by rfl)
    (n4 : ((backTo pos (starEach [] X.env)).any (·.1) || (backToKw pos (keywordEach kws X.env)).any (·.1.isNone)) = false := by rfl)
    (n5 : eval (.Call (.Attribute o m apos) [] kws pos) X.env = (do
      let ov ← eval o X.env
      standAt apos.atName
      let (f, first) ← holding [ov] (getMethod ov m pl)
      callWith pos f first (backTo pos (starEach [] X.env)) (backToKw pos (keywordEach kws X.env))) := by rfl) :
    PE X (.Call (.Attribute o m apos) [] kws pos) (tMethA C m 0 ks.length sp gV E ta tNil tk) := by
  constructor
  intro pins s σ H Q I h
  refine PySem.W.methodCall_KW (pl := pl) (thn (he.run pins s σ H _ I h) ?_) n5
  rintro u s1 ⟨x, H1, I1, rx, a, dx, fs, rfl, ea, l, q⟩
  cases (show u = Value.ref a from rx)
  refine getmeth_ok I1 ea c hm l ?_
  refine PySem.W.callWith_KW0 (first := [.ref a]) (h₀ := X.base) I.ok.mod.kin hm.kp n1 ?_ n4
  refine thn (hkw.run pos pins s1 σ H1 _ I1 q) ?_
  rintro ws s3 ⟨zs, H3, I3, rz, l1, l2, q3⟩
  refine ⟨I3.kIn, ?_⟩
  rw [n2]
  exact run_kbn (us := [.ref a]) (vs := [.ref a]) F hr hb (hx σ) I3 (.cons rfl .nil) rz rfl l2 q3
/-- places alone, as a case of both -/
theorem kbn_of {K : Frag} {ds : List Value} {dvs : List V} (hb : L2.Binds K fd ps ds) (hd : Vals dvs ds) (hn : n + ds.length = ps.length) : KBn K fd ps n [] (fun us _ => us ++ ds) (fun vs _ => vs ++ dvs) :=
  ⟨fun s us ws X l1 l2 => hb s us X (by rw [List.length_append, l1, hn]), fun a _ => a.append hd⟩
end
/-! ### max(xs, default=d) of a list of ints -/
section
variable {prog : Program} {w : World} {A : Around} {R : Result → Shared → Prop} {I : Addr} {fp wr : List Addr} {n : Nat} {Pi : Nat → Value → Prop} {St : Nat → Heap → Prop}
theorem max_turns (W : Walks prog w A.in1 I fp wr n Pi St) (bt : Nat → Nat → Bool) (cm : CmpOf prog w A.in1 .Gt Pi bt) (S : Addr) (out : S ∉ fp) (kw : List (Str × Value)) : ∀ (k j : Nat) (s : Shared) (vb : Value) (c : Nat), n - (j + 1) = k → j + 1 ≤ n → St (j + 1) s.heap → Pi (argBest bt j) vb →
    s.heap.get? S = some { cls := .type "list", dict := none, data := .seq #[vb, vb] c, slots := #[] } →
    (∀ v h' tk, Pi (argBest bt (n - 1)) v → (∀ b o, b ∉ wr → b ≠ S → s.heap.get? b = some o → h'.get? b = some o) → R (.ok (.ret v)) { s with heap := h', toks := tk }) → codeAny (model prog w) A (.builtin "max.loop" ⟨[.ref I, .none, .ref S], kw⟩) R s := by
  have outW : S ∉ wr := fun z => out (W.sub _ z)
  have nm : (toString "max" ++ toString ".loop" : String) = "max.loop" := by decide
  intro k
  induction k with
  | zero =>
    intro j s vb c hk hj st hP hS q
    have last : j + 1 = n := by omega
    refine codeAny_builtin PySem.F.entry_max_loop ?_; rw [Around.under_plainId PySem.F.plain_max_loop _]
    show wpAny _ A.in1 (seqItems? (.ref S) >>= _) _ _ s; refine wpAny_bind (wpAny_seqItems hS rfl ?_)
    show wpAny _ A.in1 (tryCatch (pyNext (.ref I)) _ >>= _) _ _ s; refine wpAny_bind (wpAny_tryCatch (W.done s _ _ (last ▸ st) fun h' tk kk => ?_))
    have hS2 := kk S _ outW hS
    show wpAny _ A.in1 (updateSeq S (fun _ => #[]) >>= _) _ _ _; refine wpAny_bind (wpAny_updateSeq hS2 rfl (wpAny_bind (wpAny_letGo (wpAny_pure ?_))))
    exact q vb _ tk (by rw [← last]; exact hP) fun b o nb nS e => (Heap.get?_update_other _ _ (Ne.symm nS)).trans (kk b o nb e)
  | succ k ih =>
    intro j s vb c hk hj st hP hS q
    have more : j + 1 < n := by omega
    refine codeAny_builtin PySem.F.entry_max_loop ?_; rw [Around.under_plainId PySem.F.plain_max_loop _]
    show wpAny _ A.in1 (seqItems? (.ref S) >>= _) _ _ s; refine wpAny_bind (wpAny_seqItems hS rfl ?_)
    show wpAny _ A.in1 (tryCatch (pyNext (.ref I)) _ >>= _) _ _ s; refine wpAny_bind (wpAny_tryCatch (W.item (j + 1) s _ _ more st fun v h' tk hv st2 kk => ?_))
    have hS2 := kk S _ outW hS
    show wpAny _ A.in1 (tryCatch (holding [v, v] (richCompare .Gt v vb >>= _)) _ >>= _) _ _ _; refine wpAny_bind (wpAny_tryCatch (wpAny_holding (wpAny_bind (cm (j + 1) (argBest bt j) v vb _ _ _ hv hP ?_))))
    refine wpAny_bind (wpAny_holding (wpAny_truthy_bool (wpAny_bind (wpAny_letGo (wpAny_pure ?_)))))
    cases hb : bt (j + 1) (argBest bt j) with
    | true =>
      simp only [if_true]; refine wpAny_bind (wpAny_updateSeq hS2 rfl (wpAny_bind (wpAny_letGo ?_))); rw [nm]
      refine wpAny_pure ⟨plainId_quiet PySem.F.plain_max_loop _, ih (j + 1) _ v _ (by omega) more (W.frame _ _ _ st2 fun b nb o e => ?_) (by simp only [argBest, hb, if_true]; exact hv) (Heap.get?_update_self _ hS2 rfl) fun v3 h3 tk3 hv3 kk3 => ?_⟩
      · exact (Heap.get?_update_other _ _ (fun z : S = b => out (by rw [z]; exact nb))).trans e
      · exact q v3 h3 tk3 hv3 fun b o nb nS e => kk3 b o nb nS ((Heap.get?_update_other _ _ (Ne.symm nS)).trans (kk b o nb e))
    | false =>
      simp only [Bool.false_eq_true, if_false]; refine wpAny_bind (wpAny_letGo ?_); rw [nm]
      refine wpAny_pure ⟨plainId_quiet PySem.F.plain_max_loop _, ih (j + 1) _ vb c (by omega) more st2 (by simp only [argBest, hb, Bool.false_eq_true, if_false]; exact hP) hS2 fun v3 h3 tk3 hv3 kk3 => ?_⟩
      exact q v3 h3 tk3 hv3 fun b o nb nS e => kk3 b o nb nS (kk b o nb e)
theorem max_first (W : Walks prog w A.in1 I fp wr n Pi St) (bt : Nat → Nat → Bool) (cm : CmpOf prog w A.in1 .Gt Pi bt) (S : Addr) (out : S ∉ fp) (kw : List (Str × Value)) (hn : 0 < n) {s : Shared} {c : Nat} (st : St 0 s.heap)
    (hS : s.heap.get? S = some { cls := .type "list", dict := none, data := .seq #[] c, slots := #[] })
    (q : ∀ v h' tk, Pi (argBest bt (n - 1)) v → (∀ b o, b ∉ wr → b ≠ S → s.heap.get? b = some o → h'.get? b = some o) → R (.ok (.ret v)) { s with heap := h', toks := tk }) : codeAny (model prog w) A (.builtin "max.loop" ⟨[.ref I, .none, .ref S], kw⟩) R s := by
  have outW : S ∉ wr := fun z => out (W.sub _ z)
  have nm : (toString "max" ++ toString ".loop" : String) = "max.loop" := by decide
  refine codeAny_builtin PySem.F.entry_max_loop ?_; rw [Around.under_plainId PySem.F.plain_max_loop _]
  show wpAny _ A.in1 (seqItems? (.ref S) >>= _) _ _ s; refine wpAny_bind (wpAny_seqItems hS rfl ?_)
  show wpAny _ A.in1 (tryCatch (pyNext (.ref I)) _ >>= _) _ _ s; refine wpAny_bind (wpAny_tryCatch (W.item 0 s _ _ hn st fun v h' tk hv st2 kk => ?_))
  have hS2 := kk S _ outW hS
  show wpAny _ A.in1 (updateSeq S (fun _ => #[v, v]) >>= _) _ _ _; refine wpAny_bind (wpAny_updateSeq hS2 rfl ?_); rw [nm]
  refine wpAny_pure ⟨plainId_quiet PySem.F.plain_max_loop _, max_turns W bt cm S out kw _ 0 _ v _ rfl hn (W.frame _ _ _ st2 fun b nb o e => ?_) hv (Heap.get?_update_self _ hS2 rfl) fun v3 h3 tk3 hv3 kk3 => ?_⟩
  · exact (Heap.get?_update_other _ _ (fun z : S = b => out (by rw [z]; exact nb))).trans e
  · exact q v3 h3 tk3 hv3 fun b o nb nS e => kk3 b o nb nS ((Heap.get?_update_other _ _ (Ne.symm nS)).trans (kk b o nb e))
theorem max_empty (W : Walks prog w A.in1 I fp wr 0 Pi St) (S : Addr) (out : S ∉ fp) (d : Value) {s : Shared} {c : Nat} (st : St 0 s.heap)
    (hS : s.heap.get? S = some { cls := .type "list", dict := none, data := .seq #[] c, slots := #[] })
    (q : ∀ h' tk, (∀ b o, b ∉ wr → s.heap.get? b = some o → h'.get? b = some o) → R (.ok (.ret d)) { s with heap := h', toks := tk }) : codeAny (model prog w) A (.builtin "max.loop" ⟨[.ref I, .none, .ref S], [(Str.ofString "default", d)]⟩) R s := by
  refine codeAny_builtin PySem.F.entry_max_loop ?_; rw [Around.under_plainId PySem.F.plain_max_loop _]
  show wpAny _ A.in1 (seqItems? (.ref S) >>= _) _ _ s; refine wpAny_bind (wpAny_seqItems hS rfl ?_)
  show wpAny _ A.in1 (tryCatch (pyNext (.ref I)) _ >>= _) _ _ s; refine wpAny_bind (wpAny_tryCatch (W.done s _ _ st fun h' tk kk => ?_))
  refine wpAny_bind (wpAny_rule ?_)
  exact wpAny_pure (q h' tk kk)
end
section
variable {prog : Program} {w : World} {A : Around} {E : Value → Shared → Prop} {s : Shared} {l : Addr} {its : List Value} {ns : List Int} {Q : Value → Shared → Prop}
theorem max_args (a v : Value) : argsOk "max" ⟨[a], [(Str.ofString "default", v)]⟩ := by unfold argsOk; kernel_rfl
theorem max_dflt (d : Value) (hh : A.handled = none) (hl : s.heap.IsList l its.toArray) (hi : IntsAre its ns)
    (q0 : ns = [] → ∀ h' tk, (∀ b o, s.heap.get? b = some o → h'.get? b = some o) → Q d { s with heap := h', toks := tk })
    (q1 : ∀ h' tk M t', (∀ b o, s.heap.get? b = some o → h'.get? b = some o) → M ∈ ns → (∀ a, a ∈ ns → a ≤ M) → Q (.int M t') { s with heap := h', toks := tk }) : wpAny (model prog w) A (call (.builtin "max") [.ref l] [(Str.ofString "default", d)]) Q E s := by
  obtain ⟨xs, e⟩ := hi.allInts.items
  have hn : numsOf (intItems xs).toList = ns := by rw [← e]; exact hi.numsOf
  rw [nums_intItems] at hn
  subst hn
  rw [e] at hl
  have nm : (toString "max" ++ toString ".loop" : String) = "max.loop" := by decide
  refine kmk_tree PySem.F.kind_max PySem.F.plain_max PySem.F.entry_max (max_args _ _) ?_
  show wpAny _ A.in1 (Builtin.Builtins.bindParams "max" ["key", "default"] 0 ⟨[], [(Str.ofString "default", d)]⟩ >>= _) _ _ s
  refine wpAny_bind (wpAny_of_eq (show Builtin.Builtins.bindParams "max" ["key", "default"] 0 ⟨[], [(Str.ofString "default", d)]⟩ = pure [none, some d] from rfl) (wpAny_bind (wpAny_pure (wpAny_bind ?_))))
  refine iter_intList hl fun s₂ es st hfp hlI => ?_
  subst es
  refine wpAny_bind (wpAny_newObj_type ?_); rw [nm]
  have out : (s.heap.push { cls := .type "list_iterator", data := .fields #[.ref l, .int 0 0] }).objs.size ∉ [s.heap.objs.size, l] := fun z => Nat.lt_irrefl _ (hfp _ z)
  have W := Walks.list (prog := prog) (w := w) (A := A.in1) hh s.heap.objs.size l hlI (intItems xs)
  have hsz : (intItems xs).size = xs.size := by simp [intItems]
  rcases Nat.eq_zero_or_pos xs.size with z | z
  · have ez : (xs.toList.map (·.1)) = [] := by
      have : xs = #[] := Array.eq_empty_of_size_eq_zero z
      rw [this]; rfl
    rw [hsz, z] at W
    refine wpAny_pure ⟨plainId_quiet PySem.F.plain_max_loop _, max_empty W _ out d (W.frame _ _ _ st fun b _ o e => Heap.get?_push_of_some _ e) (Heap.get?_push_size _ rfl) fun h' tk kk => ?_⟩
    exact q0 ez h' tk (old_kept fun b o nb e => kk b o nb (Heap.get?_push_of_some _ e))
  · refine wpAny_pure ⟨plainId_quiet PySem.F.plain_max_loop _, max_first W _ (CmpOf.ints_gt (numAt xs) (fun _ _ => intItems_at)) _ out _ (by rw [hsz]; exact z) (W.frame _ _ _ st fun b _ o e => Heap.get?_push_of_some _ e) (Heap.get?_push_size _ rfl) fun v h' tk hv kk => ?_⟩
    rw [hsz] at hv
    obtain ⟨t, rfl⟩ := intItems_at hv
    obtain ⟨h1, h2⟩ := argBest_gt (numAt xs) (xs.size - 1)
    refine q1 h' tk _ t (old_kept fun b o nb e => kk b o nb (Nat.ne_of_lt (Heap.lt_size e)) (Heap.get?_push_of_some _ e)) ?_ fun a ha => ?_
    · rw [numAt_eq]; exact PySem.getD_mem (by rw [List.length_map, Array.length_toList]; omega)
    · obtain ⟨j, hj, rfl⟩ := mem_getD ha
      rw [List.length_map, Array.length_toList] at hj
      rw [← numAt_eq]; exact h2 j (by omega)
/-- max(xs, default=d): d of none -/
def rDmax (K : PySem.W.Frag) : List V → List V → Hp → VK → Prop := fun vs zs H Q => ∃ (a : Addr) (ns : List Int) (d : V), vs = [V.ref a] ∧ zs = [d] ∧ SqL K H a (ns.map V.int) ∧ (ns = [] → Q d H) ∧ ∀ M, M ∈ ns → (∀ a, a ∈ ns → a ≤ M) → Q (.int M) H
theorem call_Dmax {X : Cx} (hc : X.calm = true) : CallRK X (.builtin "max") ["default"] (rDmax X.K) := by
  intro pins s σ H xs zs us ws Q I r rz h
  obtain ⟨a, ns, d, rfl, rfl, hs, q0, q1⟩ := h
  obtain ⟨its, rv, hl, _⟩ := I.list hs
  obtain ⟨ud, rfl, rd⟩ := Vals.one rz
  rw [Vals.ref1 r]
  exact max_dflt ud (I.ok.hd hc) hl.isList rv.ints (fun e h' tk hk => ⟨d, H, I.kept hk, rd, q0 e⟩) fun h' tk M t' hk h1 h2 => ⟨.int _, H, I.kept hk, ⟨_, rfl⟩, q1 M h1 h2⟩
end
/-! ### min(xs, default=d) of a list of ints -/
section
variable {prog : Program} {w : World} {A : Around} {R : Result → Shared → Prop} {I : Addr} {fp wr : List Addr} {n : Nat} {Pi : Nat → Value → Prop} {St : Nat → Heap → Prop}
theorem min_turns (W : Walks prog w A.in1 I fp wr n Pi St) (bt : Nat → Nat → Bool) (cm : CmpOf prog w A.in1 .Lt Pi bt) (S : Addr) (out : S ∉ fp) (kw : List (Str × Value)) : ∀ (k j : Nat) (s : Shared) (vb : Value) (c : Nat), n - (j + 1) = k → j + 1 ≤ n → St (j + 1) s.heap → Pi (argBest bt j) vb →
    s.heap.get? S = some { cls := .type "list", dict := none, data := .seq #[vb, vb] c, slots := #[] } →
    (∀ v h' tk, Pi (argBest bt (n - 1)) v → (∀ b o, b ∉ wr → b ≠ S → s.heap.get? b = some o → h'.get? b = some o) → R (.ok (.ret v)) { s with heap := h', toks := tk }) → codeAny (model prog w) A (.builtin "min.loop" ⟨[.ref I, .none, .ref S], kw⟩) R s := by
  have outW : S ∉ wr := fun z => out (W.sub _ z)
  have nm : (toString "min" ++ toString ".loop" : String) = "min.loop" := by decide
  intro k
  induction k with
  | zero =>
    intro j s vb c hk hj st hP hS q
    have last : j + 1 = n := by omega
    refine codeAny_builtin PySem.F.entry_min_loop ?_; rw [Around.under_plainId PySem.F.plain_min_loop _]
    show wpAny _ A.in1 (seqItems? (.ref S) >>= _) _ _ s; refine wpAny_bind (wpAny_seqItems hS rfl ?_)
    show wpAny _ A.in1 (tryCatch (pyNext (.ref I)) _ >>= _) _ _ s; refine wpAny_bind (wpAny_tryCatch (W.done s _ _ (last ▸ st) fun h' tk kk => ?_))
    have hS2 := kk S _ outW hS
    show wpAny _ A.in1 (updateSeq S (fun _ => #[]) >>= _) _ _ _; refine wpAny_bind (wpAny_updateSeq hS2 rfl (wpAny_bind (wpAny_letGo (wpAny_pure ?_))))
    exact q vb _ tk (by rw [← last]; exact hP) fun b o nb nS e => (Heap.get?_update_other _ _ (Ne.symm nS)).trans (kk b o nb e)
  | succ k ih =>
    intro j s vb c hk hj st hP hS q
    have more : j + 1 < n := by omega
    refine codeAny_builtin PySem.F.entry_min_loop ?_; rw [Around.under_plainId PySem.F.plain_min_loop _]
    show wpAny _ A.in1 (seqItems? (.ref S) >>= _) _ _ s; refine wpAny_bind (wpAny_seqItems hS rfl ?_)
    show wpAny _ A.in1 (tryCatch (pyNext (.ref I)) _ >>= _) _ _ s; refine wpAny_bind (wpAny_tryCatch (W.item (j + 1) s _ _ more st fun v h' tk hv st2 kk => ?_))
    have hS2 := kk S _ outW hS
    show wpAny _ A.in1 (tryCatch (holding [v, v] (richCompare .Lt v vb >>= _)) _ >>= _) _ _ _; refine wpAny_bind (wpAny_tryCatch (wpAny_holding (wpAny_bind (cm (j + 1) (argBest bt j) v vb _ _ _ hv hP ?_))))
    refine wpAny_bind (wpAny_holding (wpAny_truthy_bool (wpAny_bind (wpAny_letGo (wpAny_pure ?_)))))
    cases hb : bt (j + 1) (argBest bt j) with
    | true =>
      simp only [if_true]; refine wpAny_bind (wpAny_updateSeq hS2 rfl (wpAny_bind (wpAny_letGo ?_))); rw [nm]
      refine wpAny_pure ⟨plainId_quiet PySem.F.plain_min_loop _, ih (j + 1) _ v _ (by omega) more (W.frame _ _ _ st2 fun b nb o e => ?_) (by simp only [argBest, hb, if_true]; exact hv) (Heap.get?_update_self _ hS2 rfl) fun v3 h3 tk3 hv3 kk3 => ?_⟩
      · exact (Heap.get?_update_other _ _ (fun z : S = b => out (by rw [z]; exact nb))).trans e
      · exact q v3 h3 tk3 hv3 fun b o nb nS e => kk3 b o nb nS ((Heap.get?_update_other _ _ (Ne.symm nS)).trans (kk b o nb e))
    | false =>
      simp only [Bool.false_eq_true, if_false]; refine wpAny_bind (wpAny_letGo ?_); rw [nm]
      refine wpAny_pure ⟨plainId_quiet PySem.F.plain_min_loop _, ih (j + 1) _ vb c (by omega) more st2 (by simp only [argBest, hb, Bool.false_eq_true, if_false]; exact hP) hS2 fun v3 h3 tk3 hv3 kk3 => ?_⟩
      exact q v3 h3 tk3 hv3 fun b o nb nS e => kk3 b o nb nS (kk b o nb e)
theorem min_first (W : Walks prog w A.in1 I fp wr n Pi St) (bt : Nat → Nat → Bool) (cm : CmpOf prog w A.in1 .Lt Pi bt) (S : Addr) (out : S ∉ fp) (kw : List (Str × Value)) (hn : 0 < n) {s : Shared} {c : Nat} (st : St 0 s.heap)
    (hS : s.heap.get? S = some { cls := .type "list", dict := none, data := .seq #[] c, slots := #[] })
    (q : ∀ v h' tk, Pi (argBest bt (n - 1)) v → (∀ b o, b ∉ wr → b ≠ S → s.heap.get? b = some o → h'.get? b = some o) → R (.ok (.ret v)) { s with heap := h', toks := tk }) : codeAny (model prog w) A (.builtin "min.loop" ⟨[.ref I, .none, .ref S], kw⟩) R s := by
  have outW : S ∉ wr := fun z => out (W.sub _ z)
  have nm : (toString "min" ++ toString ".loop" : String) = "min.loop" := by decide
  refine codeAny_builtin PySem.F.entry_min_loop ?_; rw [Around.under_plainId PySem.F.plain_min_loop _]
  show wpAny _ A.in1 (seqItems? (.ref S) >>= _) _ _ s; refine wpAny_bind (wpAny_seqItems hS rfl ?_)
  show wpAny _ A.in1 (tryCatch (pyNext (.ref I)) _ >>= _) _ _ s; refine wpAny_bind (wpAny_tryCatch (W.item 0 s _ _ hn st fun v h' tk hv st2 kk => ?_))
  have hS2 := kk S _ outW hS
  show wpAny _ A.in1 (updateSeq S (fun _ => #[v, v]) >>= _) _ _ _; refine wpAny_bind (wpAny_updateSeq hS2 rfl ?_); rw [nm]
  refine wpAny_pure ⟨plainId_quiet PySem.F.plain_min_loop _, min_turns W bt cm S out kw _ 0 _ v _ rfl hn (W.frame _ _ _ st2 fun b nb o e => ?_) hv (Heap.get?_update_self _ hS2 rfl) fun v3 h3 tk3 hv3 kk3 => ?_⟩
  · exact (Heap.get?_update_other _ _ (fun z : S = b => out (by rw [z]; exact nb))).trans e
  · exact q v3 h3 tk3 hv3 fun b o nb nS e => kk3 b o nb nS ((Heap.get?_update_other _ _ (Ne.symm nS)).trans (kk b o nb e))
theorem min_empty (W : Walks prog w A.in1 I fp wr 0 Pi St) (S : Addr) (out : S ∉ fp) (d : Value) {s : Shared} {c : Nat} (st : St 0 s.heap)
    (hS : s.heap.get? S = some { cls := .type "list", dict := none, data := .seq #[] c, slots := #[] })
    (q : ∀ h' tk, (∀ b o, b ∉ wr → s.heap.get? b = some o → h'.get? b = some o) → R (.ok (.ret d)) { s with heap := h', toks := tk }) : codeAny (model prog w) A (.builtin "min.loop" ⟨[.ref I, .none, .ref S], [(Str.ofString "default", d)]⟩) R s := by
  refine codeAny_builtin PySem.F.entry_min_loop ?_; rw [Around.under_plainId PySem.F.plain_min_loop _]
  show wpAny _ A.in1 (seqItems? (.ref S) >>= _) _ _ s; refine wpAny_bind (wpAny_seqItems hS rfl ?_)
  show wpAny _ A.in1 (tryCatch (pyNext (.ref I)) _ >>= _) _ _ s; refine wpAny_bind (wpAny_tryCatch (W.done s _ _ st fun h' tk kk => ?_))
  refine wpAny_bind (wpAny_rule ?_)
  exact wpAny_pure (q h' tk kk)
end
section
variable {prog : Program} {w : World} {A : Around} {E : Value → Shared → Prop} {s : Shared} {l : Addr} {its : List Value} {ns : List Int} {Q : Value → Shared → Prop}
theorem min_args (a v : Value) : argsOk "min" ⟨[a], [(Str.ofString "default", v)]⟩ := by unfold argsOk; kernel_rfl
theorem min_dflt (d : Value) (hh : A.handled = none) (hl : s.heap.IsList l its.toArray) (hi : IntsAre its ns)
    (q0 : ns = [] → ∀ h' tk, (∀ b o, s.heap.get? b = some o → h'.get? b = some o) → Q d { s with heap := h', toks := tk })
    (q1 : ∀ h' tk M t', (∀ b o, s.heap.get? b = some o → h'.get? b = some o) → M ∈ ns → (∀ a, a ∈ ns → M ≤ a) → Q (.int M t') { s with heap := h', toks := tk }) : wpAny (model prog w) A (call (.builtin "min") [.ref l] [(Str.ofString "default", d)]) Q E s := by
  obtain ⟨xs, e⟩ := hi.allInts.items
  have hn : numsOf (intItems xs).toList = ns := by rw [← e]; exact hi.numsOf
  rw [nums_intItems] at hn
  subst hn
  rw [e] at hl
  have nm : (toString "min" ++ toString ".loop" : String) = "min.loop" := by decide
  refine kmk_tree PySem.F.kind_min PySem.F.plain_min PySem.F.entry_min (min_args _ _) ?_
  show wpAny _ A.in1 (Builtin.Builtins.bindParams "min" ["key", "default"] 0 ⟨[], [(Str.ofString "default", d)]⟩ >>= _) _ _ s
  refine wpAny_bind (wpAny_of_eq (show Builtin.Builtins.bindParams "min" ["key", "default"] 0 ⟨[], [(Str.ofString "default", d)]⟩ = pure [none, some d] from rfl) (wpAny_bind (wpAny_pure (wpAny_bind ?_))))
  refine iter_intList hl fun s₂ es st hfp hlI => ?_
  subst es
  refine wpAny_bind (wpAny_newObj_type ?_); rw [nm]
  have out : (s.heap.push { cls := .type "list_iterator", data := .fields #[.ref l, .int 0 0] }).objs.size ∉ [s.heap.objs.size, l] := fun z => Nat.lt_irrefl _ (hfp _ z)
  have W := Walks.list (prog := prog) (w := w) (A := A.in1) hh s.heap.objs.size l hlI (intItems xs)
  have hsz : (intItems xs).size = xs.size := by simp [intItems]
  rcases Nat.eq_zero_or_pos xs.size with z | z
  · have ez : (xs.toList.map (·.1)) = [] := by
      have : xs = #[] := Array.eq_empty_of_size_eq_zero z
      rw [this]; rfl
    rw [hsz, z] at W
    refine wpAny_pure ⟨plainId_quiet PySem.F.plain_min_loop _, min_empty W _ out d (W.frame _ _ _ st fun b _ o e => Heap.get?_push_of_some _ e) (Heap.get?_push_size _ rfl) fun h' tk kk => ?_⟩
    exact q0 ez h' tk (old_kept fun b o nb e => kk b o nb (Heap.get?_push_of_some _ e))
  · refine wpAny_pure ⟨plainId_quiet PySem.F.plain_min_loop _, min_first W _ (CmpOf.ints_lt (numAt xs) (fun _ _ => intItems_at)) _ out _ (by rw [hsz]; exact z) (W.frame _ _ _ st fun b _ o e => Heap.get?_push_of_some _ e) (Heap.get?_push_size _ rfl) fun v h' tk hv kk => ?_⟩
    rw [hsz] at hv
    obtain ⟨t, rfl⟩ := intItems_at hv
    obtain ⟨h1, h2⟩ := argBest_lt (numAt xs) (xs.size - 1)
    refine q1 h' tk _ t (old_kept fun b o nb e => kk b o nb (Nat.ne_of_lt (Heap.lt_size e)) (Heap.get?_push_of_some _ e)) ?_ fun a ha => ?_
    · rw [numAt_eq]; exact PySem.getD_mem (by rw [List.length_map, Array.length_toList]; omega)
    · obtain ⟨j, hj, rfl⟩ := mem_getD ha
      rw [List.length_map, Array.length_toList] at hj
      rw [← numAt_eq]; exact h2 j (by omega)
/-- min(xs, default=d): d of none -/
def rDmin (K : PySem.W.Frag) : List V → List V → Hp → VK → Prop := fun vs zs H Q => ∃ (a : Addr) (ns : List Int) (d : V), vs = [V.ref a] ∧ zs = [d] ∧ SqL K H a (ns.map V.int) ∧ (ns = [] → Q d H) ∧ ∀ M, M ∈ ns → (∀ a, a ∈ ns → M ≤ a) → Q (.int M) H
theorem call_Dmin {X : Cx} (hc : X.calm = true) : CallRK X (.builtin "min") ["default"] (rDmin X.K) := by
  intro pins s σ H xs zs us ws Q I r rz h
  obtain ⟨a, ns, d, rfl, rfl, hs, q0, q1⟩ := h
  obtain ⟨its, rv, hl, _⟩ := I.list hs
  obtain ⟨ud, rfl, rd⟩ := Vals.one rz
  rw [Vals.ref1 r]
  exact min_dflt ud (I.ok.hd hc) hl.isList rv.ints (fun e h' tk hk => ⟨d, H, I.kept hk, rd, q0 e⟩) fun h' tk M t' hk h1 h2 => ⟨.int _, H, I.kept hk, ⟨_, rfl⟩, q1 M h1 h2⟩
end
/-! ### a stable sort, as a plain function -/
section
open SrtO (Swo Srtd Stb)
variable {α β : Type} {lt : α → α → Bool}
def ins (lt : α → α → Bool) (x : α) : List α → List α
  | [] => [x]
  | y :: r => if lt x y = true then x :: y :: r else y :: ins lt x r
def iSort (lt : α → α → Bool) (l : List α) : List α := l.foldl (fun acc x => ins lt x acc) []
theorem ins_perm (x : α) : ∀ l : List α, (ins lt x l).Perm (x :: l)
  | [] => List.Perm.refl _
  | y :: r => by
    unfold ins
    split
    · exact List.Perm.refl _
    · exact ((ins_perm x r).cons y).trans (List.Perm.swap x y r)
theorem ins_srtd (O : Swo lt) (x : α) : ∀ l : List α, Srtd lt l → Srtd lt (ins lt x l)
  | [], _ => List.pairwise_singleton _ _
  | y :: r, h => by
    have hy := List.pairwise_cons.mp h
    unfold ins
    split
    · rename_i c
      refine List.pairwise_cons.mpr ⟨fun z hz => ?_, h⟩
      rcases List.mem_cons.mp hz with rfl | hz
      · exact O.asym _ _ c
      · exact O.tr x y z (O.asym _ _ c) (hy.1 z hz)
    · rename_i c
      refine List.pairwise_cons.mpr ⟨fun z hz => ?_, ins_srtd O x r hy.2⟩
      rcases List.mem_cons.mp ((ins_perm x r).mem_iff.mp hz) with rfl | hz
      · exact Bool.eq_false_iff.mpr c
      · exact hy.1 z hz
theorem filt_none {p : α → Bool} {l : List α} (h : ∀ x ∈ l, p x = false) : l.filter p = [] := List.filter_eq_nil_iff.mpr fun x hx z => by rw [h x hx] at z; cases z
/-- past what isn't above it, in a class of its own place -/
theorem ins_cls (O : Swo lt) (x z : α) : ∀ l : List α, Srtd lt l → (ins lt x l).filter (SrtO.eqv lt z) = l.filter (SrtO.eqv lt z) ++ [x].filter (SrtO.eqv lt z)
  | [], _ => rfl
  | y :: r, h => by
    have hy := List.pairwise_cons.mp h
    unfold ins
    split
    · rename_i c
      by_cases hx : SrtO.eqv lt z x = true
      · have e := SrtO.eqv_iff.mp hx
        have no : ∀ w ∈ y :: r, SrtO.eqv lt z w = false := fun w hw => by
          apply Bool.eq_false_iff.mpr
          intro q
          have q2 := SrtO.eqv_iff.mp q
          have xw : lt x w = true := by
            rcases List.mem_cons.mp hw with rfl | hw
            · exact c
            · exact O.ltle c (hy.1 w hw)
          have := O.tr w z x q2.1 e.2
          rw [xw] at this; cases this
        rw [List.filter_cons_of_pos hx, filt_none no, List.nil_append, List.filter_cons_of_pos hx]; rfl
      · rw [List.filter_cons_of_neg hx, List.filter_cons_of_neg (l := []) hx]
        simp
    · by_cases hyz : SrtO.eqv lt z y = true
      · rw [List.filter_cons_of_pos hyz, List.filter_cons_of_pos hyz, ins_cls O x z r hy.2]; rfl
      · rw [List.filter_cons_of_neg hyz, List.filter_cons_of_neg hyz, ins_cls O x z r hy.2]
theorem iSort_go (O : Swo lt) : ∀ (l acc : List α), Srtd lt acc → Srtd lt (l.foldl (fun acc x => ins lt x acc) acc) ∧ Stb lt (l.foldl (fun acc x => ins lt x acc) acc) (acc ++ l)
  | [], acc, h => ⟨h, Stb.of_eq (by rw [List.append_nil]; rfl)⟩
  | x :: l, acc, h => by
    obtain ⟨a, b⟩ := iSort_go O l (ins lt x acc) (ins_srtd O x acc h)
    refine ⟨a, b.trans ?_⟩
    have : Stb lt (ins lt x acc) (acc ++ [x]) := ⟨(ins_perm x acc).trans (List.perm_append_comm (l₁ := [x]) (l₂ := acc)), fun z => by rw [ins_cls O x z acc h, List.filter_append]⟩
    have e : acc ++ x :: l = (acc ++ [x]) ++ l := by rw [List.append_assoc]; rfl
    rw [e]
    exact this.app (Stb.refl l)
theorem iSort_ok (O : Swo lt) (l : List α) : Srtd lt (iSort lt l) ∧ Stb lt (iSort lt l) l := iSort_go O l [] List.Pairwise.nil
theorem srt_one (O : Swo lt) : ∀ (l m : List α), Srtd lt l → Srtd lt m → Stb lt l m → l = m
  | [], m, _, _, h => (List.perm_nil.mp h.perm.symm).symm
  | x :: l, [], _, _, h => absurd h.perm.length_eq (by simp)
  | x :: l, y :: m, hl, hm, h => by
    have hx := List.pairwise_cons.mp hl
    have hy := List.pairwise_cons.mp hm
    have yl : y ∈ x :: l := h.perm.mem_iff.mpr List.mem_cons_self
    have xm : x ∈ y :: m := h.perm.mem_iff.mp List.mem_cons_self
    have a : lt y x = false := by
      rcases List.mem_cons.mp yl with rfl | z
      · exact O.refl _
      · exact hx.1 y z
    have b : lt x y = false := by
      rcases List.mem_cons.mp xm with rfl | z
      · exact O.refl _
      · exact hy.1 x z
    have c := h.cls x
    rw [List.filter_cons_of_pos (SrtO.eqv_iff.mpr ⟨O.refl x, O.refl x⟩), List.filter_cons_of_pos (SrtO.eqv_iff.mpr ⟨b, a⟩)] at c
    have exy : x = y := (List.cons.inj c).1
    subst exy
    refine congrArg (x :: ·) (srt_one O l m hx.2 hy.2 ⟨List.Perm.cons_inv h.perm, fun z => ?_⟩)
    have d := h.cls z
    by_cases q : SrtO.eqv lt z x = true
    · rw [List.filter_cons_of_pos q, List.filter_cons_of_pos q] at d
      exact (List.cons.inj d).2
    · rw [List.filter_cons_of_neg q, List.filter_cons_of_neg q] at d
      exact d
theorem srt_iSort (O : Swo lt) {out l : List α} (a : Srtd lt out) (b : Stb lt out l) : out = iSort lt l := by
  obtain ⟨c, d⟩ := iSort_ok O l
  exact srt_one O _ _ a c (b.trans ⟨d.perm.symm, fun z => (d.cls z).symm⟩)
/-- lists side by side are sorted side by side -/
theorem ins_two {lt' : β → β → Bool} {R : α → β → Prop} (hR : ∀ a b a' b', R a b → R a' b' → lt a a' = lt' b b') {x : α} {y : β} (hx : R x y) : ∀ {l : List α} {m : List β}, Paired R l m → Paired R (ins lt x l) (ins lt' y m)
  | _, _, .nil => .cons hx .nil
  | _, _, .cons (a := a) (b := b) r t => by
    unfold ins
    rw [hR _ _ _ _ hx r]
    split
    · exact .cons hx (.cons r t)
    · exact .cons r (ins_two hR hx t)
theorem iSort_two {lt' : β → β → Bool} {R : α → β → Prop} (hR : ∀ a b a' b', R a b → R a' b' → lt a a' = lt' b b') {l : List α} {m : List β} (h : Paired R l m) : Paired R (iSort lt l) (iSort lt' m) := by
  have go : ∀ {l : List α} {m : List β}, Paired R l m → ∀ {acc : List α} {bcc : List β}, Paired R acc bcc → Paired R (l.foldl (fun acc x => ins lt x acc) acc) (m.foldl (fun acc x => ins lt' x acc) bcc) := by
    intro l m h
    induction h with
    | nil => exact fun h => h
    | cons r _ ih => exact fun h2 => ih (ins_two hR r h2)
  exact go h .nil
theorem ins_at (x : α) : ∀ (l : List α) (k : Nat), k ≤ l.length → (∀ j y, j < k → l[j]? = some y → lt x y = false) → (∀ y, l[k]? = some y → lt x y = true) → ins lt x l = l.take k ++ [x] ++ l.drop k
  | [], 0, _, _, _ => rfl
  | [], k + 1, h, _, _ => absurd h (by simp)
  | y :: r, 0, _, _, h => by
    unfold ins
    rw [if_pos (h y rfl)]; rfl
  | y :: r, k + 1, hk, h1, h2 => by
    unfold ins
    rw [if_neg (by rw [h1 0 y (Nat.succ_pos k) rfl]; decide), ins_at x r k (by simpa using hk) (fun j z hj e => h1 (j + 1) z (by omega) e) (fun z e => h2 z e)]
    rfl
theorem srtd_at (O : Swo lt) : ∀ {l : List α}, Srtd lt l → ∀ {i j : Nat} {x y : α}, i < j → l[i]? = some x → l[j]? = some y → lt y x = false
  | [], _, _, _, _, _, _, e, _ => by cases e
  | a :: r, h, 0, 0, _, _, hij, _, _ => absurd hij (by decide)
  | a :: r, h, 0, j + 1, x, y, _, e1, e2 => by
    cases e1
    exact (List.pairwise_cons.mp h).1 y (List.mem_of_getElem? e2)
  | a :: r, h, i + 1, 0, _, _, hij, _, _ => absurd hij (by omega)
  | a :: r, h, i + 1, j + 1, x, y, hij, e1, e2 => srtd_at O (List.pairwise_cons.mp h).2 (i := i) (j := j) (by omega) e1 e2
theorem iSort_succ {l : List α} {i : Nat} {x : α} (h : l[i]? = some x) : iSort lt (l.take (i + 1)) = ins lt x (iSort lt (l.take i)) := by
  unfold iSort
  rw [List.take_succ, h, List.foldl_append]; rfl
theorem ins_len (x : α) (l : List α) : (ins lt x l).length = l.length + 1 := by rw [(ins_perm x l).length_eq]; rfl
theorem iSort_len (l : List α) : (iSort lt l).length = l.length := by
  have go : ∀ (l acc : List α), (l.foldl (fun acc x => ins lt x acc) acc).length = acc.length + l.length := by
    intro l
    induction l with
    | nil => intro acc; rfl
    | cons x r ih => intro acc; rw [List.foldl_cons, ih, ins_len, List.length_cons]; omega
  have := go l []
  unfold iSort
  simpa using this
theorem iSort_mem {x : α} : ∀ {l : List α}, x ∈ iSort lt l ↔ x ∈ l := by
  have go : ∀ (l acc : List α), x ∈ l.foldl (fun acc x => ins lt x acc) acc ↔ x ∈ acc ∨ x ∈ l := by
    intro l
    induction l with
    | nil => intro acc; simp
    | cons y r ih =>
      intro acc
      rw [List.foldl_cons, ih, (ins_perm y acc).mem_iff, List.mem_cons, List.mem_cons]
      constructor
      · rintro ((h | h) | h)
        · exact .inr (.inl h)
        · exact .inl h
        · exact .inr (.inr h)
      · rintro (h | h | h)
        · exact .inl (.inr h)
        · exact .inl (.inl h)
        · exact .inr h
  intro l
  have := go l []
  unfold iSort
  rw [this]; simp
end
/-! ### sorted(xs, key=f), f any callable -/
set_option maxHeartbeats 8000000
section
open SrtO (Swo Srtd Stb lt2 swo2 SortableO)
open PySem.Builtin
/-- from s to s', as behind a call: what stood at s stands, but what is tracked -/
structure Gone (X : Cx) (H : Hp) (s : Shared) (H' : Hp) (s' : Shared) : Prop where
  os : s'.os = s.os
  bare : AllBare s'.gens
  un : Un (frs X.stack) [] H H' s.heap s'.heap
  hok : HOk X.prog X.w H' s'.heap
variable {X : Cx} {pins : List (Addr × Obj)} {σ : L2.St} {H H1 H2 : Hp} {s s1 s2 : Shared}
theorem Gone.refl (I : Inv X pins σ H s) : Gone X H s H s := ⟨rfl, I.bare, Un.refl, I.hok⟩
theorem Gone.inv (I : Inv X pins σ H s) (g : Gone X H s H1 s1) : Inv X pins σ H1 s1 := I.call' g.os g.un g.hok g.bare fun b z => absurd z (by simp)
theorem Gone.on (g : Gone X H s H1 s1) (g2 : Gone X H1 s1 H2 s2) : Gone X H s H2 s2 := ⟨g2.os.trans g.os, g2.bare, g.un.trans g2.un, g2.hok⟩
theorem un_poke {fs ex : List Addr} {h h1 h2 : Heap} {a : Addr} (u : Un fs ex H H1 h h1) (na : h.objs.size ≤ a) (k : ∀ b o, b ≠ a → h1.get? b = some o → h2.get? b = some o) : Un fs ex H H1 h h2 := by
  have ne : ∀ {b : Addr} {o : Obj}, h.get? b = some o → b ≠ a := fun e => Nat.ne_of_lt (Nat.lt_of_lt_of_le (Heap.lt_size e) na)
  exact ⟨fun b o e n f x => k b o (ne e) (u.keep b o e n f x), fun b o e n f x => let ⟨sl, z⟩ := u.slot b o e n f x; ⟨sl, k b _ (ne e) z⟩, u.free, fun b o e x => let ⟨o', z⟩ := u.there b o e x; ⟨o', k b _ (ne e) z⟩, u.tups, u.frzs, u.tbls⟩
theorem hok_poke {P : Program} {w : World} {h1 h2 : Heap} {a : Addr} (x : HOk P w H h1) (n : H a = none) (k : ∀ b o, b ≠ a → h1.get? b = some o → h2.get? b = some o) : HOk P w H h2 := fun b o e =>
  (x b o e).stay (fun c v hc q => k c v (fun z => by
    subst z
    rcases hc with rfl | hc
    · rw [n] at e; cases e
    · rw [n] at hc; cases hc) q) (fun _ q => q) fun _ _ q => q
theorem Gone.poke {a : Addr} {h2 : Heap} {t : Nat} (g : Gone X H s H1 s1) (na : s.heap.objs.size ≤ a) (n : H1 a = none) (k : ∀ b o, b ≠ a → s1.heap.get? b = some o → h2.get? b = some o) : Gone X H s H1 { s1 with heap := h2, toks := t } :=
  ⟨g.os, g.bare, un_poke g.un na k, hok_poke g.hok n k⟩
theorem Gone.kept {h2 : Heap} {t : Nat} (g : Gone X H s H1 s1) (k : ∀ b o, s1.heap.get? b = some o → h2.get? b = some o) : Gone X H s H1 { s1 with heap := h2, toks := t } :=
  ⟨g.os, g.bare, g.un.trans (Un.kept k), g.hok.kept k⟩
theorem nostk (I : Inv X pins σ H s) {a : Addr} (na : s.heap.objs.size ≤ a) : a ∉ frs X.stack := fun z => by
  rcases List.mem_cons.mp (I.stkSub a z) with e | e
  · exact absurd I.lt (by rw [← e]; exact Nat.not_lt.mpr na)
  · exact I.nofs na e
/-- a call of the key, and what stands apart from it -/
def Keyed1 (X : Cx) (A : Around) (q : Value) (v : Value) (H1 : Hp) (s1 : Shared) (R : Hp → Value → Prop) : Prop :=
  wpAny (model X.prog X.w) A (call q [v]) (fun u s2 => ∃ H2, Gone X H1 s1 H2 s2 ∧ R H2 u) (fun _ _ => False) s1
section
variable {a kS : Addr} {q : Value} {vs : List Value} {A : Around} {Pq : PySem.Fin → Shared → Prop} {E : Value → Shared → Prop} {R : Nat → Hp → List Value → Prop} {ltv : Value → Value → Bool}
theorem sk_tail {st : SortSt} {keys : List Value} {e e1 : Nat} (I : Inv X pins σ H s) (g : Gone X H s H1 s1) (na : s.heap.objs.size ≤ a) (nk : s.heap.objs.size ≤ kS) (n1 : H1 a = none) (n2 : H1 kS = none) (nak : kS ≠ a)
    (ea : s1.heap.get? a = some (seqObj "list" #[] e1)) (ek : s1.heap.get? kS = some (seqObj "list" keys.toArray e)) (hz : keys.length ≤ sizeLine) (ho : (arrOf st).size ≤ sizeLine) (hf : failedOf st = none)
    (fin : ∀ s2, Gone X H s H1 s2 → (∃ c, s2.heap.get? a = some (seqObj "list" ((arrOf st).toList.map (·.2)).toArray c)) → Pq (.done (.ret .none)) s2) : wpAny (model X.prog X.w) A (ksk_tail a false e1 (.ref kS) st) Pq E s1 := by
  have b1 := Heap.SameBut.update s1.heap kS (Obj.mapSeq fun _ => (#[] : Array Value))
  have a1 : (s1.heap.update kS (Obj.mapSeq fun _ => (#[] : Array Value))).get? a = some (seqObj "list" #[] e1) := (b1.2 a nak.symm).trans ea
  have b2 := Heap.SameBut.update (s1.heap.update kS (Obj.mapSeq fun _ => (#[] : Array Value))) a (Obj.mapSeq fun _ => (arrOf st).map (·.2))
  have g1 := g.poke (t := s1.toks) (h2 := s1.heap.update kS (Obj.mapSeq fun _ => (#[] : Array Value))) nk n2 fun b o nb z => (b1.2 b nb).trans z
  have g2 := g1.poke (t := s1.toks) (h2 := (s1.heap.update kS (Obj.mapSeq fun _ => (#[] : Array Value))).update a (Obj.mapSeq fun _ => (arrOf st).map (·.2))) na n1 fun b o nb z => (b2.2 b nb).trans z
  unfold ksk_tail
  try dsimp only
  refine wpAny_bind (listUpdate_at ek rfl ?_ (by rw [List.size_toArray]; exact hz) (Nat.zero_le _)); refine wpAny_bind (wpAny_letGo ?_); refine wpAny_bind (seqEpoch_at a1 rfl ?_)
  refine wpAny_bind (listUpdate_at a1 rfl ?_ (Nat.zero_le _) (Nat.le_succ_of_le (by rw [if_neg (by decide), Array.size_map]; exact ho)))
  rw [hf]; simp only [bne_self_eq_false, Bool.false_eq_true, if_false]
  obtain ⟨c2, e3⟩ : ∃ c, ((s1.heap.update kS (Obj.mapSeq fun _ => (#[] : Array Value))).update a (Obj.mapSeq fun _ => (arrOf st).map (·.2))).get? a = some (seqObj "list" ((arrOf st).map (·.2)) c) := ⟨_, get?_update_seq a1 fun _ => (arrOf st).map (·.2)⟩
  have e4 : (arrOf st).map (·.2) = ((arrOf st).toList.map (·.2)).toArray := by rw [← Array.toList_map, Array.toArray_toList]
  exact wpAny_pure (fin _ g2 ⟨c2, e3.trans (by rw [e4])⟩)
theorem sk_end {keys : List Value} {e e1 : Nat} (O : Swo ltv) (I : Inv X pins σ H s) (g : Gone X H s H1 s1) (na : s.heap.objs.size ≤ a) (nk : s.heap.objs.size ≤ kS) (n1 : H1 a = none) (n2 : H1 kS = none) (nak : kS ≠ a)
    (ea : s1.heap.get? a = some (seqObj "list" #[] e1)) (ek : s1.heap.get? kS = some (seqObj "list" keys.toArray e)) (hl : keys.length = vs.length) (hz : vs.length ≤ sizeLine) (hS : 2 ≤ keys.length → SortableO X.prog X.w A s1 a keys ltv)
    (fin : ∀ s2 (out : List Keyed), Srtd (lt2 ltv) out → Stb (lt2 ltv) out (keys.zip vs) → Gone X H s H1 s2 → (∃ c, s2.heap.get? a = some (seqObj "list" (out.map (·.2)).toArray c)) → Pq (.done (.ret .none)) s2) : wpAny (model X.prog X.w) A (ksk_end a false vs.toArray e1 (.ref kS) keys.toArray) Pq E s1 := by
  have zl : (keys.toArray.zip vs.toArray).toList = keys.zip vs := by simp [Array.toList_zip]
  have zs : (keys.toArray.zip vs.toArray).size = vs.length := by rw [Array.size_zip, List.size_toArray, List.size_toArray]; omega
  unfold ksk_end
  try dsimp only
  rw [if_neg (by decide)]
  have hsz : vs.toArray.size = vs.length := List.size_toArray ..
  by_cases h2 : vs.toArray.size < 2
  · rw [if_pos h2, if_pos h2]
    refine wpAny_bind (wpAny_pure ?_); rw [StateT.run_pure]; refine wpAny_bind (wpAny_pure ?_)
    try dsimp only
    have ez : arrOf (SortSt.mk' general' (keys.toArray.zip vs.toArray) #[] 7 none) = keys.toArray.zip vs.toArray := rfl
    refine sk_tail (st := SortSt.mk' general' (keys.toArray.zip vs.toArray) #[] 7 none) I g na nk n1 n2 nak ea ek (by omega) (by rw [ez, zs]; exact hz) rfl fun s2 g2 e2 => fin s2 (keys.zip vs) ?_ (Stb.refl _) g2 (by rw [ez, zl] at e2; exact e2)
    rw [hsz] at h2
    match hk : keys.zip vs with
    | [] => exact List.Pairwise.nil
    | [x] => exact List.pairwise_singleton _ _
    | x :: y :: r =>
      have := congrArg List.length hk
      rw [List.length_zip, hl, Nat.min_self, List.length_cons, List.length_cons] at this
      omega
  · rw [if_neg h2, if_neg h2]
    rw [hsz] at h2
    obtain ⟨κ, hk, hT⟩ := hS (by omega) s1.heap fun _ _ _ z => z
    refine wpAny_bind (hk _ _ ?_)
    have all : SrtO.AllL (fun p : Keyed => p.1 ∈ keys) (keys.toArray.zip vs.toArray).toList := fun p hm => by
      rw [zl] at hm
      exact (List.of_mem_zip hm).1
    refine wpAny_bind (wpAny_mono (SrtO.wpS_sortO (st0 := SortSt.mk' κ (keys.toArray.zip vs.toArray) #[] 7 none) (Q := fun _ st' => Srtd (lt2 ltv) (arrOf st').toList ∧ Stb (lt2 ltv) (arrOf st').toList (keys.toArray.zip vs.toArray).toList ∧ failedOf st' = none) (swo2 O) hT rfl all rfl rfl fun st' a1 a2 a3 => ⟨a1, a2, a3⟩) ?_ fun _ _ z => z)
    rintro ⟨⟨⟩, st'⟩ s' ⟨rfl, p1, p2, p3⟩
    try dsimp only
    rw [zl] at p2
    have hlen : (arrOf st').size = vs.length := by
      have := p2.len
      rw [Array.length_toList, List.length_zip, hl, Nat.min_self] at this; exact this
    exact sk_tail I g na nk n1 n2 nak ea ek (by omega) (by rw [hlen]; exact hz) p3 fun s2 g2 e2 => fin s2 _ p1 p2 g2 e2
/-- the keys are asked one by one, then the pairs are sorted -/
theorem sk_rest {e1 : Nat} {Z : (Value → Value → Bool) → List Value → Hp → Prop} (I : Inv X pins σ H s) (g : Gone X H s H1 s1) (na : s.heap.objs.size ≤ a) (nk : s.heap.objs.size ≤ kS) (n1 : H1 a = none) (n2 : H1 kS = none) (nak : kS ≠ a)
    (ea : s1.heap.get? a = some (seqObj "list" #[] e1)) (ek : s1.heap.get? kS = some (seqObj "list" #[] 0)) (hz : vs.length ≤ sizeLine) (R0 : R 0 H1 [])
    (turn : ∀ (j : Nat) (v : Value) (H2 : Hp) (s2 : Shared) (us : List Value), vs[j]? = some v → R j H2 us → Gone X H s H2 s2 → Keyed1 X A q v H2 s2 fun H3 u => R (j + 1) H3 (us ++ [u]))
    (hS : ∀ (H2 : Hp) (s2 : Shared) (us : List Value), R vs.length H2 us → Gone X H s H2 s2 → us.length = vs.length → H2 a = none → (∃ e, s2.heap.get? a = some (seqObj "list" #[] e)) → ∃ ltv, Swo ltv ∧ (2 ≤ us.length → SortableO X.prog X.w A s2 a us ltv) ∧ Z ltv us H2)
    (fin : ∀ (H2 : Hp) (s2 : Shared) (us : List Value) (out : List Keyed) (ltv : Value → Value → Bool), Z ltv us H2 → Swo ltv → R vs.length H2 us → us.length = vs.length → Srtd (lt2 ltv) out → Stb (lt2 ltv) out (us.zip vs) → Gone X H s H2 s2 → H2 a = none → (∃ c, s2.heap.get? a = some (seqObj "list" (out.map (·.2)).toArray c)) → Pq (.done (.ret .none)) s2) :
    wpAny (model X.prog X.w) A (ksk_rest a q false vs.toArray e1 (.ref kS)) Pq E s1 := by
  have na' := nostk I na
  have nk' := nostk I nk
  unfold ksk_rest
  refine wpAny_bind (wpAny_rule ?_)
  rw [List.forIn_toArray]
  refine wpAny_bind (ksk_fold (fun i s2 => ∃ (H2 : Hp) (us : List Value) (e : Nat), Gone X H s H2 s2 ∧ H2 a = none ∧ H2 kS = none ∧ s2.heap.get? a = some (seqObj "list" #[] e1) ∧ s2.heap.get? kS = some (seqObj "list" us.toArray e) ∧ us.length = i ∧ R i H2 us) vs 0 s1 ⟨H1, [], 0, g, n1, n2, ea, ek, rfl, R0⟩ ?step ?done)
  case step =>
    rintro j x s2 hx ⟨H2, us, e, g2, m1, m2, ea2, ek2, hl, hR⟩
    simp only [Nat.zero_add] at hl hR ⊢
    have hj : j < vs.length := (List.getElem?_eq_some_iff.mp hx).1
    refine wpAny_bind (wpAny_attempt (wpAny_mono (turn j x H2 s2 us hx hR g2) (fun u s3 he => ?_) fun _ _ z => z.elim))
    obtain ⟨H3, g23, hR3⟩ := he
    have g3 := g2.on g23
    have m3 := g23.un.free a _ ea2 m1 (by simp)
    have m4 := g23.un.free kS _ ek2 m2 (by simp)
    have ea3 := g23.un.keep a _ ea2 m1 na' (by simp)
    have ek3 := g23.un.keep kS _ ek2 m2 nk' (by simp)
    try dsimp only
    have b1 := Heap.SameBut.update s3.heap kS (Obj.mapSeq (·.push u))
    have g4 := g3.poke (t := s3.toks) (h2 := s3.heap.update kS (Obj.mapSeq (·.push u))) nk m4 fun b o nb z => (b1.2 b nb).trans z
    refine wpAny_bind (listUpdate_at ek3 rfl ?_ (by rw [List.size_toArray]; omega) (by rw [Array.size_push, List.size_toArray]; omega))
    obtain ⟨c5, e5⟩ : ∃ c, (s3.heap.update kS (Obj.mapSeq (·.push u))).get? kS = some (seqObj "list" (us.toArray.push u) c) := ⟨_, get?_update_seq ek3 (·.push u)⟩
    rw [List.push_toArray] at e5
    exact wpAny_pure ⟨rfl, H3, us ++ [u], c5, g4, m3, m4, (b1.2 a nak.symm).trans ea3, e5, by rw [List.length_append, hl]; rfl, hR3⟩
  case done =>
    rintro s2 ⟨H2, us, e, g2, m1, m2, ea2, ek2, hl, hR⟩
    rw [Nat.zero_add] at hl hR
    try dsimp only
    refine wpAny_bind (listItems_at ek2 rfl ?_)
    obtain ⟨ltv, O, hS2, hZ⟩ := hS H2 s2 us hR g2 hl m1 ⟨_, ea2⟩
    exact sk_end O I g2 na nk m1 m2 nak ea2 ek2 hl hz hS2 fun s3 out p1 p2 g3 e3 => fin H2 s3 us out ltv hZ O hR hl p1 p2 g3 m1 e3
/-- sorted(l, key=q) -/
theorem sk_sorted {l q : Addr} {Qq : Value → Shared → Prop} {Z : (Value → Value → Bool) → List Value → Hp → Prop} (I : Inv X pins σ H s) (hl : s.heap.IsList l vs.toArray) (hz : vs.length ≤ sizeLine) (R0 : R 0 H [])
    (turn : ∀ (j : Nat) (v : Value) (H2 : Hp) (s2 : Shared) (us : List Value), vs[j]? = some v → R j H2 us → Gone X H s H2 s2 → Keyed1 X X.A.in1.in1 (.ref q) v H2 s2 fun H3 u => R (j + 1) H3 (us ++ [u]))
    (hS : ∀ (H2 : Hp) (s2 : Shared) (a : Addr) (us : List Value), R vs.length H2 us → Gone X H s H2 s2 → us.length = vs.length → H2 a = none → (∃ e, s2.heap.get? a = some (seqObj "list" #[] e)) → ∃ ltv, Swo ltv ∧ (2 ≤ us.length → SortableO X.prog X.w X.A.in1.in1 s2 a us ltv) ∧ Z ltv us H2)
    (fin : ∀ (a : Addr) (H2 : Hp) (s2 : Shared) (us : List Value) (out : List Keyed) (ltv : Value → Value → Bool), Z ltv us H2 → Swo ltv → s.heap.objs.size ≤ a → R vs.length H2 us → us.length = vs.length → Srtd (lt2 ltv) out → Stb (lt2 ltv) out (us.zip vs) → Gone X H s H2 s2 → H2 a = none → (∃ c, s2.heap.get? a = some (seqObj "list" (out.map (·.2)).toArray c)) → Qq (.ref a) s2) :
    wpAny (model X.prog X.w) X.A (call (.builtin "sorted") [.ref l] [(Str.ofString "key", .ref q)]) Qq E s := by
  refine call_function_entry_kw kind_sorted plain_sorted entry_sorted (by unfold argsOk; kernel_rfl) ?_
  unfold Builtin.«sorted»
  refine wpAny_bind (m := checkCount "sorted" 1 1 _) (wpAny_pure (wpAny_bind (collect_list hl (wpAny_bind (wpAny_newList ?_ hz)) hz)))
  have sz : ((s.heap.push (seqObj "list" #[] 0)).update s.heap.objs.size (Obj.mapSeq (· ++ vs.toArray))).objs.size = s.heap.objs.size + 1 := by rw [Heap.size_update, size_push']
  generalize hh : (s.heap.push (seqObj "list" #[] 0)).update s.heap.objs.size (Obj.mapSeq (· ++ vs.toArray)) = hp at sz
  have k0 : ∀ b o, s.heap.get? b = some o → hp.get? b = some o := fun b o e => by
    have lt : b < s.heap.objs.size := Heap.lt_size e
    rw [← hh, Heap.get?_update_ne _ _ _ _ (Nat.ne_of_lt lt), Heap.get?_push_ne _ _ _ (Nat.ne_of_lt lt)]; exact e
  show wpAny _ _ _ _ _ { s with heap := hp.push (seqObj "list" vs.toArray 0) }
  rw [sz]
  have oA : (hp.push (seqObj "list" vs.toArray 0)).get? (s.heap.objs.size + 1) = some (seqObj "list" vs.toArray 0) := by rw [← sz]; exact Heap.get?_push_size _ rfl
  refine wpAny_bind (wpAny_holding (wpAny_call_entry_kw slot_list_sort ⟨_, oA, rfl⟩ entry_list_sort ?_ (ksk_l1 _ _)))
  rw [ksk_t1]
  have ba := Heap.SameBut.update (hp.push (seqObj "list" vs.toArray 0)) (s.heap.objs.size + 1) (Obj.mapSeq fun _ => (#[] : Array Value))
  obtain ⟨e1, oA1⟩ : ∃ e1, ((hp.push (seqObj "list" vs.toArray 0)).update (s.heap.objs.size + 1) (Obj.mapSeq fun _ => (#[] : Array Value))).get? (s.heap.objs.size + 1) = some (seqObj "list" #[] e1) := ⟨_, get?_update_seq oA fun _ => #[]⟩
  have sz2 : ((hp.push (seqObj "list" vs.toArray 0)).update (s.heap.objs.size + 1) (Obj.mapSeq fun _ => (#[] : Array Value))).objs.size = s.heap.objs.size + 2 := by rw [Heap.size_update, size_push', sz]
  have k1 : ∀ b o, s.heap.get? b = some o → ((hp.push (seqObj "list" vs.toArray 0)).update (s.heap.objs.size + 1) (Obj.mapSeq fun _ => (#[] : Array Value))).get? b = some o := fun b o e =>
    (ba.2 b (Nat.ne_of_lt (Nat.lt_succ_of_lt (Heap.lt_size e)))).trans (Heap.get?_push_of_some _ (k0 b o e))
  let hq := (hp.push (seqObj "list" vs.toArray 0)).update (s.heap.objs.size + 1) (Obj.mapSeq fun _ => (#[] : Array Value))
  have k2 : ∀ b o, s.heap.get? b = some o → ((hq.push (seqObj "tuple" vs.toArray 0)).push (seqObj "list" #[] 0)).get? b = some o := fun b o e => Heap.get?_push_of_some _ (Heap.get?_push_of_some _ (k1 b o e))
  have sz3 : (hq.push (seqObj "tuple" vs.toArray 0)).objs.size = s.heap.objs.size + 3 := by rw [size_push', sz2]
  have g0 : Gone X H s H { s with heap := (hq.push (seqObj "tuple" vs.toArray 0)).push (seqObj "list" #[] 0) } := (Gone.refl I).kept (t := s.toks) k2
  have eA : ((hq.push (seqObj "tuple" vs.toArray 0)).push (seqObj "list" #[] 0)).get? (s.heap.objs.size + 1) = some (seqObj "list" #[] e1) := Heap.get?_push_of_some _ (Heap.get?_push_of_some _ oA1)
  have eK : ((hq.push (seqObj "tuple" vs.toArray 0)).push (seqObj "list" #[] 0)).get? (s.heap.objs.size + 3) = some (seqObj "list" #[] 0) := by rw [← sz3]; exact Heap.get?_push_size _ rfl
  unfold ksk_tree
  refine wpAny_bind (listItems_at oA rfl (wpAny_bind (listUpdate_at oA rfl ?_ (by rw [List.size_toArray]; exact hz) (Nat.zero_le _))))
  refine wpAny_bind (seqEpoch_at oA1 rfl (wpAny_bind (wpAny_newTuple (wpAny_bind (wpAny_newList (wpAny_holding ?_) (Nat.zero_le _))) hz)))
  show wpAny _ _ (ksk_rest (s.heap.objs.size + 1) (.ref q) false vs.toArray e1 (.ref (hq.push (seqObj "tuple" vs.toArray 0)).objs.size)) _ _ { s with heap := (hq.push (seqObj "tuple" vs.toArray 0)).push (seqObj "list" #[] 0) }
  rw [sz3]
  refine sk_rest (Z := Z) I g0 (Nat.le_succ _) (Nat.le_add_right _ 3) (I.hok.fresh (Nat.le_succ _)) (I.hok.fresh (Nat.le_add_right _ 3)) (show s.heap.objs.size + 3 ≠ s.heap.objs.size + 1 by omega) eA eK hz R0 turn (fun H2 s2 us r g l1 n z => hS H2 s2 _ us r g l1 n z) fun H2 s2 us out ltv z o r l1 p1 p2 g n e => ⟨_, rfl, ?_⟩
  exact wpAny_pure ⟨_, rfl, fin _ H2 s2 us out ltv z o (Nat.le_succ _) r l1 p1 p2 g n e⟩
end
end
/-! ### sorted(xs, key=f) over the layer -/
section
open SrtO (Swo Srtd Stb lt2 swo2 SortableO)
variable {X : Cx} {pins : List (Addr × Obj)} {σ : L2.St} {H HJ : Hp} {s sJ : Shared}
/-- what has been made meanwhile is told to the ledger -/
theorem inv_track {a : Addr} {o : HO} (J : Inv X pins σ HJ sJ) (ge : sJ.heap.objs.size ≤ a) (I : Inv X pins σ H s) (na : H a = none) (ok : ObjOk X.prog X.w (upd H a o) s.heap a o) : Inv X pins σ (upd H a o) s := by
  have ne : ∀ {b : Addr} {o : Obj}, sJ.heap.get? b = some o → b ≠ a := fun e => Nat.ne_of_lt (Nat.lt_of_lt_of_le (Heap.lt_size e) ge)
  have n0 : ∀ {b : Addr} {o : Obj}, X.s_0.heap.get? b = some o → b ≠ a := fun e => Nat.ne_of_lt (Nat.lt_of_lt_of_le (Heap.lt_size e) (Nat.le_trans J.sz ge))
  have bs : Un X.fs X.ex X.H_0 (upd H a o) X.s_0.heap s.heap := {
    keep := I.base.keep
    slot := I.base.slot
    there := I.base.there
    free := fun b o e n q => by rw [upd_ne (n0 e)]; exact I.base.free b o e n q
    tups := fun b xs e => by
      have z := I.base.tups b xs e
      rw [upd_ne (ne_of_none z na)]; exact z
    frzs := fun b o u e => by
      have z := I.base.frzs b o u e
      rw [upd_ne (ne_of_none z na)]; exact z
    tbls := fun b ps e => by
      obtain ⟨m, z⟩ := I.base.tbls b ps e
      exact ⟨m, by rw [upd_ne (ne_of_none z na)]; exact z⟩ }
  have fr : X.env.locals ≠ a := by
    obtain ⟨m, ⟨o, es, ep, ho, _⟩, _⟩ := J.loc
    exact ne ho
  refine ⟨I.ok, I.os, I.bare, bs, I.loc, I.cell, by rw [upd_ne fr]; exact I.free, fun x c e => ?_, fun p hp => ?_, fun b o e => ?_, I.len⟩
  · obtain ⟨v, o, ho, _⟩ := J.cell x c e
    rw [upd_ne (ne ho)]; exact I.freeC x c e
  · obtain ⟨e, n, r⟩ := I.pin p hp
    exact ⟨e, by rw [upd_ne (ne (J.pin p hp).1)]; exact n, r⟩
  · by_cases hb : b = a
    · subst hb
      rw [upd_same] at e; cases e; exact ok
    · rw [upd_ne hb] at e
      exact (I.hok b o e).stay (fun c v _ q => q) (fun c q => by rw [upd_ne (ne_of_none q na)]; exact q) fun c xs q => by rw [upd_ne (ne_of_none q na)]; exact q
/-- keys: how they stand in the heap, and their order -/
structure KeyOk (X : Cx) {α : Type} (KR : Hp → V → α → Prop) (lt : α → α → Bool) : Prop where
  keep : ∀ {H H' : Hp} {v : V} {k : α}, KR H v k → Same H H' → KR H' v k
  sort : ∀ {pins : List (Addr × Obj)} {σ : L2.St} {H : Hp} {s : Shared} {A : Around} {b : Addr} {ys : List V} {us : List Value} {ks : List α}, Inv X pins σ H s → H b = none → (∃ e, s.heap.get? b = some (seqObj "list" #[] e)) → Paired (KR H) ys ks → Vals ys us →
    ∃ ltv, Swo ltv ∧ (2 ≤ us.length → SortableO X.prog X.w A s b us ltv) ∧ ∀ p ∈ us.zip ks, ∀ q ∈ us.zip ks, ltv p.1 q.1 = lt p.2 q.2
theorem paired_mono {α β : Type} {F G : α → β → Prop} (f : ∀ a b, F a b → G a b) : ∀ {l : List α} {m : List β}, Paired F l m → Paired G l m
  | _, _, .nil => .nil
  | _, _, .cons r t => .cons (f _ _ r) (paired_mono f t)
theorem paired_snoc {α β : Type} {F : α → β → Prop} {x : α} {y : β} (r : F x y) : ∀ {l : List α} {m : List β}, Paired F l m → Paired F (l ++ [x]) (m ++ [y])
  | _, _, .nil => .cons r .nil
  | _, _, .cons q t => .cons q (paired_snoc r t)
theorem paired_zip {α : Type} {xs : List V} {vs us : List Value} {ks : List α} (r : Vals xs vs) (l1 : us.length = vs.length) (l2 : ks.length = xs.length) : Paired (fun (p : Value × Value) (q : α × V) => (p.1, q.1) ∈ us.zip ks ∧ RelV q.2 p.2) (us.zip vs) (ks.zip xs) := by
  have go : ∀ (us0 : List Value) (ks0 : List α) (us : List Value) (ks : List α) (vs : List Value) (xs : List V), Vals xs vs → us.length = vs.length → ks.length = xs.length → (∀ p ∈ us.zip ks, p ∈ us0.zip ks0) → Paired (fun (p : Value × Value) (q : α × V) => (p.1, q.1) ∈ us0.zip ks0 ∧ RelV q.2 p.2) (us.zip vs) (ks.zip xs) := by
    intro us0 ks0 us
    induction us with
    | nil =>
      intro ks vs xs r l1 l2 _
      cases r with
      | nil => rw [List.zip_nil_right, List.zip_nil_right]; exact .nil
      | cons _ _ => cases l1
    | cons u us ih =>
      intro ks vs xs r l1 l2 hm
      cases r with
      | nil => cases l1
      | cons r1 r2 =>
        cases ks with
        | nil => cases l2
        | cons k ks => exact .cons ⟨hm _ List.mem_cons_self, r1⟩ (ih ks _ _ r2 (by simpa using l1) (by simpa using l2) fun p hp => hm p (List.mem_cons_of_mem _ hp))
  exact go us ks us ks vs xs r l1 l2 fun _ h => h
theorem vals_snd {α : Type} {P : Value × Value → α × V → Prop} : ∀ {l : List (Value × Value)} {m : List (α × V)}, Paired (fun p q => P p q ∧ RelV q.2 p.2) l m → Vals (m.map (·.2)) (l.map (·.2))
  | _, _, .nil => .nil
  | _, _, .cons r t => .cons r.2 (vals_snd t)
/-- the list by the keys ks -/
def byKeys {α : Type} (lt : α → α → Bool) (ks : List α) (xs : List V) : List V := (iSort (fun a b : α × V => lt a.1 b.1) (ks.zip xs)).map (·.2)
theorem key_sorted {α : Type} {KR : Hp → V → α → Prop} {lt : α → α → Bool} (KO : KeyOk X KR lt) {l q : Addr} {xs : List V} {ks : List α} {Q : VK} {E : Value → Shared → Prop} (I : Inv X pins σ H s) (hs : SqL X.K H l xs) (hk : ks.length = xs.length)
    (turn : ∀ (j : Nat) (x : V) (k : α) (H2 : Hp) (s2 : Shared) (u : Value), xs[j]? = some x → ks[j]? = some k → Gone X H s H2 s2 → Same H H2 → RelV x u →
      wpAny (model X.prog X.w) X.A.in1.in1 (call (.ref q) [u]) (fun r s3 => ∃ H3, Gone X H2 s2 H3 s3 ∧ Same H2 H3 ∧ ∃ y, RelV y r ∧ KR H3 y k) (fun _ _ => False) s2)
    (fin : ∀ H2 p, Same H H2 → H2 p = none → Q (.ref p) (upd H2 p (.lst (byKeys lt ks xs)))) :
    wpAny (model X.prog X.w) X.A (call (.builtin "sorted") [.ref l] [(Str.ofString "key", .ref q)]) (EP X pins σ Q) E s := by
  obtain ⟨vs, rv, hl, hz⟩ := I.list hs
  have lv := rv.length
  refine sk_sorted (Z := fun ltv us H2 => Swo ltv ∧ ∀ p ∈ us.zip ks, ∀ q ∈ us.zip ks, ltv p.1 q.1 = lt p.2 q.2) (R := fun j H2 us => Same H H2 ∧ ∃ ys, Vals ys us ∧ Paired (KR H2) ys (ks.take j)) I hl.isList (by omega) ⟨fun _ _ e => e, [], .nil, .nil⟩ ?_ ?_ ?_
  · rintro j v H2 s2 us hv ⟨s12, ys, ry, rk⟩ g
    have hj : j < vs.length := (List.getElem?_eq_some_iff.mp hv).1
    obtain ⟨x, hx⟩ : ∃ x, xs[j]? = some x := ⟨_, List.getElem?_eq_getElem (by omega)⟩
    obtain ⟨k, hkj⟩ : ∃ k, ks[j]? = some k := ⟨_, List.getElem?_eq_getElem (by omega)⟩
    obtain ⟨v', hv', rx⟩ := rv.get hx
    rw [hv] at hv'; cases hv'
    refine wpAny_mono (turn j x k H2 s2 v hx hkj g s12 rx) (fun r s3 h => ?_) fun _ _ z => z
    obtain ⟨H3, g3, s23, y, ry2, hK⟩ := h
    refine ⟨H3, g3, s12.trans s23, ys ++ [y], paired_snoc ry2 ry, ?_⟩
    rw [List.take_add_one, hkj]
    exact paired_snoc hK (paired_mono (fun a b z => KO.keep z s23) rk)
  · rintro H2 s2 a us ⟨s12, ys, ry, rk⟩ g l1 ha hb
    rw [List.take_of_length_le (by omega)] at rk
    have I2 := g.inv I
    obtain ⟨ltv, O, h1, h2⟩ := KO.sort (A := X.A.in1.in1) (b := a) I2 ha hb rk ry
    exact ⟨ltv, O, h1, O, h2⟩
  · rintro a H2 s2 us out ltv ⟨O, hag⟩ _ ha ⟨s12, ys, ry, rk⟩ l1 p1 p2 g n ⟨c, ec⟩
    have e : out = iSort (lt2 ltv) (us.zip vs) := srt_iSort (swo2 O) p1 p2
    have pz := paired_zip (us := us) (ks := ks) rv l1 hk
    have ps := iSort_two (lt := lt2 ltv) (lt' := fun a b : α × V => lt a.1 b.1) (fun a b a' b' h1 h2 => hag _ h1.1 _ h2.1) pz
    rw [← e] at ps
    have vz := vals_snd (P := fun p q => (p.1, q.1) ∈ us.zip ks) ps
    have zl : (byKeys lt ks xs).length ≤ sizeLine := by
      have h1 := vz.length
      have h2 := p2.len
      rw [List.length_map, List.length_map, h2, List.length_zip, l1, Nat.min_self] at h1
      show ((iSort _ _).map _).length ≤ _
      rw [List.length_map, h1]; omega
    have I2 := g.inv I
    exact ⟨.ref a, upd H2 a (.lst (byKeys lt ks xs)), inv_track I ha I2 n ⟨zl, _, c, vz, ec⟩, rfl, fin H2 a s12 n⟩
end
/-! ### keys: ints, texts, pairs of ints -/
section
open SrtO (Swo Srtd Stb lt2 swo2 SortableO ltIv swo_int ints_sortable iv)
variable {X : Cx}
def KI (_ : Hp) (v : V) (k : Int) : Prop := v = .int k
def ltI (a b : Int) : Bool := decide (a < b)
theorem ki_ints {H : Hp} : ∀ {ys : List V} {us : List Value} {ks : List Int}, Paired (KI H) ys ks → Vals ys us → IntsAre us ks
  | _, _, _, .nil, .nil => .nil
  | _, _, _, .cons e t, .cons r q => by
    cases e
    obtain ⟨z, rfl⟩ := r
    exact .cons _ _ (ki_ints t q)
theorem ints_agree : ∀ {us : List Value} {ks : List Int}, IntsAre us ks → ∀ p ∈ us.zip ks, iv p.1 = p.2
  | _, _, .nil, p, h => by cases h
  | _, _, .cons n t r, p, h => by
    rcases List.mem_cons.mp h with rfl | h
    · rfl
    · exact ints_agree r p h
theorem keyI : KeyOk X KI ltI := ⟨fun h _ => h, fun {pins σ H s A b ys us ks} I _ _ rk ry => by
  have hI := ki_ints rk ry
  refine ⟨ltIv, swo_int, fun h2 => ints_sortable hI h2, fun p hp q hq => ?_⟩
  show decide (iv p.1 < iv q.1) = decide (p.2 < q.2)
  rw [ints_agree hI p hp, ints_agree hI q hq]⟩
theorem swo_ltI : Swo ltI := ⟨fun x y h => decide_eq_false (by have := of_decide_eq_true h; omega), fun x y z h1 h2 => decide_eq_false (by have := of_decide_eq_false h1; have := of_decide_eq_false h2; omega)⟩
def KS (_ : Hp) (v : V) (k : Str) : Prop := v = .str k
def ltS (a b : Str) : Bool := decide (a.cps.toList < b.cps.toList)
def sv : Value → Str
  | .str x _ => x
  | _ => Str.empty
def ltSv (v u : Value) : Bool := ltS (sv v) (sv u)
theorem swo_ltS : Swo ltS := by
  refine ⟨fun x y h => ?_, fun x y z h1 h2 => ?_⟩
  · have a : x.cps.toList < y.cps.toList := of_decide_eq_true h
    exact decide_eq_false (fun b => absurd (List.lt_trans a b) (List.lt_irrefl _))
  · have a : ¬ y.cps.toList < x.cps.toList := of_decide_eq_false h1
    have b : ¬ z.cps.toList < y.cps.toList := of_decide_eq_false h2
    refine decide_eq_false (fun c => ?_)
    have a' := List.not_lt.mp a
    have b' := List.not_lt.mp b
    exact absurd c (List.not_lt.mpr (List.le_trans a' b'))
theorem ks_strs {H : Hp} : ∀ {ys : List V} {us : List Value} {ks : List Str}, Paired (KS H) ys ks → Vals ys us → StrsAre us ks
  | _, _, _, .nil, .nil => .nil
  | _, _, _, .cons e t, .cons r q => by
    cases e
    obtain ⟨z, rfl⟩ := r
    exact .cons _ _ (ks_strs t q)
theorem strs_agree : ∀ {us : List Value} {ks : List Str}, StrsAre us ks → ∀ p ∈ us.zip ks, ∃ t, p.1 = .str p.2 t
  | _, _, .nil, p, h => by cases h
  | _, _, .cons n t r, p, h => by
    rcases List.mem_cons.mp h with rfl | h
    · exact ⟨_, rfl⟩
    · exact strs_agree r p h
theorem strs_mem : ∀ {us : List Value} {ks : List Str}, StrsAre us ks → ∀ u ∈ us, ∃ x t, u = .str x t
  | _, _, .nil, p, h => by cases h
  | _, _, .cons n t r, p, h => by
    rcases List.mem_cons.mp h with rfl | h
    · exact ⟨_, _, rfl⟩
    · exact strs_mem r p h
theorem keyS : KeyOk X KS ltS := ⟨fun h _ => h, fun {pins σ H s A b ys us ks} I _ _ rk ry => by
  have hS := ks_strs rk ry
  refine ⟨ltSv, ⟨fun x y => swo_ltS.asym _ _, fun x y z => swo_ltS.tr _ _ _⟩, fun h2 h' _ => ⟨oneType', fun Q E hq => ?_, fun p q hp hq => ?_⟩, fun p hp q hq => ?_⟩
  · match us, hS, h2 with
    | v1 :: v2 :: rest, hS, _ =>
      rw [keyKind_strs hS]
      exact wpAny_pure hq
    | [], _, h => exact absurd h (by decide)
    | [v], _, h => exact absurd h (by simp)
  · obtain ⟨x, t, e1⟩ := strs_mem hS _ hp
    obtain ⟨y, u, e2⟩ := strs_mem hS _ hq
    show wpAny _ A (keyLt' oneType' p.1 q.1) (fun r s' => s' = _ ∧ r = ltSv p.1 q.1) (fun _ _ => False) _
    rw [e1, e2, keyLt'_oneType]
    exact oneLt_str ⟨rfl, rfl⟩
  · obtain ⟨t, e1⟩ := strs_agree hS p hp
    obtain ⟨u, e2⟩ := strs_agree hS q hq
    rw [e1, e2]; rfl⟩
/-- a tuple of two ints -/
def KP (H : Hp) (v : V) (k : Int × Int) : Prop := ∃ t, v = .ref t ∧ H t = some (.tup [.int k.1, .int k.2])
theorem kp_pairs {P : Program} {w : World} {H : Hp} {h : Heap} (ok : HOk P w H h) : ∀ {ys : List V} {us : List Value} {ks : List (Int × Int)}, Paired (KP H) ys ks → Vals ys us → ∀ p ∈ us.zip ks, Srt.IsPair h p.1 p.2.1 p.2.2
  | _, _, _, .nil, .nil, p, hp => by cases hp
  | _, _, _, .cons (b := k) e t, .cons r q, p, hp => by
    rcases List.mem_cons.mp hp with rfl | hp
    · obtain ⟨a, rfl, ha⟩ := e
      cases r
      obtain ⟨_, its, rv, o, ho, hc, n, hd⟩ := ok a _ ha
      match its, rv, hd with
      | [u1, u2], .cons ⟨t1, e1⟩ (.cons ⟨t2, e2⟩ .nil), hd =>
        subst e1 e2
        exact ⟨a, o, t1, t2, n, rfl, ho, hc, hd⟩
    · exact kp_pairs ok t q p hp
theorem isPair_one {h : Heap} {v : Value} {a b c d : Int} (x : Srt.IsPair h v a b) (y : Srt.IsPair h v c d) : a = c ∧ b = d := by
  obtain ⟨p, o, t, u, n, rfl, ho, _, hd⟩ := x
  obtain ⟨p', o', t', u', n', e, ho', _, hd'⟩ := y
  cases e
  rw [ho] at ho'
  cases ho'
  rw [hd] at hd'
  cases hd'
  exact ⟨rfl, rfl⟩
open Classical in
noncomputable def pairOf (h : Heap) (v : Value) : Int × Int := if z : ∃ k : Int × Int, Srt.IsPair h v k.1 k.2 then Classical.choose z else (0, 0)
theorem pairOf_eq {h : Heap} {v : Value} {k : Int × Int} (x : Srt.IsPair h v k.1 k.2) : pairOf h v = k := by
  have z : ∃ k : Int × Int, Srt.IsPair h v k.1 k.2 := ⟨k, x⟩
  unfold pairOf
  rw [dif_pos z]
  have := isPair_one (Classical.choose_spec z) x
  exact Prod.ext this.1 this.2
theorem keyP : KeyOk X KP SrtO.lexB := ⟨fun ⟨t, e, h⟩ s => ⟨t, e, s _ _ h⟩, fun {pins σ H s A b ys us ks} I _ ⟨e, hb⟩ rk ry => by
  have hp := kp_pairs I.hok rk ry
  have hm : ∀ u ∈ us, ∃ k, (u, k) ∈ us.zip ks := by
    have : us.length = ks.length := by rw [← ry.length]; exact Paired.length rk
    intro u hu
    obtain ⟨i, hi, rfl⟩ := List.getElem_of_mem hu
    exact ⟨ks[i]'(by omega), by
      have : (us.zip ks)[i]'(by rw [List.length_zip]; omega) = (us[i], ks[i]'(by omega)) := List.getElem_zip
      rw [← this]; exact List.getElem_mem _⟩
  refine ⟨fun v u => SrtO.lexB (pairOf s.heap v) (pairOf s.heap u), SrtO.swo_lex _, fun h2 => SrtO.pairs_sortableO (by omega) (fun v hv => ?_) (fun o ho => ?_), fun p hpz q hqz => ?_⟩
  · obtain ⟨k, hk⟩ := hm v hv
    rw [pairOf_eq (hp _ hk)]; exact hp _ hk
  · rw [hb] at ho; cases ho; exact fun z => absurd (Value.type.inj z) (by decide)
  · show SrtO.lexB (pairOf s.heap p.1) (pairOf s.heap q.1) = _
    rw [pairOf_eq (hp _ hpz), pairOf_eq (hp _ hqz)]⟩
end
/-! ### lambdas with parameters, told to the ledger -/
section
open LamX (CodeO TabS Tabs ExtN TabB inv_table among_app codeO_ne)
/-- at f: the function of a lambda without captured names, its code object at c -/
def LamO (f : Addr) (qual : Str) (params : Arguments) (body : Expr) (scope : Scope) (c : Addr) : HO := .ext fun h => ∃ pm ctv, h.get? f = some (PySem.W.kla_obj "<lambda>" qual params body scope [] pm c ctv)
variable {X : Cx} {pins : List (Addr × Obj)} {σ : L2.St} {H : Hp} {s : Shared}
theorem lamO_ok {P : Program} {w : World} {h : Heap} {f c : Addr} {qual : Str} {params : Arguments} {body : Expr} {scope : Scope} {pm ctv : Value} (e : h.get? f = some (PySem.W.kla_obj "<lambda>" qual params body scope [] pm c ctv)) : ObjOk P w H h f (LamO f qual params body scope c) :=
  ⟨⟨pm, ctv, e⟩, ⟨_, e⟩, fun h1 h2 ⟨a, b, z⟩ k => ⟨a, b, k _ z⟩⟩
theorem lamO_at {P : Program} {w : World} {h : Heap} {f c : Addr} {qual : Str} {params : Arguments} {body : Expr} {scope : Scope} (ok : HOk P w H h) (e : H f = some (LamO f qual params body scope c)) : ∃ pm ctv, h.get? f = some (PySem.W.kla_obj "<lambda>" qual params body scope [] pm c ctv) := by
  have x : ObjOk P w H h f (.ext fun h => ∃ pm ctv, h.get? f = some (PySem.W.kla_obj "<lambda>" qual params body scope [] pm c ctv)) := ok f _ e
  exact x.1
theorem codeO_at {P : Program} {w : World} {h : Heap} {c : Addr} {q : Str} (ok : HOk P w H h) (e : H c = some (CodeO c q)) : ∃ (oc : Obj) (vs : Array Value) (t : Tok), h.get? c = some oc ∧ oc.data = .fields vs ∧ vs[1]? = some (.str q t) := by
  have x : ObjOk P w H h c (.ext fun h => ∃ (oc : Obj) (vs : Array Value) (t : Tok), h.get? c = some oc ∧ oc.data = .fields vs ∧ vs[1]? = some (.str q t)) := ok c _ e
  exact x.1
theorem lamO_ne {f c : Addr} {qual : Str} {params : Arguments} {body : Expr} {scope : Scope} (ps : Array Value) : LamO f qual params body scope c ≠ .tbl ps := fun z => by
  unfold LamO at z
  cases z
/-- the tables, over a heap in which nothing of them changes but P's own -/
theorem tabs_snoc {T : List (Addr × Str)} {P c : Addr} {q : Str} {ps : Array Value} {pos : Pos} (hT : Tabs T H) (hu : ∀ p ∈ T, p.1 = P → p.2 = q) (hP : H P = some (.tbl ps)) (ht : TriplesOk ps.toList) (nc : H c = none)
    (old : ∀ (p : Pos) (cv : Value), codeAmong p ps.toList = some cv → ∃ c0, cv = .ref c0 ∧ H c0 = some (CodeO c0 q)) (E : ExtN H (upd (upd H P (.tbl (ps ++ #[rawInt pos.line, rawInt pos.col, .ref c]))) c (CodeO c q))) :
    Tabs T (upd (upd H P (.tbl (ps ++ #[rawInt pos.line, rawInt pos.col, .ref c]))) c (CodeO c q)) := by
  intro p hp
  have el : (ps ++ #[rawInt pos.line, rawInt pos.col, .ref c]).toList = ps.toList ++ [rawInt pos.line, rawInt pos.col, .ref c] := by simp
  by_cases hb : p.1 = P
  · rw [hu p hp hb, hb]
    refine ⟨_, by rw [upd_ne (ne_of_none hP nc), upd_same], by rw [el]; exact PySem.TriplesOk_snoc _ _ _ _ ht, fun p' cv h => ?_⟩
    rw [el] at h
    rcases among_app _ ht h with z | z
    · obtain ⟨c0, e1, e2⟩ := old p' cv z
      exact ⟨c0, e1, E _ _ e2 codeO_ne⟩
    · exact ⟨c, z, upd_same⟩
  · obtain ⟨ps', a1, a2, a3⟩ := hT p hp
    refine ⟨ps', by rw [upd_ne (ne_of_none a1 nc), upd_ne hb]; exact a1, a2, fun p' cv h => ?_⟩
    obtain ⟨c0, e1, e2⟩ := a3 p' cv h
    exact ⟨c0, e1, E _ _ e2 codeO_ne⟩
theorem extN_table {P c : Addr} {ps qs : Array Value} {o : HO} (hP : H P = some (.tbl ps)) (nc : H c = none) : ExtN H (upd (upd H P (.tbl qs)) c o) := fun b u e n => by
  rw [upd_ne (ne_of_none e nc), upd_ne (fun z => n ps (Option.some.inj (e.symm.trans (by rw [z]; exact hP))))]
  exact e
theorem extN_new {H1 : Hp} {f : Addr} {o : HO} (E : ExtN H H1) (n : H1 f = none) : ExtN H (upd H1 f o) := fun b u e q => by
  rw [upd_ne (ne_of_none (E b u e q) n)]; exact E b u e q
theorem tabs_new {T : List (Addr × Str)} {f : Addr} {o : HO} (hT : Tabs T H) (n : H f = none) : Tabs T (upd H f o) := hT.ext fun b u e => by rw [upd_ne (ne_of_none e n)]; exact e
theorem upd_none {H : Hp} {p b : Addr} {o : HO} (h : upd H p o b = none) : H b = none := by
  by_cases c : b = p
  · subst c; rw [upd_same] at h; cases h
  · rw [upd_ne c] at h; exact h
theorem lam_make3 {T : List (Addr × Str)} {c P : Addr} {params : Arguments} {body : Expr} {scope : Scope} {pos : Pos} {E : Value → Shared → Prop} {Q : Value → Shared → Prop} (I : Inv X pins σ H s) (B : TabB X.base X.mg c P) (code : X.env.code = .ref c)
    (hm : (P, X.env.qual ++ "<lambda>") ∈ T) (hu : ∀ p ∈ T, p.1 = P → p.2 = X.env.qual ++ "<lambda>") (hT : Tabs T H) (hd : defaultsOf params X.env = ([], [])) (hcl : closureFor scope X.env = pure []) 
    (h : ∀ (f c' : Addr) (H1 : Hp) (s' : Shared), Inv X pins σ H1 s' → ExtN H H1 → Tabs T H1 → (∀ b, H1 b = none → H b = none) → H1 f = some (LamO f (X.env.qual ++ "<lambda>") params body scope c') → H1 c' = some (CodeO c' (X.env.qual ++ "<lambda>")) → Q (.ref f) s') :
    wpAny (model X.prog X.w) X.A (eval (.Lambda params body scope pos) X.env) Q E s := by
  obtain ⟨ps, hP, ht, ha⟩ := hT _ hm
  refine PySem.W.kla_eval hd ?_
  have bP : s.heap.BuiltinsAt X.mg P := B.bm.keeps I.bk
  have oP : s.heap.get? P = some { cls := .none, data := .fields ps } := I.hok P _ hP
  cases hc : codeAmong pos ps.toList with
  | some cv =>
    obtain ⟨c', e, hco⟩ := ha pos cv hc
    subst e
    refine PySem.W.kla_makeFunctionHit (mg := X.mg) (c := c) (P := P) (ps := ps) hcl I.ok.glob (I.mod.glob.keeps I.bk) code (B.code.keeps I.bk) oP ht hc bP fun ctv h' tk hx hsz => ?_
    have I1 : Inv X pins σ H { s with heap := h', toks := tk } := I.kept hx
    have nf : H h'.objs.size = none := I.hok.fresh hsz
    have I2 := I1.laid (a := h'.objs.size) (o := LamO h'.objs.size (X.env.qual ++ "<lambda>") params body scope c') (t' := tk) (h' := h'.push (PySem.W.kla_obj "<lambda>" (X.env.qual ++ "<lambda>") params body scope [] ((X.mg "__name__").getD .none) c' ctv))
      (fun b o e => Heap.get?_push_of_some _ e) (Nat.le_refl _) (lamO_ok (Heap.get?_push_size _ rfl))
    exact h _ c' _ _ I2 (extN_new (ExtN.refl H) nf) (tabs_new hT nf) (fun b => upd_none) upd_same (by rw [upd_ne (ne_of_none hco nf)]; exact hco)
  | none =>
    refine PySem.W.kla_makeFunction (mg := X.mg) (c := c) (P := P) (ps := ps) hcl I.ok.glob (I.mod.glob.keeps I.bk) code (B.code.keeps I.bk) oP ht hc B.gP bP fun c' ctv h' tk hx hge hlt hrec htb => ?_
    obtain ⟨c2, oc, vs, t, e2, hoc, hd2, hv⟩ := hrec
    cases e2
    have nc : H c' = none := I.hok.fresh hge
    have ee := extN_table (qs := ps ++ #[rawInt pos.line, rawInt pos.col, .ref c']) (o := CodeO c' (X.env.qual ++ "<lambda>")) hP nc
    have t1 := tabs_snoc (pos := pos) hT hu hP ht nc ha ee
    have I1 := inv_table (t' := tk) (q := X.env.qual ++ "<lambda>") (more := #[rawInt pos.line, rawInt pos.col, .ref c']) (h' := h') I hP (fun b o hb e => hx b o hb e) htb hge ⟨oc, vs, t, hoc, hd2, hv⟩
    have hsz : s.heap.objs.size ≤ h'.objs.size := Nat.le_trans hge (Nat.le_of_lt hlt)
    have nf : (upd (upd H P (.tbl (ps ++ #[rawInt pos.line, rawInt pos.col, .ref c']))) c' (CodeO c' (X.env.qual ++ "<lambda>"))) h'.objs.size = none := by
      rw [upd_ne (Nat.ne_of_gt hlt), upd_ne (Nat.ne_of_gt (Nat.lt_of_lt_of_le (Heap.lt_size oP) hsz))]
      exact I.hok.fresh hsz
    have I2 := I1.laid (a := h'.objs.size) (o := LamO h'.objs.size (X.env.qual ++ "<lambda>") params body scope c') (t' := tk) (h' := h'.push (PySem.W.kla_obj "<lambda>" (X.env.qual ++ "<lambda>") params body scope [] ((X.mg "__name__").getD .none) c' ctv))
      (fun b o e => Heap.get?_push_of_some _ e) (Nat.le_refl _) (lamO_ok (Heap.get?_push_size _ rfl))
    exact h _ c' _ _ I2 (extN_new ee nf) (tabs_new t1 nf) (fun b z => upd_none (upd_none (upd_none z))) upd_same (by rw [upd_ne (ne_of_none upd_same nf)]; exact upd_same)
end
/-! ### the law's end, where defs make lambdas: their code objects' tables are told from the start -/
section
open LamX (TabB)
variable {P : Program} {w : World} {K : PySem.W.Frag} {mg mb : Str → Option Value} {k : Nat} {fa a : Addr} {fd : FuncData} {x : Str} {sp : Sp} {s₁ : Shared} {vs : List Value} {ns : List Int}
/-- tables alone, and the script -/
def OnlyT (ts : List Addr) (H : Hp) : Prop := ∀ b, H b = none ∨ (b ∈ ts ∧ H b = some (.tbl #[])) ∨ ∃ o xs, H b = some (.frz o (.lst xs))
theorem lawT0 {cs : List (Addr × Addr)} (KX : K.In s₁.heap) (g1 : s₁.heap.Ns mainGlobals mg) (g2 : s₁.heap.Ns builtinsNs mb) (g3 : ∀ x : Str, x ≠ "__name__" → mb x = bootBuiltins x) (g4 : s₁.heap.NoLimit) (g5 : s₁.gens = #[])
    (g6 : ∃ (bm : Addr) (ob : Obj), mg "__builtins__" = some (.ref bm) ∧ bm ≠ builtinsNs ∧ s₁.heap.get? bm = some ob ∧ ob.cls = .type "module" ∧ ob.dict = some builtinsNs ∧ ob.data = .plain)
    (hT : ∀ p ∈ cs, s₁.heap.get? p.2 = some { cls := .none, data := .fields #[] }) (hC : ∀ p ∈ cs, PySem.W.CodeHd s₁.heap p.1 p.2)
    (ha : s₁.heap.get? a = some { cls := .type "list", data := .seq vs.toArray }) (hr : Room k callerA)
    (F : ∀ base : Heap, K.In base → base.Ns mainGlobals mg → (∀ p ∈ cs, TabB base mg p.1 p.2) → FnOkG P w K mg base CX0 k fa fd [x] sp) (bd : ∀ (s : Shared) (u : Value), BindsTo s fd ⟨[u], []⟩ [(x, u)])
    (H : Hp) (hO : OnlyT (cs.map (·.2)) H) (want : sp [.ref a] H (fun v _ => v = .bl true) fun _ _ _ => False) (ok : HOk P w H s₁.heap) (hA : ∀ b, H b ≠ none → b = a ∨ b ∈ cs.map (·.2)) (hK : ∀ b, H b ≠ none → K.lookup b = none) :
    codeAny (model P w) callerA (.call (.ref fa) ⟨[.ref a], []⟩) (fun r s' => r = .ok (.ret (.bool true)) ∧ OldK s₁.heap s'.heap ∧ s'.os = s₁.os ∧ AllBare s'.gens) s₁ := by
  have tab : ∀ b, b ∈ cs.map (·.2) → ∃ p ∈ cs, p.2 = b ∧ s₁.heap.get? b = some { cls := .none, data := .fields #[] } := by
    intro b hb
    obtain ⟨p, hp, rfl⟩ := List.mem_map.mp hb
    exact ⟨p, hp, rfl, hT p hp⟩
  have free : ∀ {b : Addr} {o : Obj}, s₁.heap.get? b = some o → (∀ us n, o.data ≠ .seq us n) → o.data ≠ .fields #[] → H b = none := by
    intro b o e h1 h2
    apply Classical.byContradiction
    intro z
    rcases hA b z with rfl | hb
    · rw [ha] at e; cases e; exact h1 _ _ rfl
    · obtain ⟨_, _, _, e2⟩ := tab b hb
      rw [e2] at e; cases e; exact h2 rfl
  have nsK : ∀ {b : Addr} {m : Str → Option Value}, s₁.heap.Ns b m → (hidT s₁.heap H).Ns b m := by
    rintro b m ⟨o, es, ep, e, d, r⟩
    exact ⟨o, es, ep, hidT_get e (free e (fun _ _ z => by rw [d] at z; cases z) fun z => by rw [d] at z; cases z), d, r⟩
  have kb : K.In (hidT s₁.heap H) := by
    intro b o e
    refine hidT_get (KX b o e) (Classical.byContradiction fun z => ?_)
    rw [hK b z] at e; cases e
  have M : Mod K mg (hidT s₁.heap H) := by
    obtain ⟨mc, h1, h2⟩ := g4
    exact ⟨kb, nsK g1, ⟨mb, nsK g2, g3⟩, ⟨mc, nsK h1, h2⟩⟩
  have gne : ∀ p ∈ cs, mainGlobals ≠ p.2 := by
    intro p hp z
    obtain ⟨o, es, ep, e, d, _⟩ := g1
    rw [z, hT p hp] at e; cases e; cases d
  have B : ∀ p ∈ cs, TabB (hidT s₁.heap H) mg p.1 p.2 := by
    intro p hp
    refine ⟨?_, ?_, gne p hp⟩
    · obtain ⟨o, us, file, tf, flags, tg, inF, text, tt, e1, r1, r2, r3, r⟩ := hC p hp
      refine ⟨o, us, file, tf, flags, tg, inF, text, tt, hidT_get e1 (free e1 (fun _ _ z => by rw [r2] at z; cases z) fun z => ?_), r1, r2, r3, r⟩
      rw [r2] at z; cases z; simp at r3
    · obtain ⟨bm, ob, b1, b2, b3, b4, b5, b6⟩ := g6
      refine ⟨bm, ob, b1, b2, ?_, ?_, hidT_get b3 (free b3 (fun _ _ z => by rw [b6] at z; cases z) fun z => by rw [b6] at z; cases z), b4, b5, b6⟩
      · intro z
        obtain ⟨o, es, ep, e, d, _⟩ := g1
        rw [z, e] at b3; cases b3; rw [d] at b6; cases b6
      · intro z
        rw [z, hT p hp] at b3; cases b3; cases b6
  have e0 : Env0 P w K mg (hidT s₁.heap H) callerA [] s₁ H :=
    { frames := rfl, mod := M, bs := fun b o e => of_hidT e, bsz := Nat.le_of_eq (hidT_size _ _), funs := trivial, frf := fun b z => absurd (show b ∈ ([] : List Addr) from z) (by simp), hok := ok, bare := .of_eq g5 }
  have run := (F _ kb (nsK g1) B).goes callerA [] s₁ H ⟨[.ref a], []⟩ [.ref a] [.ref a] _ _ rfl hr e0 (bd s₁ (.ref a)) (.cons rfl .nil) want
  refine codeAny_mono run fun r s' h => ?_
  match r, h with
  | .error e, h => exact (show False from h).elim
  | .ok .next, h => exact (show False from h).elim
  | .ok .brk, h => exact (show False from h).elim
  | .ok .cont, h => exact (show False from h).elim
  | .ok (.ret u), ⟨v, H', os, bare, un, ok', rv, (qv : v = .bl true)⟩ =>
    cases qv
    cases (show u = Value.bool true from rv)
    have same : ∀ b o, H b = none → s₁.heap.get? b = some o → s'.heap.get? b = some o := fun b o q e => un.keep b o e q (fun z => absurd (show b ∈ ([] : List Addr) from z) (by simp)) (by simp)
    have key : ∀ b o, s₁.heap.get? b = some o → s'.heap.get? b = some o ∨ (b ∈ cs.map (·.2) ∧ ∃ more : Array Value, s'.heap.get? b = some { cls := .none, data := .fields more }) := by
      intro b o e
      rcases hO b with z | ⟨hb, z⟩ | ⟨ob, xs, z⟩
      · exact .inl (same b o z e)
      · obtain ⟨more, z2⟩ := un.tbls b _ z
        exact .inr ⟨hb, _, ok' b _ z2⟩
      · have f1 := (ok b _ z).1
        have f2 := (ok' b _ (un.frzs b ob _ z)).1
        rw [f1] at e; cases e
        exact .inl f2
    refine ⟨rfl, ⟨fun b o e => ?_, fun b o e => ?_⟩, os, bare⟩
    · rcases key b o e with z | ⟨hb, more, z⟩
      · exact .inl z
      · obtain ⟨p, hp, rfl, et⟩ := tab b hb
        rw [et] at e; cases e
        exact .inr (.inl ⟨((hC p hp).tab et).isCodeTable, rfl, #[], more, rfl, by rw [Array.empty_append]; exact z⟩)
    · rcases key b o e with z | ⟨_, more, z⟩
      · exact ⟨_, z⟩
      · exact ⟨_, z⟩
theorem lawT {cs : List (Addr × Addr)} (KX : K.In s₁.heap) (g1 : s₁.heap.Ns mainGlobals mg) (g2 : s₁.heap.Ns builtinsNs mb) (g3 : ∀ x : Str, x ≠ "__name__" → mb x = bootBuiltins x) (g4 : s₁.heap.NoLimit) (g5 : s₁.gens = #[])
    (g6 : ∃ (bm : Addr) (ob : Obj), mg "__builtins__" = some (.ref bm) ∧ bm ≠ builtinsNs ∧ s₁.heap.get? bm = some ob ∧ ob.cls = .type "module" ∧ ob.dict = some builtinsNs ∧ ob.data = .plain)
    (hT : ∀ p ∈ cs, s₁.heap.get? p.2 = some { cls := .none, data := .fields #[] }) (hC : ∀ p ∈ cs, PySem.W.CodeHd s₁.heap p.1 p.2) (nT : ∀ p ∈ cs, K.lookup p.2 = none)
    (ha : s₁.heap.get? a = some { cls := .type "list", data := .seq vs.toArray }) (hi : IntsAre vs ns) (hl : ns.length ≤ sizeLine) (hr : Room k callerA)
    (F : ∀ base : Heap, K.In base → base.Ns mainGlobals mg → (∀ p ∈ cs, TabB base mg p.1 p.2) → FnOkG P w K mg base CX0 k fa fd [x] sp) (bd : ∀ (s : Shared) (u : Value), BindsTo s fd ⟨[u], []⟩ [(x, u)])
    (want : ∀ H : Hp, (∀ p ∈ cs, H p.2 = some (.tbl #[])) → SqL K H a (ns.map V.int) → sp [.ref a] H (fun v _ => v = .bl true) fun _ _ _ => False) :
    codeAny (model P w) callerA (.call (.ref fa) ⟨[.ref a], []⟩) (fun r s' => r = .ok (.ret (.bool true)) ∧ OldK s₁.heap s'.heap ∧ s'.os = s₁.os ∧ AllBare s'.gens) s₁ := by
  have rv := vals_ints hi
  have tab : ∀ b, b ∈ cs.map (·.2) → s₁.heap.get? b = some { cls := .none, data := .fields #[] } ∧ K.lookup b = none := by
    intro b hb
    obtain ⟨p, hp, rfl⟩ := List.mem_map.mp hb
    exact ⟨hT p hp, nT p hp⟩
  have na : a ∉ cs.map (·.2) := fun z => by
    have := (tab a z).1
    rw [ha] at this
    cases this
  have tok : ∀ {H : Hp} {b : Addr}, b ∈ cs.map (·.2) → ObjOk P w H s₁.heap b (.tbl #[]) := fun hb => (tab _ hb).1
  by_cases hk : K.lookup a = none
  · let H : Hp := fun b => if b = a then some (.frz { cls := .type "list", data := .seq vs.toArray } (.lst (ns.map V.int))) else if b ∈ cs.map (·.2) then some (.tbl #[]) else none
    have Ha : H a = some (.frz { cls := .type "list", data := .seq vs.toArray } (.lst (ns.map V.int))) := if_pos rfl
    have Ht : ∀ b ∈ cs.map (·.2), H b = some (.tbl #[]) := fun b hb => (if_neg fun z => na (by rw [← z]; exact hb)).trans (if_pos hb)
    have Hn : ∀ b, b ≠ a → b ∉ cs.map (·.2) → H b = none := fun b n m => (if_neg n).trans (if_neg m)
    have hA : ∀ b, H b ≠ none → b = a ∨ b ∈ cs.map (·.2) := fun b z => Classical.byContradiction fun q => z (Hn b (fun y => q (.inl y)) fun y => q (.inr y))
    refine lawT0 KX g1 g2 g3 g4 g5 g6 hT hC ha hr F bd H (fun b => ?_) (want H (fun p hp => Ht _ (List.mem_map.mpr ⟨p, hp, rfl⟩)) (.inl (.inr ⟨_, Ha⟩))) (fun b u z => ?_) hA (fun b z => ?_)
    · by_cases e : b = a
      · exact .inr (.inr ⟨_, _, e ▸ Ha⟩)
      · by_cases m : b ∈ cs.map (·.2)
        · exact .inr (.inl ⟨m, Ht b m⟩)
        · exact .inl (Hn b e m)
    · rcases hA b (by rw [z]; intro y; cases y) with rfl | m
      · rw [Ha] at z; cases z
        exact ⟨ha, by rw [List.length_map]; exact hl, vs, _, rv, ha⟩
      · rw [Ht b m] at z; cases z
        exact tok m
    · rcases hA b z with rfl | m
      · exact hk
      · exact (tab b m).2
  · obtain ⟨o, ho⟩ := Option.ne_none_iff_exists'.mp hk
    have e := KX a o ho
    rw [ha] at e
    cases e
    let H : Hp := fun b => if b ∈ cs.map (·.2) then some (.tbl #[]) else none
    have Ht : ∀ b ∈ cs.map (·.2), H b = some (.tbl #[]) := fun b hb => if_pos hb
    have hA : ∀ b, H b ≠ none → b ∈ cs.map (·.2) := fun b z => Classical.byContradiction fun q => z (if_neg q)
    refine lawT0 KX g1 g2 g3 g4 g5 g6 hT hC ha hr F bd H (fun b => ?_) (want H (fun p hp => Ht _ (List.mem_map.mpr ⟨p, hp, rfl⟩)) (.inr ⟨_, vs.toArray, _, ho, rfl, rfl, rfl, by rw [List.size_toArray, hi.length]; exact hl, by simpa using rv⟩)) (fun b u z => ?_) (fun b z => .inr (hA b z)) fun b z => (tab b (hA b z)).2
    · by_cases m : b ∈ cs.map (·.2)
      · exact .inr (.inl ⟨m, Ht b m⟩)
      · exact .inl (if_neg m)
    · have m := hA b (by rw [z]; intro y; cases y)
      rw [Ht b m] at z; cases z
      exact tok m
end
/-- ts: the tables of all defs that make lambdas -/
theorem walkM {l : PySem.W.OpenLaw} {n k : Nat} {q : Program} {loose : List Str} {XP : (Str → Option Value) → Heap → Prop} {YP : World → Heap → Prop} {d : DefRec} {K : Params → PySem.W.Frag} {x : Str} {ts : List Addr}
    (hn : l.most = some n) (hn2 : n ≤ sizeLine) (hdf : d.params.defaults = []) (hr : Room k callerA) (hY : ∀ (w : World) (h : Heap), YP w h → (K w.params).In h) (hT : ∀ (w : World) (h : Heap), YP w h → ∀ P ∈ ts, h.get? P = some (tabObj #[]))
    (F : ∀ (w : World) (mg : Str → Option Value) (fa : Addr) (h : Heap), (K w.params).In h → h.Ns mainGlobals mg → mg d.name = some (.ref fa) →
      ∃ (fd : FuncData) (cs : List (Addr × Addr)) (sp : Sp), (∀ t ∈ cs, t.2 ∈ ts ∧ PySem.W.codeHdIn (K w.params) t.1 t.2 = true ∧ (K w.params).lookup t.2 = none) ∧ (∀ (s : Shared) (u : Value), BindsTo s fd ⟨[u], []⟩ [(x, u)]) ∧
        (∀ (H : Hp) (a : Addr) (ns : List Int), ns.length ≤ n → (∀ t ∈ cs, H t.2 = some (.tbl #[])) → SqL (K w.params) H a (ns.map V.int) → sp [.ref a] H (fun v _ => v = .bl true) fun _ _ _ => False) ∧
        ∀ base : Heap, (K w.params).In base → base.Ns mainGlobals mg → (∀ t ∈ cs, LamX.TabB base mg t.1 t.2) → FnOkG l.prog w (K w.params) mg base CX0 k fa fd [x] sp) :
    PySem.W.WalkO q loose XP YP l.row.toRowW d [] (fun f vs => PySem.call f vs) := by
  apply Att.attach_call hn hdf
  intro w s₀ s₁ mg mb fa o pm cd doc a vs ns G Y ho hd hcd hmg hobj hints hlen hg
  have KX := hY w _ Y
  obtain ⟨fd, cs, sp, hcs, bd, want, hF⟩ := F w mg fa _ KX G.T.g hmg
  exact lawT (cs := cs) KX G.T.g G.T.b G.T.builtins G.T.nolimit hg G.T.bmain (fun p hp => hT w _ Y _ (hcs p hp).1) (fun p hp => PySem.W.codeHd_of_K KX (hcs p hp).2.1) (fun p hp => (hcs p hp).2.2) hobj hints (Nat.le_trans hlen hn2) hr hF bd fun H hH hS => want H a ns hlen hH hS
/-! ### lambdas made and called; sorted by them -/
section
open LamX (CodeO TabS Tabs ExtN TabB)
variable {X : Cx}
def tLamE (TT : List (Addr × Str)) (qual : Str) (params : Arguments) (body : Expr) (scope : Scope) : TE := fun _ H Q => Tabs TT H ∧ ∀ f c H1, ExtN H H1 → Tabs TT H1 → (∀ b, H1 b = none → H b = none) → H1 f = some (LamO f qual params body scope c) → H1 c = some (CodeO c qual) → Q (.ref f) H1
theorem pe_lam3 {TT : List (Addr × Str)} {c P : Addr} {params : Arguments} {body : Expr} {scope : Scope} {pos : Pos} (B : TabB X.base X.mg c P) (code : X.env.code = .ref c) (hm : (P, X.env.qual ++ "<lambda>") ∈ TT) (hu : ∀ p ∈ TT, p.1 = P → p.2 = X.env.qual ++ "<lambda>")
    (hd : defaultsOf params X.env = ([], []) := by rfl) (hcl : closureFor scope X.env = pure [] := by rfl) : PE X (.Lambda params body scope pos) (tLamE TT (X.env.qual ++ "<lambda>") params body scope) := by
  refine ⟨fun pins s σ H Q I h => ?_⟩
  obtain ⟨hT, q⟩ := h
  exact lam_make3 I B code hm hu hT hd hcl fun f c' H1 s' I1 e1 t1 h0 h1 h2 => ⟨.ref f, H1, I1, rfl, q f c' H1 e1 t1 h0 h1 h2⟩
theorem CE.gone {H : Hp} {s s' : Shared} {Q : VK} {u : Value} (h : CE X.stack X.prog X.w H s Q u s') : ∃ v H', Gone X H s H' s' ∧ RelV v u ∧ Q v H' := by
  obtain ⟨v, H', os, bare, un, hok, r, q⟩ := h
  exact ⟨v, H', ⟨os, bare, un, hok⟩, r, q⟩
theorem inv_env1 {pins : List (Addr × Obj)} {σ : L2.St} {H : Hp} {s : Shared} (I : L2.Inv X pins σ H s) : Env0 X.prog X.w X.K X.mg X.base X.A.in1.in1 X.stack s H := { I.env0 with frames := I.env0.frames }
section
variable {pins : List (Addr × Obj)} {σ : L2.St} {H : Hp} {s : Shared} {f c : Addr} {qual : Str} {params : Arguments} {body : Expr} {scope : Scope} {N ps : List Str} {tb : TE} {k : Nat} {us : List Value} {vs : List V} {Q : VK}
theorem run_lam3 (I : L2.Inv X pins σ H s) (hf : H f = some (LamO f qual params body scope c)) (hc : H c = some (CodeO c qual)) (S : FnScope N ps scope)
    (bind : ∀ (us : List Value) (pm cv ctv : Value), us.length = ps.length → bindArgs (PySem.W.kla_fn "<lambda>" qual params body scope [] pm cv ctv) ⟨us, []⟩ = pure (ps.zip us)) (hr : Room (k + 1) X.A.in1.in1)
    (hb : ∀ (A : Around) (outer : List Env) (s : Shared) (H : Hp), Room k (A.deeper (envOfC qual scope s.heap.objs.size f (.ref c))) → PE (cxOf CX0 X.prog X.w X.K X.mg X.base N qual scope f (.ref c) A outer s H E0).nox body tb)
    (r : Vals vs us) (hl : vs.length = ps.length) (want : tb (L2.start N vs) H Q) : wpAny (model X.prog X.w) X.A.in1.in1 (call (.ref f) us) (fun u s' => CE X.stack X.prog X.w H s Q u s') (fun _ _ => False) s := by
  obtain ⟨pm, ctv, of⟩ := lamO_at I.hok hf
  obtain ⟨oc, cvs, t, hoc, hdc, hvc⟩ := codeO_at I.hok hc
  have env := (inv_env1 I)
  have lim : s.heap.NoLimit := I.nolimit
  have hul : us.length = ps.length := r.length.symm.trans hl
  have vis : ∀ y ∈ ps.zip us, scope.names.lookup y.1 = some .local ∨ (scope.names.lookup y.1 = some .cell ∧ ((cellsFrom (s.heap.objs.size + 1) scope.names []).lookup y.1).isSome = true) := by
    rintro ⟨n, v⟩ hy
    exact (S.par n (List.of_mem_zip hy).1).elim Or.inl fun z => Or.inr ⟨z, PySem.W.cellsFrom_some _ _ _ (Or.inl z)⟩
  refine wpAny_call (PySem.W.kla_callFunE hr.depth of rfl S.co S.gen rfl ⟨c, oc, cvs, t, rfl, hoc, hdc, hvc⟩ ?_)
  rw [bind us _ _ _ hul]
  refine wpAny_pure (wpAny_newFunctionEnv_cells S.kind vis fun env' he s1 x => ?_)
  cases he
  refine ⟨lim.keeps x.toInCall.keep, PySem.W.kla_codeExpr ?_⟩
  have J : L2.Inv (cxOf CX0 X.prog X.w X.K X.mg X.base N qual scope f (.ref c) X.A.in1.in1 X.stack s H E0) [] (L2.start N vs) H s1 := inv_start S hr.hd env hl r x
  refine wpAny_mono ((hb _ _ s H (hr.deeper _)).run [] s1 _ H Q (J.wish _) want) (fun u s' z => ?_) fun e s' z => z.elim
  obtain ⟨v, H', J', rv, q⟩ := z
  exact ⟨v, H', J'.os, J'.bare, J'.base, J'.hok, rv, q⟩
end
/-- sorted(l, key=lambda ..: ..) -/
def rSortL (K : PySem.W.Frag) {α : Type} (KR : Hp → V → α → Prop) (lt : α → α → Bool) (qual : Str) (params : Arguments) (body : Expr) (scope : Scope) (N : List Str) (tb : TE) : List V → List V → Hp → VK → Prop := fun vs zs H Q =>
  ∃ (l f c : Addr) (xs : List V) (ks : List α), vs = [.ref l] ∧ zs = [.ref f] ∧ H f = some (LamO f qual params body scope c) ∧ H c = some (CodeO c qual) ∧ SqL K H l xs ∧ ks.length = xs.length ∧
    (∀ (j : Nat) (x : V) (k : α) (H2 : Hp), xs[j]? = some x → ks[j]? = some k → Same H H2 → tb (L2.start N [x]) H2 fun y H3 => Same H2 H3 ∧ KR H3 y k) ∧
    ∀ H2 p, Same H H2 → H2 p = none → Q (.ref p) (upd H2 p (.lst (byKeys lt ks xs)))
theorem call_sortL {α : Type} {KR : Hp → V → α → Prop} {lt : α → α → Bool} (KO : KeyOk X KR lt) {qual : Str} {params : Arguments} {body : Expr} {scope : Scope} {N : List Str} {px : Str} {tb : TE} {k : Nat} (S : FnScope N [px] scope)
    (bind : ∀ (us : List Value) (pm cv ctv : Value), us.length = 1 → bindArgs (PySem.W.kla_fn "<lambda>" qual params body scope [] pm cv ctv) ⟨us, []⟩ = pure ([px].zip us)) (hr : Room (k + 3) X.A)
    (hb : ∀ (f c : Addr) (A : Around) (outer : List Env) (s : Shared) (H : Hp), Room k (A.deeper (envOfC qual scope s.heap.objs.size f (.ref c))) → PE (cxOf CX0 X.prog X.w X.K X.mg X.base N qual scope f (.ref c) A outer s H E0).nox body tb) :
    CallRK X (.builtin "sorted") ["key"] (rSortL X.K KR lt qual params body scope N tb) := by
  intro pins s σ H xs zs us ws Q I r rz h
  obtain ⟨l, f, c, ys, ks, rfl, rfl, hf, hc, hs, hk, turn, fin⟩ := h
  obtain ⟨ud, rfl, rd⟩ := Vals.one rz
  obtain rfl : ud = Value.ref f := rd
  rw [Vals.ref1 r]
  refine key_sorted KO I hs hk (fun j x ky H2 s2 u hx hky g s12 rx => ?_) fin
  have I2 := g.inv I
  refine wpAny_mono (run_lam3 (ps := [px]) (vs := [x]) (us := [u]) I2 (s12 _ _ hf) (s12 _ _ hc) S bind hr.in1.in1 (hb f c) (.cons rx .nil) rfl (turn j x ky H2 hx hky s12)) (fun v s3 z => ?_) fun _ _ z => z
  obtain ⟨y, H3, g3, ry, s23, hK⟩ := CE.gone z
  exact ⟨H3, g3, s23, y, ry, hK⟩
/-- sorted(l, key=f), f a def of the module -/
def rSortF (K : PySem.W.Frag) {α : Type} (KR : Hp → V → α → Prop) (lt : α → α → Bool) (f : Addr) (sp : Sp) : List V → List V → Hp → VK → Prop := fun vs zs H Q =>
  ∃ (l : Addr) (xs : List V) (ks : List α), vs = [.ref l] ∧ zs = [.ref f] ∧ SqL K H l xs ∧ ks.length = xs.length ∧
    (∀ (j : Nat) (x : V) (k : α) (H2 : Hp), xs[j]? = some x → ks[j]? = some k → Same H H2 → sp [x] H2 (fun y H3 => Same H2 H3 ∧ KR H3 y k) E0) ∧
    ∀ H2 p, Same H H2 → H2 p = none → Q (.ref p) (upd H2 p (.lst (byKeys lt ks xs)))
theorem call_sortF {α : Type} {KR : Hp → V → α → Prop} {lt : α → α → Bool} (KO : KeyOk X KR lt) {f : Addr} {fd : FuncData} {px : Str} {sp : Sp} {k : Nat} (F : FnOk X.prog X.w X.K X.mg X.base CX0 k f fd [px] sp) (hb : L2.Binds X.K fd [px] []) (hr : Room (k + 2) X.A) :
    CallRK X (.builtin "sorted") ["key"] (rSortF X.K KR lt f sp) := by
  intro pins s σ H xs zs us ws Q I r rz h
  obtain ⟨l, ys, ks, rfl, rfl, hs, hk, turn, fin⟩ := h
  obtain ⟨ud, rfl, rd⟩ := Vals.one rz
  obtain rfl : ud = Value.ref f := rd
  rw [Vals.ref1 r]
  refine key_sorted KO I hs hk (fun j x ky H2 s2 u hx hky g s12 rx => ?_) fin
  have I2 := g.inv I
  have bd := hb s2 [u] I2.kIn rfl
  rw [List.append_nil] at bd
  refine wpAny_call (codeAny_mono (F.run X.A.in1.in1 X.stack s2 H2 ⟨[u], []⟩ [u] [x] _ E0 hr.in1.in1 (inv_env1 I2) bd (.cons rx .nil) (turn j x ky H2 hx hky s12)) fun z s3 hz => ?_)
  match z, hz with
  | .error er, hz => exact (show False from hz).elim
  | .ok (.ret v), hz =>
    obtain ⟨y, H3, g3, ry, s23, hK⟩ := CE.gone hz
    exact ⟨H3, g3, s23, y, ry, hK⟩
  | .ok .next, hz => exact (show False from hz).elim
  | .ok .brk, hz => exact (show False from hz).elim
  | .ok .cont, hz => exact (show False from hz).elim
end
/-! ### calls by places and names, defaults -/
def nthL {α : Type} : List α → Nat → List α
  | [], _ => []
  | a :: _, 0 => [a]
  | _ :: l, n + 1 => nthL l n
def pickL {α : Type} (l : List α) : List Nat → List α
  | [] => []
  | i :: r => nthL l i ++ pickL l r
theorem nthL_vals : ∀ {vs : List V} {us : List Value} (i : Nat), Vals vs us → Vals (nthL vs i) (nthL us i)
  | _, _, _, .nil => .nil
  | _, _, 0, .cons r _ => .cons r .nil
  | _, _, i + 1, .cons _ t => nthL_vals i t
theorem pickL_vals {vs : List V} {us : List Value} (h : Vals vs us) : ∀ is : List Nat, Vals (pickL vs is) (pickL us is)
  | [] => .nil
  | i :: r => (nthL_vals i h).append (pickL_vals h r)
theorem kbD {K : PySem.W.Frag} {x qual : Str} {params : Arguments} {body : List Stmt} {scope : Scope} {dvs : List V} {kws : List (Str × V)} {f : Addr} {fd : FuncData} {ps : List Str} (F : FunD K x qual params body scope dvs kws f fd) (n : Nat) (ks : List Str) (is : List Nat) (hd : dvs ≠ [])
    (h : ∀ (T : Addr) (kV doc pm : Value) (an : Option Addr) (cdv ct : Value) (us its ws : List Value), us.length = n → its.length = dvs.length → ws.length = ks.length →
      ∃ k, bindArgs (PySem.W.fnOf x qual params body scope (.ref T) kV doc pm an cdv ct) ⟨us, ks.zip ws⟩ = seqItems? (.ref T) >>= k ∧ k (some its.toArray) = pure (ps.zip (pickL (us ++ its ++ ws) is))) :
    ∃ its : List Value, KBn K fd ps n ks (fun us ws => pickL (us ++ its ++ ws) is) (fun vs zs => pickL (vs ++ dvs ++ zs) is) :=
  FunD.kbindsD F n ks (fun us its ws => pickL (us ++ its ++ ws) is) hd (fun a b c => pickL_vals ((a.append b).append c) is) h
theorem kbF {K : PySem.W.Frag} {x qual : Str} {st : Stmt} {f : Addr} {fd : FuncData} {ps : List Str} (F : Fun K x qual st f fd) (n : Nat) (ks : List Str) (is : List Nat)
    (h : ∀ (kV doc pm : Value) (an : Option Addr) (cdv ct : Value) (us ws : List Value), us.length = n → ws.length = ks.length → bindArgs (PySem.W.fnOf x qual (defArgs st) (defBody st) (defScope st) .none kV doc pm an cdv ct) ⟨us, ks.zip ws⟩ = pure (ps.zip (pickL (us ++ ws) is))) :
    KBn K fd ps n ks (fun us ws => pickL (us ++ ws) is) (fun vs zs => pickL (vs ++ zs) is) := by
  obtain ⟨oc, od, kV, doc, pm, an, cdv, ct, osl, rfl, lk, hcd⟩ := F.ex
  exact ⟨fun s us ws _ h1 h2 => .of_eq (h kV doc pm an cdv ct us ws h1 h2), fun a b => pickL_vals (a.append b) is⟩
section
variable {X : Cx} {CX : CXT} {k : Nat} {f : Addr} {fd : FuncData} {ps ks : List Str} {sp : Sp} {E : XK} {x : Str} {p pos : Pos} {kws : List Keyword} {tk : TA} {g : List Value → List Value → List Value} {gV : List V → List V → List V}
/-- f(k = v, ..) -/
theorem pe_callN0 (F : FnOk X.prog X.w X.K X.mg X.base CX k f fd ps sp) (hr : Room k X.A) (hg : Gl X x) (hm : X.mg x = some (.ref f)) (hk : PySem.W.keepIn X.K (.ref f) = true) (hb : KBn X.K fd ps 0 ks g gV) (hx : Passes CX X E)
    (hkw : PK X kws tk) (hall : (backToKw pos (keywordEach kws X.env)).all (·.1.isSome) = true := by rfl) (hks : (backToKw pos (keywordEach kws X.env)).filterMap (·.1) = ks := by rfl)
    (hdb : (x == ("__debug__" : Str)) = false := by decide)
    (hpl : ((backTo pos (starEach [] X.env)).any (·.1) || (backToKw pos (keywordEach kws X.env)).any (·.1.isNone)) = false := by rfl) :
    PE X (.Call (.Name x p) [] kws pos) (tCallN 0 ks.length sp gV E tNil tk) := by
  refine ⟨fun pins s σ H Q I h => ?_⟩
  refine wpAny_Call_Name_kw (ld_glob I hg hm ?_ hdb)
  refine PySem.W.callWith_KW0 (h₀ := X.base) I.ok.mod.kin hk hall ?_ hpl
  refine thn (hkw.run pos pins s σ H _ I h) fun ws s2 ⟨zs, H2, I2, rz, _, l2, q2⟩ => ⟨I2.kIn, ?_⟩
  rw [hks]
  exact run_fnN F hr hb hx I2 .nil rz rfl l2 q2
end
/-! ### == and != of lists of own objects, whatever comes of it -/
set_option maxHeartbeats 8000000
section
open PySem.SeqAt GQ
open AutoSeq1 (wpAny_loadPart')
open MeetsSeq MeetsSeq2 MeetsSeq3 SeqRoads2
section
variable {prog : Program} {w : World} {A : Around} {R : Result → Shared → Prop}
/-- the lists at l and b are read anew at each turn, N items each; the first k are equal, and the k-th, where there is one, is not -/
def ListB (prog : Program) (w : World) (A : Around) (E : Value → Shared → Prop) (l b : Addr) (N k : Nat) (I : Nat → Shared → Prop) : Prop :=
  ∀ i s, I i s → ∃ (items items2 : Array Value) (n n2 : Nat), s.heap.get? l = some { cls := .type "list", data := .seq items n } ∧ s.heap.get? b = some { cls := .type "list", data := .seq items2 n2 } ∧ items.size = N ∧ items2.size = N ∧
    ∀ (h1 : i < items.size) (h2 : i < items2.size), i ≤ k → wpAny (model prog w) A.in1 (eqBool items[i] items2[i]) (fun r s' => r = decide (i < k) ∧ I (i + 1) s') E s
theorem b_loop (l b : Addr) (N k : Nat) (hk : k ≤ N) (I : Nat → Shared → Prop) (hl : ListB prog w A (fun e s' => R (.error e) s') l b N k I) (neg : Bool)
    (fin : ∀ i s, I i s → R (.ok (.ret (.bool (neg != decide (k = N))))) s) (m : Nat) :
    ∀ i : Nat, k - i = m → i ≤ k → ∀ s, I i s →
      wpAny (model prog w) A.in1 (Builtin.«list.__eq__.loop» ⟨[.ref l, .ref b, rawInt i, rawInt (if neg = true then 3 else 2)], []⟩) (FinOf prog w A R) (fun e s' => R (.error e) s') s := by
  induction m with
  | zero =>
    intro i hm hi s h
    obtain ⟨items, items2, n, n2, hl1, hb1, hs1, hs2, turn⟩ := hl _ _ h
    have hi' : i = k := by omega
    subst hi'
    by_cases c : i = N
    · have hR : R (.ok (.ret (.bool (neg != true)))) s := by have := fin _ s h; rw [decide_eq_true c] at this; exact this
      obtain ⟨hp, g, d, tk, os⟩ := s
      have hi1 : items[((i : Nat) : Int).toNat]? = none := by simp; omega
      have hi2 : items2[((i : Nat) : Int).toNat]? = none := by simp; omega
      cases neg with
      | true =>
        rw [if_pos rfl]
        wp_walk using wpAny_loadPart' hl1, wpAny_loadPart' hb1
        rw [hi1, hi2]
        wp_walk using wpAny_loadPart' hl1, wpAny_loadPart' hb1
        show R (.ok (.ret (.bool (items.size != items2.size)))) _
        rw [hs1, hs2]
        simpa using hR
      | false =>
        rw [if_neg (by decide)]
        wp_walk using wpAny_loadPart' hl1, wpAny_loadPart' hb1
        rw [hi1, hi2]
        wp_walk using wpAny_loadPart' hl1, wpAny_loadPart' hb1
        show R (.ok (.ret (.bool (items.size == items2.size)))) _
        rw [hs1, hs2]
        simpa using hR
    · have hlt : i < items.size := by omega
      have hlt2 : i < items2.size := by omega
      have ht := turn hlt hlt2 (Nat.le_refl _)
      rw [decide_eq_false (Nat.lt_irrefl i)] at ht
      have hi1 : items[((i : Nat) : Int).toNat]? = some items[i] := by simp [hlt]
      have hi2 : items2[((i : Nat) : Int).toNat]? = some items2[i] := by simp [hlt2]
      have after : ∀ s2, I (i + 1) s2 → ∃ (js js2 : Array Value) (n n2 : Nat) (x y : Value), s2.heap.get? l = some { cls := .type "list", data := .seq js n } ∧ s2.heap.get? b = some { cls := .type "list", data := .seq js2 n2 } ∧ js[((i : Nat) : Int).toNat]? = some x ∧ js2[((i : Nat) : Int).toNat]? = some y ∧ R (.ok (.ret (.bool (neg != false)))) s2 := by
        intro s2 h2
        obtain ⟨js, js2, n, n2, a1, a2, b1, b2, _⟩ := hl _ _ h2
        have hR := fin _ s2 h2
        rw [decide_eq_false c] at hR
        have z1 : i < js.size := by omega
        have z2 : i < js2.size := by omega
        exact ⟨js, js2, n, n2, js[i], js2[i], a1, a2, by simp [z1], by simp [z2], hR⟩
      obtain ⟨hp, g, d, tk, os⟩ := s
      cases neg with
      | true =>
        rw [if_pos rfl]
        wp_walk using wpAny_loadPart' hl1, wpAny_loadPart' hb1
        rw [hi1, hi2]
        refine wpAny_bind (wpAny_mono ht (fun r s2 h2 => ?_) fun _ _ x => x)
        obtain ⟨hr, h2⟩ := h2
        subst hr
        obtain ⟨js, js2, n, n2, x, y, a1, a2, e1, e2, hR⟩ := after _ h2
        obtain ⟨hp2, g2, d2, tk2, os2⟩ := s2
        wp_walk using wpAny_loadPart' a1, wpAny_loadPart' a2
        rw [e1, e2]
        wp_walk
        exact hR
      | false =>
        rw [if_neg (by decide)]
        wp_walk using wpAny_loadPart' hl1, wpAny_loadPart' hb1
        rw [hi1, hi2]
        refine wpAny_bind (wpAny_mono ht (fun r s2 h2 => ?_) fun _ _ x => x)
        obtain ⟨hr, h2⟩ := h2
        subst hr
        obtain ⟨js, js2, n, n2, x, y, a1, a2, e1, e2, hR⟩ := after _ h2
        obtain ⟨hp2, g2, d2, tk2, os2⟩ := s2
        wp_walk using wpAny_loadPart' a1, wpAny_loadPart' a2
        rw [e1, e2]
        wp_walk
        exact hR
  | succ m ih =>
    intro i hm hi s h
    obtain ⟨items, items2, n, n2, hl1, hb1, hs1, hs2, turn⟩ := hl _ _ h
    have hlt : i < items.size := by omega
    have hlt2 : i < items2.size := by omega
    have ht := turn hlt hlt2 hi
    rw [decide_eq_true (show i < k by omega)] at ht
    obtain ⟨hp, g, d, tk, os⟩ := s
    have hi1 : items[((i : Nat) : Int).toNat]? = some items[i] := by simp [hlt]
    have hi2 : items2[((i : Nat) : Int).toNat]? = some items2[i] := by simp [hlt2]
    have hc : ((i : Int) + 1) = ((i + 1 : Nat) : Int) := by omega
    cases neg with
    | true =>
      rw [if_pos rfl] at ih ⊢
      wp_walk using wpAny_loadPart' hl1, wpAny_loadPart' hb1
      rw [hi1, hi2]
      refine wpAny_bind (wpAny_mono ht (fun r s2 h2 => ?_) fun _ _ x => x)
      obtain ⟨hr, h2⟩ := h2
      subst hr
      have hrec := ih (i + 1) (by omega) (by omega) s2 h2
      obtain ⟨hp2, g2, d2, tk2, os2⟩ := s2
      wp_walk
      rw [hc]
      exact ⟨plainId_quiet plain_eq_loop _, codeAny_builtin entry_eq_loop (by
        rw [Around.under_plainId plain_eq_loop _]
        exact hrec)⟩
    | false =>
      rw [if_neg (by decide)] at ih ⊢
      wp_walk using wpAny_loadPart' hl1, wpAny_loadPart' hb1
      rw [hi1, hi2]
      refine wpAny_bind (wpAny_mono ht (fun r s2 h2 => ?_) fun _ _ x => x)
      obtain ⟨hr, h2⟩ := h2
      subst hr
      have hrec := ih (i + 1) (by omega) (by omega) s2 h2
      obtain ⟨hp2, g2, d2, tk2, os2⟩ := s2
      wp_walk
      rw [hc]
      exact ⟨plainId_quiet plain_eq_loop _, codeAny_builtin entry_eq_loop (by
        rw [Around.under_plainId plain_eq_loop _]
        exact hrec)⟩
end
section
variable {prog : Program} {w : World} {A : Around} {R : Result → Shared → Prop}
theorem list_eqB (neg : Bool) (l b : Addr) (N k : Nat) (hk : k ≤ N) (I : Nat → Shared → Prop) (hl : ListB prog w A (fun e s' => R (.error e) s') l b N k I)
    (fin : ∀ i s, I i s → R (.ok (.ret (.bool (neg != decide (k = N))))) s) {s : Shared} (h : I 0 s) :
    wpAny (model prog w) A.in1 ((if neg = true then Builtin.«list.__ne__» else Builtin.«list.__eq__») ⟨[.ref l, .ref b], []⟩) (FinOf prog w A R) (fun e s' => R (.error e) s') s := by
  obtain ⟨items, items2, n, n2, hl1, hb1, hs1, hs2, _⟩ := hl _ _ h
  have hrec := b_loop (A := A) (R := R) l b N k hk I hl neg fin _ 0 rfl (Nat.zero_le _) s h
  obtain ⟨hp, g, d, tk, os⟩ := s
  have f3 := AutoSeq1.sub_list_list
  have hne : ¬ (items.size != items2.size) = true := by simp [hs1, hs2]
  cases neg with
  | true =>
    rw [if_pos rfl] at hrec ⊢
    wp_walk using wpAny_loadPart' hl1, wpAny_loadPart' hb1
    exact ⟨plainId_quiet plain_eq_loop _, codeAny_builtin entry_eq_loop (by
      rw [Around.under_plainId plain_eq_loop _]
      exact hrec)⟩
  | false =>
    rw [if_neg (by decide)] at hrec ⊢
    wp_walk using wpAny_loadPart' hl1, wpAny_loadPart' hb1
    exact ⟨plainId_quiet plain_eq_loop _, codeAny_builtin entry_eq_loop (by
      rw [Around.under_plainId plain_eq_loop _]
      exact hrec)⟩
/-- lists of unlike lengths -/
theorem list_eqL (neg : Bool) (l b : Addr) {items items2 : Array Value} {n n2 : Nat} {s : Shared} (hl1 : s.heap.get? l = some { cls := .type "list", data := .seq items n }) (hb1 : s.heap.get? b = some { cls := .type "list", data := .seq items2 n2 }) (hne : (items.size != items2.size) = true)
    (fin : R (.ok (.ret (.bool neg))) s) :
    wpAny (model prog w) A.in1 ((if neg = true then Builtin.«list.__ne__» else Builtin.«list.__eq__») ⟨[.ref l, .ref b], []⟩) (FinOf prog w A R) (fun e s' => R (.error e) s') s := by
  obtain ⟨hp, g, d, tk, os⟩ := s
  have f3 := AutoSeq1.sub_list_list
  cases neg with
  | true =>
    rw [if_pos rfl]
    wp_walk using wpAny_loadPart' hl1, wpAny_loadPart' hb1
    exact fin
  | false =>
    rw [if_neg (by decide)]
    wp_walk using wpAny_loadPart' hl1, wpAny_loadPart' hb1
    exact fin
end
section
variable {prog : Program} {w : World} {A : Around} {E : Value → Shared → Prop} {s : Shared}
def opB (neg : Bool) : CmpOp := if neg = true then .NotEq else .Eq
theorem rc_listB (neg : Bool) {l b : Addr} {N k : Nat} {Q : Value → Shared → Prop} (hk : k ≤ N) (hu : A.units < cLine) (I : Nat → Shared → Prop) (hl : ListB prog w A E l b N k I)
    (fin : ∀ i s, I i s → Q (.bool (neg != decide (k = N))) s) (h : I 0 s) : wpAny (model prog w) A (richCompare (opB neg) (.ref l) (.ref b)) Q E s := by
  obtain ⟨items, items2, n, n2, hl1, hb1, _, _, _⟩ := hl _ _ h
  have z := list_eqB (prog := prog) (w := w) (A := A) (R := wants (fun v s' => v ≠ .notImplemented ∧ Q v s') E) neg l b N k hk I hl (fun i s' q => ⟨(fun x => nomatch x), fin i s' q⟩) h
  cases neg with
  | true => exact wpAny_richCompare_same_room (op := .NotEq) ⟨_, hl1, rfl⟩ ⟨_, hb1, rfl⟩ F.slot_list_ne (call_here F.slot_list_ne ⟨_, hl1, rfl⟩ F.entry_list_ne (F.args_list_ne_2 _ _) z) hu
  | false => exact wpAny_richCompare_same_room (op := .Eq) ⟨_, hl1, rfl⟩ ⟨_, hb1, rfl⟩ F.slot_list_eq (call_here F.slot_list_eq ⟨_, hl1, rfl⟩ F.entry_list_eq (F.args_list_eq_2 _ _) z) hu
theorem rc_listL (neg : Bool) {l b : Addr} {items items2 : Array Value} {n n2 : Nat} {Q : Value → Shared → Prop} (hu : A.units < cLine) (hl1 : s.heap.get? l = some { cls := .type "list", data := .seq items n }) (hb1 : s.heap.get? b = some { cls := .type "list", data := .seq items2 n2 }) (hne : (items.size != items2.size) = true)
    (fin : Q (.bool neg) s) : wpAny (model prog w) A (richCompare (opB neg) (.ref l) (.ref b)) Q E s := by
  have z := list_eqL (prog := prog) (w := w) (A := A) (R := wants (fun v s' => v ≠ .notImplemented ∧ Q v s') E) neg l b hl1 hb1 hne ⟨(fun x => nomatch x), fin⟩
  cases neg with
  | true => exact wpAny_richCompare_same_room (op := .NotEq) ⟨_, hl1, rfl⟩ ⟨_, hb1, rfl⟩ F.slot_list_ne (call_here F.slot_list_ne ⟨_, hl1, rfl⟩ F.entry_list_ne (F.args_list_ne_2 _ _) z) hu
  | false => exact wpAny_richCompare_same_room (op := .Eq) ⟨_, hl1, rfl⟩ ⟨_, hb1, rfl⟩ F.slot_list_eq (call_here F.slot_list_eq ⟨_, hl1, rfl⟩ F.entry_list_eq (F.args_list_eq_2 _ _) z) hu
end
end
section
open GQ
/-- how two values come out, by the abstract heap -/
abbrev EqvB := V → V → Bool → Hp → Prop
def MonB (D : EqvB) : Prop := ∀ x y b H H', Ext H H' → D x y b H → D x y b H'
def SelfB (D : EqvB) : Prop := ∀ x b H, D x x b H → b = true
def DqB (X : Cx) (n : Nat) (D : EqvB) : Prop :=
  ∀ (A : Around) (pins : List (Addr × Obj)) (s : Shared) (σ : L2.St) (H : Hp) (x y : V) (u v : Value) (b : Bool), Sub X n A → L2.Inv X pins σ H s → RelV x u → RelV y v → D x y b H →
    wpAny (model X.prog X.w) A (eqBool u v) (fun r s' => r = b ∧ ∃ H', L2.Inv X pins σ H' s' ∧ Ext H H') X.xe s
def DcB (X : Cx) (n : Nat) (op : CmpOp) (f : Bool → Bool) (D : EqvB) : Prop :=
  ∀ (A : Around) (pins : List (Addr × Obj)) (s : Shared) (σ : L2.St) (H : Hp) (x y : V) (u v : Value) (b : Bool), Sub X n A → L2.Inv X pins σ H s → RelV x u → RelV y v → D x y b H →
    wpAny (model X.prog X.w) A (richCompare op u v) (fun r s' => r = .bool (f b) ∧ ∃ H', L2.Inv X pins σ H' s' ∧ Ext H H') X.xe s
variable {X : Cx} {n m : Nat} {D D' : EqvB}
theorem DqB.mono (h : DqB X n D) (hn : n ≤ m) : DqB X m D := fun A pins s σ H x y u v b sb => h A pins s σ H x y u v b (sb.mono hn)
theorem DqB.or (h : DqB X n D) (h' : DqB X n D') : DqB X n (fun x y b H => D x y b H ∨ D' x y b H) := fun A pins s σ H x y u v b sb I rx ry d => by
  rcases d with d | d
  · exact h A pins s σ H x y u v b sb I rx ry d
  · exact h' A pins s σ H x y u v b sb I rx ry d
theorem DcB.dqB (h : DcB X n .Eq id D) (hr : ∀ x y b H, D x y b H → ∃ a c, x = .ref a ∧ y = .ref c) (hs : SelfB D) : DqB X n D := by
  intro A pins s σ H x y u v b sb I rx ry d
  obtain ⟨a, c, rfl, rfl⟩ := hr _ _ _ _ d
  cases rx
  cases ry
  by_cases hab : a = c
  · subst hab
    rw [hs _ _ _ d]
    exact SeqAt.EqAt.same (A := A) (s := s) (.ref a) X.prog X.w X.xe _ ⟨rfl, H, I, Ext.rfl'⟩
  · refine GQ.eqBool_refG hab (wpAny_mono (h A pins s σ H (.ref a) (.ref c) _ _ b sb I rfl rfl d) (fun r s' q => ?_) fun _ _ x => x)
    obtain ⟨hr', q⟩ := q
    exact ⟨b, hr', rfl, q⟩
/-- lists: of unlike lengths, or alike up to k, and unlike there -/
def PrsB (D : EqvB) (xs ys : List V) (b : Bool) (H : Hp) : Prop := (xs.length ≠ ys.length ∧ b = false) ∨
  (xs.length = ys.length ∧ ∃ k, k ≤ xs.length ∧ b = decide (k = xs.length) ∧ (∀ (i : Nat) x y, xs[i]? = some x → ys[i]? = some y → i ≤ k → D x y (decide (i < k)) H))
theorem PrsB.mon (hD : MonB D) {xs ys : List V} {b : Bool} {H H' : Hp} (e : Ext H H') (p : PrsB D xs ys b H) : PrsB D xs ys b H' := by
  rcases p with p | ⟨p, k, hk, hb, q⟩
  · exact .inl p
  · exact .inr ⟨p, k, hk, hb, fun i x y h1 h2 h3 => hD _ _ _ _ _ e (q i x y h1 h2 h3)⟩
def DListB (D : EqvB) : EqvB := fun x y b H => ∃ a c xs ys, x = .ref a ∧ y = .ref c ∧ H a = some (.lst xs) ∧ H c = some (.lst ys) ∧ PrsB D xs ys b H
theorem monB_list (hD : MonB D) : MonB (DListB D) := fun x y b H H' e d => by
  obtain ⟨a, c, xs, ys, hx, hy, h1, h2, p⟩ := d
  exact ⟨a, c, xs, ys, hx, hy, e _ _ h1, e _ _ h2, p.mon hD e⟩
theorem selfB_list (hs : SelfB D) : SelfB (DListB D) := fun x b H d => by
  obtain ⟨a, c, xs, ys, rfl, hy, h1, h2, p⟩ := d
  cases hy
  rw [h1] at h2
  cases h2
  rcases p with ⟨p, _⟩ | ⟨_, k, hk, hb, q⟩
  · exact absurd rfl p
  · rw [hb]
    by_cases c : k = xs.length
    · exact decide_eq_true c
    · have hlt : k < xs.length := by omega
      have := hs _ _ _ (q k _ _ (List.getElem?_eq_getElem hlt) (List.getElem?_eq_getElem hlt) (Nat.le_refl _))
      rw [decide_eq_false (Nat.lt_irrefl k)] at this
      cases this
theorem dcB_list (neg : Bool) (hD : MonB D) (h : DqB X n D) : DcB X (n + 1) (opB neg) (fun b => neg != b) (DListB D) := by
  intro A pins s σ H x y u v b sb I rx ry d
  obtain ⟨a, c, xs, ys, rfl, rfl, ha, hb, p⟩ := d
  cases rx
  cases ry
  rcases p with ⟨p, rfl⟩ | ⟨p, k, hk, rfl, q⟩
  · obtain ⟨z, its, k1, r, e⟩ := I.hok a _ ha
    obtain ⟨z2, its2, k2, r2, e2⟩ := I.hok c _ hb
    refine rc_listL neg sb.room.units0 e e2 ?_ ⟨by simp, H, I, Ext.rfl'⟩
    rw [List.size_toArray, List.size_toArray, ← r.length, ← r2.length]
    simpa using p
  · refine rc_listB neg (N := xs.length) (k := k) hk sb.room.units0 (fun _ s' => LoopI X pins σ H s') (fun i s' z => ?_) (fun i s' z => ⟨rfl, z⟩) ⟨H, I, Ext.rfl'⟩
    obtain ⟨H1, I1, e1⟩ := id z
    obtain ⟨z1, its, k1, r, e⟩ := I1.hok a _ (e1 _ _ ha)
    obtain ⟨z2, its2, k2, r2, e2⟩ := I1.hok c _ (e1 _ _ hb)
    refine ⟨its.toArray, its2.toArray, k1, k2, e, e2, by rw [List.size_toArray, ← r.length], by rw [List.size_toArray, ← r2.length, ← p], fun h1 h2 h3 => ?_⟩
    have g1 : its[i]? = some its.toArray[i] := by
      have h1' : i < its.length := by simpa using h1
      rw [List.getElem?_eq_getElem h1'] <;> simp
    have g2 : its2[i]? = some its2.toArray[i] := by
      have h2' : i < its2.length := by simpa using h2
      rw [List.getElem?_eq_getElem h2'] <;> simp
    have l1 : i < xs.length := by rw [r.length]; simpa using h1
    have l2 : i < ys.length := by rw [r2.length]; simpa using h2
    obtain ⟨u, hu, ru⟩ := r.get (List.getElem?_eq_getElem l1)
    obtain ⟨v, hv, rv⟩ := r2.get (List.getElem?_eq_getElem l2)
    rw [g1] at hu
    rw [g2] at hv
    rw [Option.some.inj hu, Option.some.inj hv]
    refine wpAny_mono (h A.in1 pins s' σ H1 _ _ u v _ sb.in1 I1 ru rv (hD _ _ _ _ _ e1 (q i _ _ (List.getElem?_eq_getElem l1) (List.getElem?_eq_getElem l2) h3))) (fun r s2 q => ?_) fun _ _ x => x
    obtain ⟨hr, H2, I2, e2⟩ := q
    exact ⟨hr, H2, I2, e1.trans e2⟩
theorem dqB_list (hD : MonB D) (hs : SelfB D) (h : DqB X n D) : DqB X (n + 1) (DListB D) := by
  have z := dcB_list false hD h
  refine DcB.dqB (D := DListB D) ?_ (fun _ _ _ _ d => let ⟨a, b, _, _, hx, hy, _⟩ := d; ⟨a, b, hx, hy⟩) (selfB_list hs)
  intro A pins s σ H x y u v b sb I rx ry d
  refine wpAny_mono (z A pins s σ H x y u v b sb I rx ry d) (fun r s' q => ?_) fun _ _ x => x
  obtain ⟨e, q⟩ := q
  refine ⟨e.trans ?_, q⟩
  cases b <;> rfl
/-- instances of the class at C with the text's own ==: what R says of the two -/
def DInsB (C : Addr) (R : Addr → Addr → Bool → Hp → Prop) : EqvB := fun x y b H => ∃ a c dx dy fs gs, x = .ref a ∧ y = .ref c ∧ H a = some (.ins C dx fs) ∧ H c = some (.ins C dy gs) ∧ R a c b H
theorem monB_ins {C : Addr} {R : Addr → Addr → Bool → Hp → Prop} (hR : ∀ a c b H H', Ext H H' → R a c b H → R a c b H') : MonB (DInsB C R) := fun x y b H H' e d => by
  obtain ⟨a, c, dx, dy, fs, gs, hx, hy, h1, h2, r⟩ := d
  exact ⟨a, c, dx, dy, fs, gs, hx, hy, e _ _ h1, e _ _ h2, hR a c b H H' e r⟩
/-- what the own == promises: sp tells, of two such, the truth b -/
theorem dcB_ins {CX : CXT} {C f : Addr} {fd : FuncData} {ps : List Str} {sp : Sp} {R : Addr → Addr → Bool → Hp → Prop} {E : XK} (F : FnOk X.prog X.w X.K X.mg X.base CX n f fd ps sp) (hsp : ∀ a c b H (Q : VK), R a c b H → (∀ H', Ext H H' → Q (.bl b) H') → sp [.ref a, .ref c] H Q E)
    (hs : PySem.W.findIn X.K (.ref C) "__eq__" = some (some (.ref f))) (hf : PySem.W.isFn X.K (.ref f) = true) (hb : L2.Binds X.K fd ps []) (hx : Passes CX X E) : DcB X n .Eq id (DInsB C R) := by
  intro A pins s σ H x y u v b sb I rx ry d
  obtain ⟨a, c, dx, dy, fs, gs, rfl, rfl, ha, hb', hr⟩ := d
  cases rx
  cases ry
  obtain ⟨mA, J, _⟩ := ins_get I.hok ha
  obtain ⟨mB, J', _⟩ := ins_get I.hok hb'
  obtain ⟨od, J, _⟩ := J.look
  obtain ⟨od', J', _⟩ := J'.look
  obtain ⟨m, hF⟩ := I.fr
  refine PySem.W.cmp_K (op := .Eq) (tb := .ref C) sb.room.units0 hF I.ok.mod.kin J J'.type (by simp [PySem.W.notFirst]) hs hf ?_
  have hsp2 : sp [.ref a, .ref c] H (fun v H' => v = .bl b ∧ Ext H H') E := hsp a c b H _ hr fun H' e => ⟨rfl, e⟩
  have e0 : Env0 X.prog X.w X.K X.mg X.base A X.stack s H := by
    have e := I.env0
    exact ⟨by rw [sb.fr]; exact e.frames, e.mod, e.bs, e.bsz, e.funs, e.frf, e.hok, e.bare⟩
  have hl := F.len _ _ _ _ hsp2
  have r2 : Vals [V.ref a, V.ref c] [Value.ref a, Value.ref c] := .cons rfl (.cons rfl .nil)
  refine wpAny_call (codeAny_mono (F.run A X.stack s H ⟨[.ref a, .ref c], []⟩ [.ref a, .ref c] [.ref a, .ref c] _ E sb.room e0 (by
    have := hb s [.ref a, .ref c] I.kIn (by simpa using hl)
    simpa using this) r2 hsp2) fun r s' hq => ?_)
  cases r with
  | error e => exact hx pins σ H s e s' I hq
  | ok fl =>
    cases fl with
    | ret w =>
      obtain ⟨z, H', I', rz, ez, ex⟩ := I.after hq
      subst ez
      cases rz
      exact ⟨rfl, H', I', ex⟩
    | next => exact False.elim hq
    | brk => exact False.elim hq
    | cont => exact False.elim hq
theorem dqB_ins {CX : CXT} {C f : Addr} {fd : FuncData} {ps : List Str} {sp : Sp} {R : Addr → Addr → Bool → Hp → Prop} {E : XK} (F : FnOk X.prog X.w X.K X.mg X.base CX n f fd ps sp) (hsp : ∀ a c b H (Q : VK), R a c b H → (∀ H', Ext H H' → Q (.bl b) H') → sp [.ref a, .ref c] H Q E)
    (hs : PySem.W.findIn X.K (.ref C) "__eq__" = some (some (.ref f))) (hf : PySem.W.isFn X.K (.ref f) = true) (hb : L2.Binds X.K fd ps []) (hx : Passes CX X E) (self : ∀ a b H, R a a b H → b = true) : DqB X n (DInsB C R) :=
  (dcB_ins F hsp hs hf hb hx).dqB (fun _ _ _ _ d => let ⟨a, b, _, _, _, _, hx, hy, _⟩ := d; ⟨a, b, hx, hy⟩) fun x b H d => by
    obtain ⟨a, c, _, _, _, _, rfl, hy, _, _, r⟩ := d
    cases hy
    exact self a b H r
/-- x == y, x != y as expressions -/
def rDqB (D : EqvB) (f : Bool → Bool) : R2 := fun x y H Q => ∃ b, D x y b H ∧ ∀ H', Ext H H' → Q (.bl (f b)) H'
theorem op_dqB (neg : Bool) (hD : MonB D) (h : DqB X n D) (hr : Room (n + 1) X.A) : OpR X (compareOp (opB neg)) (rDqB (DListB D) (fun b => neg != b)) := by
  intro pins s σ H x y v u Q I rx ry hq
  obtain ⟨b, d, q⟩ := hq
  have z := dcB_list neg hD h X.A pins s σ H x y v u b ⟨hr, rfl⟩ I rx ry d
  cases neg with
  | true =>
    show wpAny (model X.prog X.w) X.A (richCompare .NotEq v u) (EP X pins σ Q) X.xe s
    refine wpAny_mono z (fun r s' z => ?_) fun _ _ x => x
    obtain ⟨hr', H', I', e⟩ := z
    subst hr'
    exact ⟨.bl _, H', I', rfl, q H' e⟩
  | false =>
    show wpAny (model X.prog X.w) X.A (richCompare .Eq v u) (EP X pins σ Q) X.xe s
    refine wpAny_mono z (fun r s' z => ?_) fun _ _ x => x
    obtain ⟨hr', H', I', e⟩ := z
    subst hr'
    exact ⟨.bl _, H', I', rfl, q H' e⟩
end
/-! ### objects of an own class: their text, ==, !=, whatever stands at the right -/
section
variable {X : Cx} {CX : CXT} {C g : Addr} {n : Nat} {fd : FuncData} {ps : List Str} {sp : Sp} {E : XK}
/-- the callee runs, at whatever place below -/
theorem run_fnA {A : Around} {pins : List (Addr × Obj)} {σ : L2.St} {H : Hp} {s : Shared} {Q : VK} {us : List Value} {vs : List V} (F : FnOk X.prog X.w X.K X.mg X.base CX n g fd ps sp) (hr : Room n A) (e0 : A.frames = X.A.frames) (hb : L2.Binds X.K fd ps [])
    (hx : Passes CX X E) (I : L2.Inv X pins σ H s) (r : Vals vs us) (h : sp vs H Q E) : wpAny (model X.prog X.w) A (call (.ref g) us) (EP X pins σ Q) X.xe s := by
  have hl : (us ++ []).length = ps.length := by rw [List.append_nil, ← r.length]; exact F.len _ _ _ _ h
  have b := hb s us I.kIn hl
  rw [List.append_nil] at b
  have e := I.env0
  have e1 : Env0 X.prog X.w X.K X.mg X.base A X.stack s H := ⟨e0.trans e.frames, e.mod, e.bs, e.bsz, e.funs, e.frf, e.hok, e.bare⟩
  refine wpAny_call (codeAny_mono (F.run A X.stack s H ⟨us, []⟩ us vs Q E hr e1 b r h) fun r s' hq => ?_)
  cases r with
  | error e => exact hx pins σ H s e s' I hq
  | ok fl =>
    cases fl with
    | ret u => exact I.after hq
    | next => exact False.elim hq
    | brk => exact False.elim hq
    | cont => exact False.elim hq
theorem inst_of {pins : List (Addr × Obj)} {σ : L2.St} {H : Hp} {s : Shared} {a dx : Addr} {fs : List (Str × V)} (I : L2.Inv X pins σ H s) (h : H a = some (.ins C dx fs)) : ∃ od, PySem.W.InstAt s.heap a (instObj C dx) C (some od) := by
  obtain ⟨_, O1, _⟩ := ins_get I.hok h
  obtain ⟨od, J, _⟩ := O1.look
  exact ⟨od, J⟩
/-- one text comes back -/
def QStr (Q : VK) : VK := fun z H' => ∃ y : Str, z = .str y ∧ Q z H'
theorem strback {pins : List (Addr × Obj)} {σ : L2.St} {Q : VK} {v : Value} {s' : Shared} (h : EP X pins σ (QStr Q) v s') : StrBack (EP X pins σ Q) v s' := by
  obtain ⟨z, H', I', rz, y, rfl, q⟩ := h
  obtain ⟨t, rfl⟩ := (show ∃ t, v = Value.str y t from rz)
  exact ⟨.str y, H', I', ⟨t, rfl⟩, q⟩
def rOwn1 (C : Addr) (sp : Sp) (E : XK) (W : VK → VK) : List V → Hp → VK → Prop := fun xs H Q => ∃ a dx fs, xs = [V.ref a] ∧ H a = some (.ins C dx fs) ∧ sp [.ref a] H (W Q) E
/-- str(o), by o's own __str__ -/
theorem call_strOwn (hs : PySem.W.findIn X.K (.ref C) "__str__" = some (some (.ref g))) (hf : PySem.W.isFn X.K (.ref g) = true) (F : FnOk X.prog X.w X.K X.mg X.base CX n g fd ps sp) (hb : L2.Binds X.K fd ps [])
    (hr : Room (n + 2) X.A) (hx : Passes CX X E) : CallR X (.type "str") (rOwn1 C sp E QStr) := by
  intro pins s σ H vs us Q I r h
  obtain ⟨a, dx, fs, rfl, ha, q⟩ := h
  obtain ⟨u, rfl, ru⟩ := Vals.one r
  cases (show u = Value.ref a from ru)
  obtain ⟨od, J⟩ := inst_of I ha
  have hr2 : Room n X.A.in1.in1 := hr.in1.in1
  refine PySem.W.kso_call hr2.units0 I.kIn J hs hf ?_
  exact wpAny_mono (run_fnA (A := X.A.in1.in1) (us := [.ref a]) (vs := [.ref a]) F hr2 rfl hb hx I (.cons rfl .nil) q) (fun v s' z => strback z) fun _ _ x => x
/-- repr(o), by o's own __repr__ -/
theorem call_reprOwn (hs : PySem.W.findIn X.K (.ref C) "__repr__" = some (some (.ref g))) (hf : PySem.W.isFn X.K (.ref g) = true) (F : FnOk X.prog X.w X.K X.mg X.base CX n g fd ps sp) (hb : L2.Binds X.K fd ps [])
    (hr : Room (n + 1) X.A) (hx : Passes CX X E) : CallR X (.builtin "repr") (rOwn1 C sp E QStr) := by
  intro pins s σ H vs us Q I r h
  obtain ⟨a, dx, fs, rfl, ha, q⟩ := h
  obtain ⟨u, rfl, ru⟩ := Vals.one r
  cases (show u = Value.ref a from ru)
  obtain ⟨od, J⟩ := inst_of I ha
  have hr2 : Room n X.A.in1 := hr.in1
  obtain ⟨m, hF⟩ := I.fr
  refine PySem.W.repr_K hr2.units0 hF I.ok.mod.kin J hs hf ?_
  exact wpAny_mono (run_fnA (A := X.A.in1) (us := [.ref a]) (vs := [.ref a]) F hr2 rfl hb hx I (.cons rfl .nil) q) (fun v s' z => strback z) fun _ _ x => x
/-- o == y, by o's own __eq__, whatever y is -/
def rOwnY (K : PySem.W.Frag) (C : Addr) (sp : Sp) (E : XK) (W : VK → VK) : R2 := fun x y H Q => ∃ a dx fs t, x = .ref a ∧ H a = some (.ins C dx fs) ∧ TyX K H y t ∧ PySem.W.notFirst K C t = true ∧ sp [x, y] H (W Q) E
theorem op_eqY (hs : PySem.W.findIn X.K (.ref C) "__eq__" = some (some (.ref g))) (hf : PySem.W.isFn X.K (.ref g) = true) (F : FnOk X.prog X.w X.K X.mg X.base CX n g fd ps sp) (hb : L2.Binds X.K fd ps [])
    (hr : Room n X.A) (hx : Passes CX X E) : OpR X (compareOp .Eq) (rOwnY X.K C sp E id) := by
  intro pins s σ H x y v u Q I rx ry h
  obtain ⟨a, dx, fs, t, rfl, ha, ty, hn, q⟩ := h
  cases (show v = Value.ref a from rx)
  obtain ⟨od, J⟩ := inst_of I ha
  obtain ⟨P, Z, p, _⟩ := kit_of I ry ty
  obtain ⟨m, hF⟩ := I.fr
  show wpAny _ _ (richCompare .Eq _ _) _ _ _
  refine PySem.W.cmp_K (op := .Eq) (tb := t) hr.units0 hF I.ok.mod.kin J (Z.ty _ _ I.kIn p) hn hs hf ?_
  refine wpAny_mono (run_fnA (A := X.A) (us := [.ref a, u]) (vs := [.ref a, y]) F hr rfl hb hx I (.cons rfl (.cons ry .nil)) q) (fun w s' z => ?_) fun _ _ x => x
  obtain ⟨z', H', I', rz, qz⟩ := z
  exact SlX.cmpback rz ⟨z', H', I', rz, qz⟩
end
section
variable {prog : Program} {w : World} {A : Around} {E : Value → Shared → Prop} {s : Shared} {K : PySem.W.Frag} {x C f : Addr} {ox : Obj} {od : Option Obj} {b tb : Value}
open PySem.Builtin in
/-- a special method that is a built-in's, where it may be left unbound -/
theorem ifBoundB {name : Str} {id : String} {args : List Value} {Q : Option Value → Shared → Prop} (X : K.In s.heap) (I : PySem.W.InstAt s.heap x ox C od) (hs : PySem.W.findIn K (.ref C) name = some (some (.builtin id)))
    (hb : ∀ self, bindSpecial (.builtin id) self = pure (.builtin id, [self])) (h : wpAny (model prog w) A (call (.builtin id) (.ref x :: args)) (fun v => Q (some v)) E s) : wpAny (model prog w) A (callSpecialIfBound? (.ref x) name args) Q E s := by
  simp only [callSpecialIfBound?, bindSpecialIfBound?]
  refine wpAny_holding (wpAny_bind (wpAny_bind (wpAny_bind (I.type.here ((looks_findIn X hs).here ?_)))))
  refine wpAny_bind (wpAny_askSetting (wpAny_ite ?_))
  have fin : wpAny (model prog w) A (call (.builtin id) ([.ref x] ++ args) >>= fun v => pure (some v)) Q E s := wpAny_bind (wpAny_mono h (fun v s' h' => wpAny_pure h') fun _ _ h' => h')
  split
  · exact wpAny_bind ((Looks.of_pure (hb _)).here (wpAny_pure (by exact fin)))
  · exact wpAny_tryCatch (wpAny_bind ((Looks.of_pure (hb _)).here (wpAny_pure (by exact fin))))
open PySem.Builtin in
theorem objNe {Q : Value → Shared → Prop} (hu : A.in1.units < cLine) (X : K.In s.heap) (I : PySem.W.InstAt s.heap x ox C od) (hm : PySem.W.mroIn K C (.type "object") = some true) (hs : PySem.W.findIn K (.ref C) "__eq__" = some (some (.ref f))) (hf : PySem.W.isFn K (.ref f) = true)
    (h : wpAny (model prog w) A.in1 (call (.ref f) [.ref x, b]) (fun v s' => ∃ k, v = .bool k ∧ Q (.bool (!k)) s') E s) : wpAny (model prog w) A (call (.builtin "object.__ne__") [.ref x, b]) Q E s := by
  refine wpAny_call (codeAny_call_builtin (by decide +kernel) PySem.F.cmpEntry_ne (check_slot (i := "object.__ne__") (owner := "object") (n := "__ne__") (by decide +kernel) (by decide +kernel) (I.type.andThen (looks_mroIn X hm)) (PySem.F.cmpArgs_ne _ _) ?_))
  unfold Builtin.«object.__ne__»
  refine wpAny_bind (m := slotArgs "__ne__" 1 _) (wpAny_pure ?_)
  refine wpAny_bind (m := cRoomFor _ _) (wpAny_cRoomFor hu ?_)
  refine wpAny_bind (m := callSpecialIfBound? (.ref x) (Str.ofString "__eq__") _) (ifBound_K X I hs hf (wpAny_mono h (fun r s' hq => ?_) fun _ _ y => y))
  obtain ⟨k, rfl, hq⟩ := hq
  exact wpAny_bind (wpAny_truthy_bool (wpAny_pure hq))
/-- o != y, where the class says == alone -/
theorem ne_K {Q : Value → Shared → Prop} (hu : A.in1.units < cLine) (hu0 : A.units < cLine) (X : K.In s.heap) (I : PySem.W.InstAt s.heap x ox C od) (hb : Looks (model prog w) s.heap (typeOf b) tb) (hn : PySem.W.notFirst K C tb = true)
    (hm : PySem.W.mroIn K C (.type "object") = some true) (hne : PySem.W.findIn K (.ref C) "__ne__" = some (some (.builtin "object.__ne__"))) (hs : PySem.W.findIn K (.ref C) "__eq__" = some (some (.ref f))) (hf : PySem.W.isFn K (.ref f) = true)
    (h : wpAny (model prog w) A.in1 (call (.ref f) [.ref x, b]) (fun v s' => ∃ k, v = .bool k ∧ Q (.bool (!k)) s') E s) : wpAny (model prog w) A (richCompare .NotEq (.ref x) b) Q E s := by
  have one : wpAny (model prog w) A (tryCompare (.ref x) "__ne__" b) (fun r s' => ∃ v, r = some v ∧ Q v s') E s := by
    unfold tryCompare
    refine wpAny_bind (ifBoundB X I hne (by intro self; rfl) (objNe hu X I hm hs hf (wpAny_mono h (fun v s' hv => ?_) fun _ _ e => e)))
    obtain ⟨k, rfl, q⟩ := hv
    exact ⟨k, rfl, wpAny_pure ⟨_, rfl, q⟩⟩
  unfold richCompare
  simp only [oneThing_ref]
  refine wpAny_holding (wpAny_bind (wpAny_cRoomFor hu0 ?_))
  refine wpAny_bind (I.type.here (wpAny_bind (hb.here ?_)))
  split
  · rename_i q
    have e : PySem.W.subIn K tb (.ref C) = some false := by
      rcases Bool.or_eq_true_iff.mp hn with e | e
      · rw [beq_iff_eq.mp e] at q; simp at q
      · exact beq_iff_eq.mp e
    refine wpAny_bind ((looks_subIn X e).here ?_)
    simp only [Bool.false_eq_true, if_false]
    refine wpAny_bind (wpAny_mono one (fun r s' z => ?_) fun _ _ e => e)
    obtain ⟨v, rfl, hq⟩ := z
    exact wpAny_pure hq
  · refine wpAny_bind (wpAny_pure ?_)
    simp only [Bool.false_eq_true, if_false]
    refine wpAny_bind (wpAny_mono one (fun r s' z => ?_) fun _ _ e => e)
    obtain ⟨v, rfl, hq⟩ := z
    exact wpAny_pure hq
end
section
variable {X : Cx} {CX : CXT} {C g : Addr} {n : Nat} {fd : FuncData} {ps : List Str} {sp : Sp} {E : XK}
def QNot (Q : VK) : VK := fun z H' => ∃ k : Bool, z = .bl k ∧ Q (.bl (!k)) H'
theorem op_neY (hs : PySem.W.findIn X.K (.ref C) "__eq__" = some (some (.ref g))) (hf : PySem.W.isFn X.K (.ref g) = true) (hm : PySem.W.mroIn X.K C (.type "object") = some true) (hne : PySem.W.findIn X.K (.ref C) "__ne__" = some (some (.builtin "object.__ne__")))
    (F : FnOk X.prog X.w X.K X.mg X.base CX n g fd ps sp) (hb : L2.Binds X.K fd ps []) (hr : Room (n + 1) X.A) (hx : Passes CX X E) : OpR X (compareOp .NotEq) (rOwnY X.K C sp E QNot) := by
  intro pins s σ H x y v u Q I rx ry h
  obtain ⟨a, dx, fs, t, rfl, ha, ty, hn, q⟩ := h
  cases (show v = Value.ref a from rx)
  obtain ⟨od, J⟩ := inst_of I ha
  obtain ⟨P, Z, p, _⟩ := kit_of I ry ty
  show wpAny _ _ (richCompare .NotEq _ _) _ _ _
  have hr2 : Room n X.A.in1 := hr.in1
  refine ne_K (tb := t) hr2.units0 hr.units0 I.kIn J (Z.ty _ _ I.kIn p) hn hm hne hs hf ?_
  refine wpAny_mono (run_fnA (A := X.A.in1) (us := [.ref a, u]) (vs := [.ref a, y]) F hr2 rfl hb hx I (.cons rfl (.cons ry .nil)) q) (fun w s' z => ?_) fun _ _ x => x
  obtain ⟨z', H', I', rz, k, rfl, qz⟩ := z
  cases (show w = Value.bool k from rz)
  exact ⟨k, rfl, .bl (!k), H', I', rfl, qz⟩
end
/-! ### == with the object at the right: the left one's kind declines, the object's own is asked -/
section
variable {prog : Program} {w : World} {A : Around} {E : Value → Shared → Prop} {s : Shared} {K : PySem.W.Frag} {x C f : Addr} {dx : Addr} {od : Option Obj}
open PySem.Builtin
theorem int_decl (b : Int) (u : Tok) : Meets (Builtin.«int.__eq__» ⟨[.int b u, .ref x], []⟩) (fun _ R s => s.heap.get? x = some (instObj C dx) ∧ R (.ok (.ret .notImplemented)) s) :=
  .of_wp fun prog w A R s h => by obtain ⟨hp, g, d, tk, os⟩ := s; obtain ⟨hl, h⟩ := h; wp_walk using AutoSeq1.wpAny_loadPart' hl, wpAny_load hl; exact ⟨_, rfl, h⟩
theorem str_decl (b : Str) (u : Tok) : Meets (Builtin.«str.__eq__» ⟨[.str b u, .ref x], []⟩) (fun _ R s => s.heap.get? x = some (instObj C dx) ∧ R (.ok (.ret .notImplemented)) s) :=
  .of_wp fun prog w A R s h => by obtain ⟨hp, g, d, tk, os⟩ := s; obtain ⟨hl, h⟩ := h; wp_walk using AutoSeq1.wpAny_loadPart' hl, wpAny_load hl; exact ⟨_, rfl, h⟩
theorem none_decl : Meets (Builtin.«NoneType.__eq__» ⟨[.none, .ref x], []⟩) (fun _ R s => s.heap.get? x = some (instObj C dx) ∧ R (.ok (.ret .notImplemented)) s) :=
  .of_wp fun prog w A R s h => by obtain ⟨hp, g, d, tk, os⟩ := s; obtain ⟨hl, h⟩ := h; wp_walk; exact ⟨_, rfl, h⟩
theorem list_decl {l : Addr} {Q : Fin → Shared → Prop} (hi : Looks (model prog w) s.heap (isInstance (.ref x) (.type "list")) false) (h : Q (.done (.ret .notImplemented)) s) :
    wpAny (model prog w) A (Builtin.«list.__eq__» ⟨[.ref l, .ref x], []⟩) Q E s := by
  refine wpAny_bind (m := slotArgs "__eq__" 1 _) (wpAny_pure ?_)
  refine wpAny_bind (hi.here ?_)
  exact wpAny_pure h
theorem tuple_decl {l : Addr} {Q : Fin → Shared → Prop} (hi : Looks (model prog w) s.heap (isInstance (.ref x) (.type "tuple")) false) (h : Q (.done (.ret .notImplemented)) s) :
    wpAny (model prog w) A (Builtin.«tuple.__eq__» ⟨[.ref l, .ref x], []⟩) Q E s := by
  refine wpAny_bind (m := slotArgs "__eq__" 1 _) (wpAny_pure ?_)
  refine wpAny_bind (hi.here ?_)
  exact wpAny_pure h
/-- the left one declines -/
def Declines (prog : Program) (w : World) (A : Around) (E : Value → Shared → Prop) (a b : Value) (s : Shared) : Prop :=
  ∀ Q : Option Value → Shared → Prop, Q none s → wpAny (model prog w) A (tryCompare a "__eq__" b) Q E s
theorem decl_of {T id : String} {B : Builtin} {a b : Value} (hT : s.TypeIs a T) (slot : Slot T (cmpInfo .Eq).2.1 id) (entry : entryFor table id = some B) (args : argsOk id ⟨[a, b], []⟩)
    (h : ∀ Q : Fin → Shared → Prop, Q (.done (.ret .notImplemented)) s → wpAny (model prog w) A.in1 (B ⟨[a, b], []⟩) Q E s) : Declines prog w A E a b s := fun Q q =>
  wpAny_tryCompare_declines hT slot (GQ.call_here slot hT entry args (h _ ⟨rfl, q⟩))
theorem decl_ofM {T id : String} {B : Builtin} {a b : Value} {P : Shared → Prop} (hT : s.TypeIs a T) (slot : Slot T (cmpInfo .Eq).2.1 id) (entry : entryFor table id = some B) (args : argsOk id ⟨[a, b], []⟩)
    (m : Meets (B ⟨[a, b], []⟩) (fun _ R s => P s ∧ R (.ok (.ret .notImplemented)) s)) (hP : P s) : Declines prog w A E a b s := fun Q q =>
  wpAny_tryCompare_declines hT slot (GQ.call_here slot hT entry args (m prog w A (wants (fun v s' => v = .notImplemented ∧ Q none s') E) s ⟨hP, rfl, q⟩))
theorem refl_K {a ta : Value} {T : String} {Q : Value → Shared → Prop} (hu : A.units < cLine) (X : K.In s.heap) (I : PySem.W.InstAt s.heap x (instObj C dx) C od) (hT : s.TypeIs a T) (hsub : PySem.W.subIn K (.ref C) (.type T) = some false)
    (d : Declines prog w A E a (.ref x) s) (hs : PySem.W.findIn K (.ref C) "__eq__" = some (some (.ref f))) (hf : PySem.W.isFn K (.ref f) = true)
    (h : wpAny (model prog w) A (call (.ref f) [.ref x, a]) (PySem.W.CmpBack Q) E s) : wpAny (model prog w) A (richCompare .Eq a (.ref x)) Q E s := by
  have one : wpAny (model prog w) A (tryCompare (.ref x) "__eq__" a) (fun r s' => ∃ v, r = some v ∧ Q v s') E s := by
    unfold tryCompare
    refine wpAny_bind (ifBound_K X I hs hf (wpAny_mono h (fun v s' hv => ?_) fun _ _ e => e))
    cases v <;> first | exact hv.elim | exact wpAny_pure ⟨_, rfl, hv⟩
  simp only [richCompare, cmpInfo, hT.oneThing_none]
  try with_reducible refine wpAny_holding ?_
  refine wpAny_bind (wpAny_cRoomFor hu ?_)
  refine wpAny_bind (wpAny_typeOf hT (wpAny_bind (I.type.here ?_)))
  rw [show (Value.type T != Value.ref C) = true from rfl]
  simp only [if_true]
  refine wpAny_bind ((looks_subIn X hsub).here ?_)
  simp only [Bool.false_eq_true, if_false, Bool.not_false, if_true]
  refine wpAny_bind (m := tryCompare a _ _) (d _ ?_)
  refine wpAny_bind (m := tryCompare (.ref x) _ _) (wpAny_mono one (fun r s' z => ?_) fun _ _ e => e)
  obtain ⟨v, rfl, hq⟩ := z
  exact wpAny_pure hq
end
section
variable {prog : Program} {w : World} {A : Around} {E : Value → Shared → Prop} {s : Shared} {x : Addr}
open PySem.Builtin
theorem dict_decl {l : Addr} {Q : Fin → Shared → Prop} (hi : Looks (model prog w) s.heap (isInstance (.ref x) (.type "dict")) false) (h : Q (.done (.ret .notImplemented)) s) :
    wpAny (model prog w) A (Builtin.«dict.__eq__» ⟨[.ref l, .ref x], []⟩) Q E s := by
  refine wpAny_bind (m := Dict.dictSlotArgs "__eq__" _) (wpAny_pure ?_)
  refine wpAny_bind (hi.here ?_)
  exact wpAny_bind (wpAny_rule (wpAny_pure h))
end
section
variable {X : Cx} {CX : CXT} {C g : Addr} {n : Nat} {fd : FuncData} {ps : List Str} {sp : Sp} {E : XK}
/-- what may stand at the left of such an object -/
inductive LeftOk (H : Hp) : V → Prop where
  | non : LeftOk H .non
  | int (i : Int) : LeftOk H (.int i)
  | str (z : Str) : LeftOk H (.str z)
  | lst {p : Addr} {xs : List V} (h : H p = some (.lst xs)) : LeftOk H (.ref p)
  | tup {p : Addr} {xs : List V} (h : H p = some (.tup xs)) : LeftOk H (.ref p)
  | dK {p : Addr} {kvs : List (Key × V)} (h : H p = some (.dK kvs)) : LeftOk H (.ref p)
/-- the class is under none of Python's -/
structure NotSub (K : PySem.W.Frag) (C : Addr) : Prop where
  non : PySem.W.subIn K (.ref C) (.type "NoneType") = some false
  int : PySem.W.subIn K (.ref C) (.type "int") = some false
  str : PySem.W.subIn K (.ref C) (.type "str") = some false
  lst : PySem.W.subIn K (.ref C) (.type "list") = some false
  tup : PySem.W.subIn K (.ref C) (.type "tuple") = some false
  dct : PySem.W.subIn K (.ref C) (.type "dict") = some false
def rOwnR (C : Addr) (sp : Sp) (E : XK) : R2 := fun x y H Q => ∃ a dx fs, y = .ref a ∧ H a = some (.ins C dx fs) ∧ LeftOk H x ∧ sp [y, x] H Q E
theorem op_eqR (hs : PySem.W.findIn X.K (.ref C) "__eq__" = some (some (.ref g))) (hf : PySem.W.isFn X.K (.ref g) = true) (N : NotSub X.K C) (G : FnOk X.prog X.w X.K X.mg X.base CX n g fd ps sp) (hb : L2.Binds X.K fd ps [])
    (hr : Room n X.A) (hx : Passes CX X E) : OpR X (compareOp .Eq) (rOwnR C sp E) := by
  intro pins s σ H x y v u Q I rx ry h
  obtain ⟨a, dx, fs, rfl, ha, lo, q⟩ := h
  cases (show u = Value.ref a from ry)
  obtain ⟨od, J⟩ := inst_of I ha
  have hx0 : s.heap.get? a = some (instObj C dx) := J.at_
  show wpAny _ _ (richCompare .Eq _ _) _ _ _
  have fin : wpAny (model X.prog X.w) X.A (call (.ref g) [.ref a, v]) (PySem.W.CmpBack (EP X pins σ Q)) X.xe s :=
    wpAny_mono (run_fnA (A := X.A) (us := [.ref a, v]) (vs := [.ref a, x]) G hr rfl hb hx I (.cons rfl (.cons rx .nil)) q) (fun w s' z => by obtain ⟨z', H', I', rz, qz⟩ := z; exact SlX.cmpback rz ⟨z', H', I', rz, qz⟩) fun _ _ x => x
  have isI : ∀ T : String, PySem.W.subIn X.K (.ref C) (.type T) = some false → Looks (model X.prog X.w) s.heap (isInstance (.ref a) (.type T)) false := fun T e => J.type.andThen (looks_subIn I.kIn e)
  cases lo with
  | non =>
    cases (show v = Value.none from rx)
    exact refl_K (T := "NoneType") (ta := .none) hr.units0 I.kIn J rfl N.non (decl_ofM rfl F.slot_NoneType_eq F.entry_NoneType_eq (F.args_NoneType_eq_2 _ _) none_decl hx0) hs hf fin
  | int i =>
    obtain ⟨t, rfl⟩ := (show ∃ t, v = Value.int i t from rx)
    exact refl_K (T := "int") (ta := .none) hr.units0 I.kIn J (typeIs_int _ _ _) N.int (decl_ofM (typeIs_int _ _ _) F.slot_int_eq F.entry_int_eq (F.args_int_eq_2 _ _) (int_decl _ _) hx0) hs hf fin
  | str z =>
    obtain ⟨t, rfl⟩ := (show ∃ t, v = Value.str z t from rx)
    exact refl_K (T := "str") (ta := .none) hr.units0 I.kIn J (typeIs_str _ _ _) N.str (decl_ofM (typeIs_str _ _ _) F.slot_str_eq F.entry_str_eq (F.args_str_eq_2 _ _) (str_decl _ _) hx0) hs hf fin
  | @lst p xs h =>
    cases (show v = Value.ref p from rx)
    obtain ⟨_, its, k, _, hp⟩ := (show ObjOk X.prog X.w H s.heap p (.lst xs) from I.hok p _ h)
    have hT : s.TypeIs (.ref p) "list" := ⟨_, hp, rfl⟩
    exact refl_K (T := "list") (ta := .none) hr.units0 I.kIn J hT N.lst (decl_of hT F.slot_list_eq F.entry_list_eq (F.args_list_eq_2 _ _) fun Q' q' => list_decl (isI _ N.lst) q') hs hf fin
  | @tup p xs h =>
    cases (show v = Value.ref p from rx)
    obtain ⟨_, its, _, o, h1, h2, _⟩ := (show ObjOk X.prog X.w H s.heap p (.tup xs) from I.hok p _ h)
    have hT : s.TypeIs (.ref p) "tuple" := ⟨_, h1, h2⟩
    exact refl_K (T := "tuple") (ta := .none) hr.units0 I.kIn J hT N.tup (decl_of hT F.slot_tuple_eq F.entry_tuple_eq (F.args_tuple_eq_2 _ _) fun Q' q' => tuple_decl (isI _ N.tup) q') hs hf fin
  | @dK p kvs h =>
    cases (show v = Value.ref p from rx)
    obtain ⟨_, _, vs, _, o, es, ep, h1, h2, _⟩ := (show ObjOk X.prog X.w H s.heap p (.dK kvs) from I.hok p _ h)
    have hT : s.TypeIs (.ref p) "dict" := ⟨_, h1, h2.1⟩
    exact refl_K (T := "dict") (ta := .none) hr.units0 I.kIn J hT N.dct (decl_of hT F.slot_dict_eq F.entry_dict_eq (F.args_dict_eq_2 _ _) fun Q' q' => dict_decl (isI _ N.dct) q') hs hf fin
end
/-! ### in, count, index over a list, each == by the object's own -/
section
open SeqAt AutoSeq1 MeetsSeq MeetsSeq2 MeetsSeq3 SeqRoads2
open PySem.Builtin
variable {prog : Program} {w : World} {A : Around} {R : Result → Shared → Prop}
/-- at each turn the list is read anew, the turn's == gives bs i -/
def LoopB (prog : Program) (w : World) (A : Around) (E : Value → Shared → Prop) (l : Addr) (x : Value) (N : Nat) (bs : Nat → Bool) (I : Nat → Shared → Prop) : Prop :=
  ∀ i s, I i s → ∃ (items : Array Value) (n : Nat), s.heap.get? l = some { cls := .type "list", data := .seq items n } ∧ items.size = N ∧
    ∀ (h1 : i < items.size), wpAny (model prog w) A.in1 (eqBool items[i] x) (fun r s' => r = bs i ∧ I (i + 1) s') E s
def cntB (bs : Nat → Bool) : Nat → Nat → Int
  | 0, _ => 0
  | k + 1, i => (if bs i then 1 else 0) + cntB bs k (i + 1)
theorem count_loopG (l : Addr) (x : Value) (N : Nat) (bs : Nat → Bool) (I : Nat → Shared → Prop) (hl : LoopB prog w A (fun e s' => R (.error e) s') l x N bs I) (k : Nat) :
    ∀ (i : Nat) (found : Int), N - i = k → i ≤ N → ∀ s, I i s → (∀ s, I N s → R (.ok (.ret (.int (found + cntB bs k i) s.toks))) { s with toks := s.toks + 1 }) →
      wpAny (model prog w) A.in1 (Builtin.«list.count.loop» ⟨[.ref l, x, rawInt i, rawInt found], []⟩) (GQ.FinOf prog w A R) (fun e s' => R (.error e) s') s := by
  induction k with
  | zero =>
    intro i found hk hi s h fin
    obtain ⟨items, n, hl1, hs1, _⟩ := hl _ _ h
    have hi' : i = N := by omega
    have hR := fin s (hi' ▸ h)
    obtain ⟨hp, g, d, tk, os⟩ := s
    wp_walk using wpAny_loadPart' hl1
    have hi1 : items[((i : Nat) : Int).toNat]? = none := by simp; omega
    rw [hi1]
    wp_walk
    have e0 : found + cntB bs 0 i = found := by show found + 0 = found; omega
    rw [e0] at hR
    exact hR
  | succ k ih =>
    intro i found hk hi s h fin
    obtain ⟨items, n, hl1, hs1, turn⟩ := hl _ _ h
    have hlt : i < items.size := by omega
    have ht := turn hlt
    obtain ⟨hp, g, d, tk, os⟩ := s
    wp_walk using wpAny_loadPart' hl1
    have hi1 : items[((i : Nat) : Int).toNat]? = some items[i] := by simp [hlt]
    have hc : ((i : Int) + 1) = ((i + 1 : Nat) : Int) := by omega
    rw [hi1]
    refine wpAny_bind (wpAny_mono ht (fun r s2 h2 => ?_) fun _ _ x => x)
    obtain ⟨hr, h2⟩ := h2
    subst hr
    have e1 : (if bs i = true then found + 1 else found) + cntB bs k (i + 1) = found + cntB bs (k + 1) i := by
      show _ = found + ((if bs i then 1 else 0) + cntB bs k (i + 1))
      cases bs i <;> simp <;> omega
    have hrec := ih (i + 1) (if bs i = true then found + 1 else found) (by omega) (by omega) s2 h2 (fun s q => by rw [e1]; exact fin s q)
    obtain ⟨hp2, g2, d2, tk2, os2⟩ := s2
    wp_walk
    rw [hc]
    refine ⟨plainId_quiet plain_count_loop _, codeAny_builtin entry_count_loop (by
      rw [Around.under_plainId plain_count_loop _]

      exact hrec)⟩
end
section
open SeqAt AutoSeq1 MeetsSeq MeetsSeq2 MeetsSeq3 SeqRoads2
open PySem.Builtin
variable {prog : Program} {w : World} {A : Around} {R : Result → Shared → Prop}
theorem list_countG (l : Addr) (x : Value) (N : Nat) (bs : Nat → Bool) (I : Nat → Shared → Prop) (hl : LoopB prog w A (fun e s' => R (.error e) s') l x N bs I) {s : Shared} (h : I 0 s)
    (fin : ∀ s, I N s → R (.ok (.ret (.int (cntB bs N 0) s.toks))) { s with toks := s.toks + 1 }) :
    wpAny (model prog w) A.in1 (Builtin.«list.count» ⟨[.ref l, x], []⟩) (GQ.FinOf prog w A R) (fun e s' => R (.error e) s') s := by
  obtain ⟨items, n, hl1, hs1, _⟩ := hl _ _ h
  have hrec := count_loopG (A := A) (R := R) l x N bs I hl N 0 0 rfl (Nat.zero_le _) s h (fun s q => by rw [Int.zero_add]; exact fin s q)
  obtain ⟨hp, g, d, tk, os⟩ := s
  wp_walk using wpAny_loadPart' hl1
  exact ⟨plainId_quiet plain_count_loop _, codeAny_builtin entry_count_loop (by
    rw [Around.under_plainId plain_count_loop _]
    exact hrec)⟩
theorem index_loopG (l : Addr) (x : Value) (N : Nat) (bs : Nat → Bool) (I : Nat → Shared → Prop) (hl : LoopB prog w A (fun e s' => R (.error e) s') l x N bs I) (upto : Int) (j : Nat) (hj : j < N) (hupto : (j : Int) < upto) (hit : bs j = true)
    (fin : ∀ s, I (j + 1) s → R (.ok (.ret (.int j s.toks))) { s with toks := s.toks + 1 }) (k : Nat) :
    ∀ i : Nat, j - i = k → i ≤ j → (∀ m, i ≤ m → m < j → bs m = false) → ∀ s, I i s →
      wpAny (model prog w) A.in1 (Builtin.«list.index.loop» ⟨[.ref l, x, rawInt i, rawInt upto], []⟩) (GQ.FinOf prog w A R) (fun e s' => R (.error e) s') s := by
  induction k with
  | zero =>
    intro i hk hij hno s h
    have hij' : i = j := by omega
    subst hij'
    obtain ⟨items, n, hl1, hs1, turn⟩ := hl _ _ h
    have hlt : i < items.size := by omega
    have ht := turn hlt
    obtain ⟨hp, g, d, tk, os⟩ := s
    wp_walk using wpAny_loadPart' hl1
    have hi : (if (i : Int) < upto then items[((i : Nat) : Int).toNat]? else none) = some items[i] := by simp [hupto, hlt]
    rw [hi]
    refine wpAny_bind (wpAny_mono ht (fun r s2 h2 => ?_) fun _ _ x => x)
    obtain ⟨hr, h2⟩ := h2
    subst hr
    rw [hit]
    have hR := fin s2 h2
    obtain ⟨hp2, g2, d2, tk2, os2⟩ := s2
    wp_walk
    exact hR
  | succ k ih =>
    intro i hk hij hno s h
    obtain ⟨items, n, hl1, hs1, turn⟩ := hl _ _ h
    have hlt : i < items.size := by omega
    have hst : (i : Int) < upto := by omega
    have ht := turn hlt
    obtain ⟨hp, g, d, tk, os⟩ := s
    wp_walk using wpAny_loadPart' hl1
    have hi : (if (i : Int) < upto then items[((i : Nat) : Int).toNat]? else none) = some items[i] := by simp [hst, hlt]
    have hc : ((i : Int) + 1) = ((i + 1 : Nat) : Int) := by omega
    rw [hi]
    refine wpAny_bind (wpAny_mono ht (fun r s2 h2 => ?_) fun _ _ x => x)
    obtain ⟨hr, h2⟩ := h2
    subst hr
    rw [hno i (Nat.le_refl _) (by omega)]
    have hrec := ih (i + 1) (by omega) (by omega) (fun m h1 h2 => hno m (by omega) h2) s2 h2
    obtain ⟨hp2, g2, d2, tk2, os2⟩ := s2
    wp_walk
    rw [hc]
    exact ⟨plainId_quiet plain_index_loop _, codeAny_builtin entry_index_loop (by
      rw [Around.under_plainId plain_index_loop _]
      exact hrec)⟩
theorem list_indexG (l : Addr) (x : Value) (N : Nat) (bs : Nat → Bool) (I : Nat → Shared → Prop) (hl : LoopB prog w A (fun e s' => R (.error e) s') l x N bs I) (j : Nat) (hj : j < N) (hsmall : (j : Int) < 2 ^ 63 - 1) (hit : bs j = true) (hno : ∀ m, m < j → bs m = false)
    (fin : ∀ s, I (j + 1) s → R (.ok (.ret (.int j s.toks))) { s with toks := s.toks + 1 }) {s : Shared} (h : I 0 s) :
    wpAny (model prog w) A.in1 (Builtin.«list.index» ⟨[.ref l, x], []⟩) (GQ.FinOf prog w A R) (fun e s' => R (.error e) s') s := by
  obtain ⟨items, n, hl1, hs1, _⟩ := hl _ _ h
  have hrec := index_loopG (A := A) (R := R) l x N bs I hl (2 ^ 63 - 1) j hj hsmall hit fin j 0 (by omega) (Nat.zero_le _) (fun m _ h2 => hno m h2) s h
  obtain ⟨hp, g, d, tk, os⟩ := s
  wp_walk using wpAny_loadPart' hl1
  have a1 : ((fun i : Int => if i < 0 then max 0 (i + (items.size : Int)) else i) ((none : Option Int).getD 0)) = ((0 : Nat) : Int) := by simp
  have a2 : ((fun i : Int => if i < 0 then max 0 (i + (items.size : Int)) else i) ((none : Option Int).getD (2 ^ 63 - 1))) = 2 ^ 63 - 1 := by simp
  rw [a1, a2]
  exact ⟨plainId_quiet plain_index_loop _, codeAny_builtin entry_index_loop (by
    rw [Around.under_plainId plain_index_loop _]
    exact hrec)⟩
theorem contains_loopG (l : Addr) (x : Value) (N : Nat) (bs : Nat → Bool) (I : Nat → Shared → Prop) (hl : LoopB prog w A (fun e s' => R (.error e) s') l x N bs I) (j : Nat) (hj : j < N) (hit : bs j = true)
    (fin : ∀ s, I (j + 1) s → R (.ok (.ret (.bool true))) s) (k : Nat) :
    ∀ i : Nat, j - i = k → i ≤ j → (∀ m, i ≤ m → m < j → bs m = false) → ∀ s, I i s →
      wpAny (model prog w) A.in1 (Builtin.«list.__contains__.loop» ⟨[.ref l, x, rawInt i], []⟩) (GQ.FinOf prog w A R) (fun e s' => R (.error e) s') s := by
  induction k with
  | zero =>
    intro i hk hij hno s h
    have hij' : i = j := by omega
    subst hij'
    obtain ⟨items, n, hl1, hs1, turn⟩ := hl _ _ h
    have hlt : i < items.size := by omega
    have ht := turn hlt
    obtain ⟨hp, g, d, tk, os⟩ := s
    wp_walk using wpAny_loadPart' hl1
    have hi : items[((i : Nat) : Int).toNat]? = some items[i] := by simp [hlt]
    rw [hi]
    refine wpAny_bind (wpAny_mono ht (fun r s2 h2 => ?_) fun _ _ x => x)
    obtain ⟨hr, h2⟩ := h2
    subst hr
    rw [hit]
    have hR := fin s2 h2
    obtain ⟨hp2, g2, d2, tk2, os2⟩ := s2
    wp_walk
    exact hR
  | succ k ih =>
    intro i hk hij hno s h
    obtain ⟨items, n, hl1, hs1, turn⟩ := hl _ _ h
    have hlt : i < items.size := by omega
    have ht := turn hlt
    obtain ⟨hp, g, d, tk, os⟩ := s
    wp_walk using wpAny_loadPart' hl1
    have hi : items[((i : Nat) : Int).toNat]? = some items[i] := by simp [hlt]
    have hc : ((i : Int) + 1) = ((i + 1 : Nat) : Int) := by omega
    rw [hi]
    refine wpAny_bind (wpAny_mono ht (fun r s2 h2 => ?_) fun _ _ x => x)
    obtain ⟨hr, h2⟩ := h2
    subst hr
    rw [hno i (Nat.le_refl _) (by omega)]
    have hrec := ih (i + 1) (by omega) (by omega) (fun m h1 h2 => hno m (by omega) h2) s2 h2
    obtain ⟨hp2, g2, d2, tk2, os2⟩ := s2
    wp_walk
    rw [hc]
    exact ⟨plainId_quiet plain_contains_loop _, codeAny_builtin entry_contains_loop (by
      rw [Around.under_plainId plain_contains_loop _]
      exact hrec)⟩
theorem list_containsG (l : Addr) (x : Value) (N : Nat) (bs : Nat → Bool) (I : Nat → Shared → Prop) (hl : LoopB prog w A (fun e s' => R (.error e) s') l x N bs I) (j : Nat) (hj : j < N) (hit : bs j = true) (hno : ∀ m, m < j → bs m = false)
    (fin : ∀ s, I (j + 1) s → R (.ok (.ret (.bool true))) s) {s : Shared} (h : I 0 s) :
    wpAny (model prog w) A.in1 (Builtin.«list.__contains__» ⟨[.ref l, x], []⟩) (GQ.FinOf prog w A R) (fun e s' => R (.error e) s') s := by
  obtain ⟨items, n, hl1, hs1, _⟩ := hl _ _ h
  have hrec := contains_loopG (A := A) (R := R) l x N bs I hl j hj hit fin j 0 (by omega) (Nat.zero_le _) (fun m _ h2 => hno m h2) s h
  obtain ⟨hp, g, d, tk, os⟩ := s
  wp_walk using wpAny_loadPart' hl1
  exact ⟨plainId_quiet plain_contains_loop _, codeAny_builtin entry_contains_loop (by
    rw [Around.under_plainId plain_contains_loop _]
    exact hrec)⟩
end
section
open SeqAt
variable {X : Cx} {CX : CXT} {C g : Addr} {n : Nat} {fd : FuncData} {ps : List Str} {sp : Sp} {E : XK}
/-- what an own == tells: (x, y) are known, the answer is b, only new objects come -/
def EqB (X : Cx) (n : Nat) (D : V → V → Hp → Bool → Prop) : Prop :=
  ∀ (A : Around) (pins : List (Addr × Obj)) (s : Shared) (σ : L2.St) (H : Hp) (x y : V) (u v : Value) (b : Bool), L2.Sub X n A → L2.Inv X pins σ H s → RelV x u → RelV y v → D x y H b →
    wpAny (model X.prog X.w) A (eqBool u v) (fun r s' => r = b ∧ ∃ H', L2.Inv X pins σ H' s' ∧ Same H H') X.xe s
/-- the promise of such an __eq__ -/
def spEqB (D : V → V → Hp → Bool → Prop) : Sp := fun vs H Q _ => ∃ (x y : V) (b : Bool), vs = [x, y] ∧ D x y H b ∧ ∀ H', Same H H' → Q (.bl b) H'
/-- both are objects of the class; of one and itself the answer is True -/
structure DOk (C : Addr) (D : V → V → Hp → Bool → Prop) : Prop where
  ins : ∀ x y H b, D x y H b → ∃ a dx fs a' dx' fs', x = .ref a ∧ H a = some (.ins C dx fs) ∧ y = .ref a' ∧ H a' = some (.ins C dx' fs')
  self : ∀ x H b, D x x H b → b = true
  mono : ∀ x y H H' b, Same H H' → D x y H b → D x y H' b
theorem eqB_ins {D : V → V → Hp → Bool → Prop} (O : DOk C D) (hs : PySem.W.findIn X.K (.ref C) "__eq__" = some (some (.ref g))) (hf : PySem.W.isFn X.K (.ref g) = true) (hn : PySem.W.notFirst X.K C (.ref C) = true)
    (F : FnOk X.prog X.w X.K X.mg X.base CX n g fd ps (spEqB D)) (hb : L2.Binds X.K fd ps []) (hx : Passes CX X E0) : EqB X n D := by
  intro A pins s σ H x y u v b sb I rx ry d
  obtain ⟨a, dx, fs, a', dx', fs', rfl, ha, rfl, ha'⟩ := O.ins x y H b d
  cases (show u = Value.ref a from rx)
  cases (show v = Value.ref a' from ry)
  by_cases e : a = a'
  · subst e
    have e2 := O.self _ _ _ d
    subst e2
    unfold eqBool
    refine wpAny_holding ?_
    simp only [beq_self_eq_true, if_true]
    refine wpAny_bind (wpAny_rule (wpAny_pure ?_))
    exact ⟨rfl, H, I, fun _ _ e => e⟩
  · obtain ⟨od, J⟩ := inst_of I ha
    obtain ⟨od', J'⟩ := inst_of I ha'
    obtain ⟨m, hF⟩ := I.fr
    refine GQ.eqBool_refG e (PySem.W.cmp_K (op := .Eq) (tb := .ref C) sb.room.units0 hF I.ok.mod.kin J J'.type hn hs hf ?_)
    refine wpAny_mono (run_fnA (A := A) (us := [.ref a, .ref a']) (vs := [.ref a, .ref a']) (Q := fun z H' => z = .bl b ∧ Same H H') F sb.room sb.fr hb hx I (.cons rfl (.cons rfl .nil)) ⟨_, _, b, rfl, d, fun H' k => ⟨rfl, k⟩⟩) (fun w s' z => ?_) fun _ _ x => x
    obtain ⟨z', H', I', rz, rfl, k⟩ := z
    cases (show w = Value.bool b from rz)
    exact ⟨b, rfl, rfl, H', I', k⟩
theorem loopB_of {D : V → V → Hp → Bool → Prop} (O : DOk C D) (e : EqB X n D) {A : Around} (sb : L2.Sub X (n + 1) A) {pins : List (Addr × Obj)} {σ : L2.St} {H : Hp} {l : Addr} {xs : List V} {x : V} {u : Value} {bs : Nat → Bool} (hl : H l = some (.lst xs)) (ru : RelV x u)
    (hd : ∀ i y, xs[i]? = some y → D y x H (bs i)) : LoopB X.prog X.w A X.xe l u xs.length bs (fun _ s' => ∃ H', L2.Inv X pins σ H' s' ∧ Same H H') := by
  rintro i s ⟨H', I, k⟩
  obtain ⟨_, its, m, r, hp⟩ := (show ObjOk X.prog X.w H' s.heap l (.lst xs) from I.hok l _ (k _ _ hl))
  refine ⟨its.toArray, m, hp, by simpa using r.length.symm, fun h1 => ?_⟩
  have h1' : i < its.length := by simpa using h1
  have hix : i < xs.length := by rw [r.length]; exact h1'
  obtain ⟨v, hv, rv⟩ := r.get (List.getElem?_eq_getElem hix)
  have ev : its.toArray[i] = v := by
    rw [List.getElem?_eq_getElem h1'] at hv
    simpa using hv
  rw [ev]
  refine wpAny_mono (e A.in1 pins s σ H' _ _ _ _ (bs i) sb.in1 I rv ru (O.mono _ _ _ _ _ k (hd i _ (List.getElem?_eq_getElem hix)))) (fun r s' z => ?_) fun _ _ x => x
  obtain ⟨hr, H2, I2, k2⟩ := z
  exact ⟨hr, H2, I2, k.trans k2⟩
theorem sub_here (hr : Room n X.A) : L2.Sub X n X.A := ⟨hr, rfl⟩
def rCntB (D : V → V → Hp → Bool → Prop) : V → List V → Hp → VK → Prop := fun x xs H Q => ∃ (l : Addr) (ys : List V) (y : V) (bs : Nat → Bool), x = .ref l ∧ xs = [y] ∧ H l = some (.lst ys) ∧ (∀ i z, ys[i]? = some z → D z y H (bs i)) ∧ ∀ H', Same H H' → Q (.int (cntB bs ys.length 0)) H'
theorem mt_countB {D : V → V → Hp → Bool → Prop} (O : DOk C D) (e : EqB X n D) (hr : Room (n + 1) X.A) : MtR X "list.count" (rCntB D) := by
  intro pins s σ H x xs v us Q I rx rxs h
  obtain ⟨l, ys, y, bs, rfl, rfl, hl, hd, q⟩ := h
  cases (show v = Value.ref l from rx)
  obtain ⟨u, rfl, ru⟩ := rxs.one
  obtain ⟨_, its, m, _, hp⟩ := (show ObjOk X.prog X.w H s.heap l (.lst ys) from I.hok l _ hl)
  refine GQ.call_here F.slot_list_count ⟨_, hp, rfl⟩ F.entry_list_count (F.args_list_count_2 _ _) ?_
  refine list_countG l u ys.length bs (fun _ s' => ∃ H', L2.Inv X pins σ H' s' ∧ Same H H') (loopB_of O e (sub_here hr) (pins := pins) (σ := σ) hl ru hd) ⟨H, I, fun _ _ e => e⟩ fun s' z => ?_
  obtain ⟨H', I', k⟩ := z
  exact ⟨.int _, H', I'.tok _, ⟨_, rfl⟩, q H' k⟩
def rIdxB (D : V → V → Hp → Bool → Prop) : V → List V → Hp → VK → Prop := fun x xs H Q => ∃ (l : Addr) (ys : List V) (y : V) (bs : Nat → Bool) (j : Nat), x = .ref l ∧ xs = [y] ∧ H l = some (.lst ys) ∧ (∀ i z, ys[i]? = some z → D z y H (bs i)) ∧ j < ys.length ∧ j < 1000000 ∧ bs j = true ∧ (∀ m, m < j → bs m = false) ∧ ∀ H', Same H H' → Q (.int (j : Nat)) H'
theorem mt_indexB {D : V → V → Hp → Bool → Prop} (O : DOk C D) (e : EqB X n D) (hr : Room (n + 1) X.A) : MtR X "list.index" (rIdxB D) := by
  intro pins s σ H x xs v us Q I rx rxs h
  obtain ⟨l, ys, y, bs, j, rfl, rfl, hl, hd, hj, hj2, hit, hno, q⟩ := h
  cases (show v = Value.ref l from rx)
  obtain ⟨u, rfl, ru⟩ := rxs.one
  obtain ⟨_, its, m, _, hp⟩ := (show ObjOk X.prog X.w H s.heap l (.lst ys) from I.hok l _ hl)
  refine GQ.call_here F.slot_list_index ⟨_, hp, rfl⟩ F.entry_list_index (F.args_list_index_2 _ _) ?_
  refine list_indexG l u ys.length bs (fun _ s' => ∃ H', L2.Inv X pins σ H' s' ∧ Same H H') (loopB_of O e (sub_here hr) (pins := pins) (σ := σ) hl ru hd) j hj (by omega) hit hno (fun s' z => ?_) ⟨H, I, fun _ _ e => e⟩
  obtain ⟨H', I', k⟩ := z
  exact ⟨.int _, H', I'.tok _, ⟨_, rfl⟩, q H' k⟩
def rInB (D : V → V → Hp → Bool → Prop) : R2 := fun y x H Q => ∃ (l : Addr) (ys : List V) (bs : Nat → Bool) (j : Nat), x = .ref l ∧ H l = some (.lst ys) ∧ (∀ i z, ys[i]? = some z → D z y H (bs i)) ∧ j < ys.length ∧ bs j = true ∧ (∀ m, m < j → bs m = false) ∧ ∀ H', Same H H' → Q (.bl true) H'
/-- y in xs, where it is -/
theorem op_inB {D : V → V → Hp → Bool → Prop} (O : DOk C D) (e : EqB X n D) (hr : Room (n + 1) X.A) : OpR X (compareOp .In) (rInB D) := by
  intro pins s σ H y x u v Q I ru rx h
  obtain ⟨l, ys, bs, j, rfl, hl, hd, hj, hit, hno, q⟩ := h
  cases (show v = Value.ref l from rx)
  obtain ⟨_, its, m, _, hp⟩ := (show ObjOk X.prog X.w H s.heap l (.lst ys) from I.hok l _ hl)
  show wpAny _ X.A (do return Value.bool (← PySem.contains (.ref l) u)) _ _ s
  have hT : s.TypeIs (.ref l) "list" := ⟨_, hp, rfl⟩
  refine wpAny_bind (wpAny_contains_slot hT F.slot_list_contains (wpAny_mono (GQ.call_here (Q := fun v s' => v = .bool true ∧ ∃ H', L2.Inv X pins σ H' s' ∧ Same H H') (E := X.xe) F.slot_list_contains hT F.entry_list_contains (F.args_list_contains_2 _ _)
    (list_containsG l u ys.length bs (fun _ s' => ∃ H', L2.Inv X pins σ H' s' ∧ Same H H') (loopB_of O e (sub_here hr) (pins := pins) (σ := σ) hl ru hd) j hj hit hno (fun s' z => ⟨rfl, z⟩) ⟨H, I, fun _ _ e => e⟩)) (fun v s' hv => ?_) fun _ _ e => e))
  obtain ⟨rfl, H', I', k⟩ := hv
  exact wpAny_truthy_bool (wpAny_pure ⟨.bl true, H', I', rfl, q H' k⟩)
end
/-! ### objects of an own class: len and truth by an own __len__; the length of a range -/
section
variable {prog : Program} {w : World} {A : Around} {E : Value → Shared → Prop} {s : Shared} {K : PySem.W.Frag} {x C f : Addr} {ox : Obj} {od : Option Obj}
theorem len_bodyK {Q : Value → Shared → Prop} (X : K.In s.heap) (I : PySem.W.InstAt s.heap x ox C od) (hs : PySem.W.findIn K (.ref C) "__len__" = some (some (.ref f))) (hf : PySem.W.isFn K (.ref f) = true)
    (h : wpAny (model prog w) A (call (.ref f) [.ref x]) (PySem.W.LenBack Q) E s) : wpAny (model prog w) A (Builtin.«len» ⟨[.ref x], []⟩) (fun fin s' => ∃ v, fin = .done (.ret v) ∧ Q v s') E s := by
  unfold Builtin.«len»
  refine wpAny_bind (m := oneArg "len" _) (wpAny_pure ?_)
  refine wpAny_bind (m := callSpecial? (.ref x) (Str.ofString "__len__")) (PySem.W.special_fn X I hs (beq_iff_eq.mp hf) (wpAny_mono h ?_ fun _ _ y => y))
  intro r s' hr
  match r, hr with
  | .int n u, ⟨⟨h0, h1⟩, hq⟩ =>
    refine wpAny_bind (wpAny_holding (wpAny_pure ?_))
    refine wpAny_bind (wpAny_letGo ?_)
    show wpAny _ _ (if n < 0 then _ else _) _ _ _
    rw [if_neg (by omega)]
    show wpAny _ _ (if n ≥ 2 ^ 63 then _ else _) _ _ _
    rw [if_neg (by omega)]
    exact wpAny_bind (wpAny_mkInt (wpAny_pure ⟨_, rfl, hq⟩))
theorem truthy_len {Q : Bool → Shared → Prop} (X : K.In s.heap) (I : PySem.W.InstAt s.heap x ox C od) (hb : PySem.W.findIn K (.ref C) "__bool__" = some none) (hs : PySem.W.findIn K (.ref C) "__len__" = some (some (.ref f))) (hf : PySem.W.isFn K (.ref f) = true)
    (h : wpAny (model prog w) A.in1 (call (.ref f) [.ref x]) (PySem.W.LenBack fun v s' => ∃ n t, v = .int n t ∧ Q (n != 0) s') E s) : wpAny (model prog w) A (truthy (.ref x)) Q E s := by
  unfold truthy
  refine wpAny_bind (m := callSpecial? (.ref x) (Str.ofString "__bool__")) (wpAny_bind (wpAny_bind (I.type.here ((PySem.W.looks_findIn X hb).here (wpAny_pure ?_)))))
  refine wpAny_bind (wpAny_bind (I.type.here ((PySem.W.looks_findIn X hs).here ?_)))
  show wpAny _ _ (runValue (.builtin "len" ⟨[.ref x], []⟩) >>= _) _ _ _
  refine wpAny_bind (wpAny_runValue (codeAny_builtin PySem.entry_len ?_))
  rw [Around.under_plainId PySem.plain_len _]
  refine wpAny_mono (len_bodyK X I hs hf h) ?_ (fun _ _ y => y)
  rintro fin s' ⟨v, rfl, n, t, rfl, q⟩
  exact wpAny_pure q
theorem bool_own {Q : Value → Shared → Prop} (h : wpAny (model prog w) A.in1.in1 (truthy (.ref x)) (fun b s' => Q (.bool b) s') E s) : wpAny (model prog w) A (call (.type "bool") [.ref x]) Q E s := by
  have g : MeetsIn prog w (Builtin.«bool.__new__» ⟨[.type "bool", .ref x], []⟩) (fun A R s => wpAny (model prog w) A.in1 (truthy (.ref x)) (fun b s' => R (.ok (.ret (.bool b))) s') (fun e s' => R (.error e) s') s) := by
    intro A R s hs
    obtain ⟨hp, g, d, tk, os⟩ := s
    have f1 := F.conv_sub_bool
    have hs2 : wpAny (model prog w) A.in1 (truthy (.ref x)) (fun b s' => wpAny (model prog w) A.in1 (ret (.bool b) : Sem Fin) (fun fin s' => match fin with | .done f => R (.ok f) s' | .again c' => c'.quiet = true ∧ codeAny (model prog w) A c' R s') (fun e s' => R (.error e) s') s') (fun e s' => R (.error e) s') ⟨hp, g, d, tk, os⟩ :=
      wpAny_mono hs (fun b s' z => wpAny_pure z) fun _ _ z => z
    repeat (any_goals (first | assumption | exact hs2 | wp_step))
  exact callType_newIn F.called_bool F.newNe_bool (F.typeCall_bool_1 _) (F.newCall_bool_1 _) (fun obj => F.args_object_init_2 obj _) F.entry_bool_new g (wpAny_mono h (fun b s' z => ⟨rfl, z⟩) fun _ _ z => z)
end
section
variable {X : Cx} {CX : CXT} {C g : Addr} {n : Nat} {fd : FuncData} {ps : List Str} {sp : Sp} {E : XK}
def QLen (Q : VK) : VK := fun z H' => ∃ m : Int, z = .int m ∧ 0 ≤ m ∧ m < 2 ^ 62 ∧ Q (.int m) H'
def QTru (Q : VK) : VK := fun z H' => ∃ m : Int, z = .int m ∧ 0 ≤ m ∧ m < 2 ^ 62 ∧ Q (.bl (m != 0)) H'
/-- len(o), by o's own __len__ -/
theorem call_lenOwn (hs : PySem.W.findIn X.K (.ref C) "__len__" = some (some (.ref g))) (hf : PySem.W.isFn X.K (.ref g) = true) (F : FnOk X.prog X.w X.K X.mg X.base CX n g fd ps sp) (hb : L2.Binds X.K fd ps [])
    (hr : Room (n + 1) X.A) (hx : Passes CX X E) : CallR X (.builtin "len") (rOwn1 C sp E QLen) := by
  intro pins s σ H vs us Q I r h
  obtain ⟨a, dx, fs, rfl, ha, q⟩ := h
  obtain ⟨u, rfl, ru⟩ := Vals.one r
  cases (show u = Value.ref a from ru)
  obtain ⟨od, J⟩ := inst_of I ha
  obtain ⟨m, hF⟩ := I.fr
  refine PySem.W.len_K hF I.ok.mod.kin J hs hf ?_
  refine wpAny_mono (run_fnA (A := X.A.in1) (us := [.ref a]) (vs := [.ref a]) F hr.in1 rfl hb hx I (.cons rfl .nil) q) ?_ (fun _ _ x => x)
  rintro v s' ⟨z, H', I', rz, m, rfl, m0, m1, q'⟩
  obtain ⟨t, rfl⟩ := (show ∃ t, v = Value.int m t from rz)
  exact ⟨⟨m0, Int.lt_trans m1 (by decide)⟩, .int m, H', I'.tok _, ⟨_, rfl⟩, q'⟩
theorem truthyOwn (hbl : PySem.W.findIn X.K (.ref C) "__bool__" = some none) (hs : PySem.W.findIn X.K (.ref C) "__len__" = some (some (.ref g))) (hf : PySem.W.isFn X.K (.ref g) = true) (F : FnOk X.prog X.w X.K X.mg X.base CX n g fd ps sp) (hb : L2.Binds X.K fd ps [])
    {A : Around} (hr : Room (n + 1) A) (hA : A.frames = X.A.frames) (hx : Passes CX X E) {pins : List (Addr × Obj)} {σ : L2.St} {H : Hp} {s : Shared} {a dx : Addr} {fs : List (Str × V)} {Q : VK} (I : L2.Inv X pins σ H s) (ha : H a = some (.ins C dx fs))
    (q : sp [.ref a] H (QTru Q) E) : wpAny (model X.prog X.w) A (truthy (.ref a)) (fun b s' => ∃ H', L2.Inv X pins σ H' s' ∧ Q (.bl b) H') X.xe s := by
  obtain ⟨od, J⟩ := inst_of I ha
  refine truthy_len I.kIn J hbl hs hf ?_
  refine wpAny_mono (run_fnA (A := A.in1) (us := [.ref a]) (vs := [.ref a]) F hr.in1 hA hb hx I (.cons rfl .nil) q) ?_ (fun _ _ x => x)
  rintro v s' ⟨z, H', I', rz, m, rfl, m0, m1, q'⟩
  obtain ⟨t, rfl⟩ := (show ∃ t, v = Value.int m t from rz)
  exact ⟨⟨m0, Int.lt_trans m1 (by decide)⟩, m, _, rfl, H', I'.tok _, q'⟩
/-- bool(o), by o's own __len__ -/
theorem call_boolOwn (hbl : PySem.W.findIn X.K (.ref C) "__bool__" = some none) (hs : PySem.W.findIn X.K (.ref C) "__len__" = some (some (.ref g))) (hf : PySem.W.isFn X.K (.ref g) = true) (F : FnOk X.prog X.w X.K X.mg X.base CX n g fd ps sp) (hb : L2.Binds X.K fd ps [])
    (hr : Room (n + 3) X.A) (hx : Passes CX X E) : CallR X (.type "bool") (rOwn1 C sp E QTru) := by
  intro pins s σ H vs us Q I r h
  obtain ⟨a, dx, fs, rfl, ha, q⟩ := h
  obtain ⟨u, rfl, ru⟩ := Vals.one r
  cases (show u = Value.ref a from ru)
  refine bool_own (wpAny_mono (truthyOwn hbl hs hf F hb (A := X.A.in1.in1) hr.in1.in1 rfl hx I ha q) ?_ fun _ _ x => x)
  rintro b s' ⟨H', I', q'⟩
  exact ⟨.bl b, H', I', rfl, q'⟩
/-- len(range(..)) -/
def tLenRg (te : L2.St → Hp → (Int → Int → Hp → Prop) → Prop) : TE := fun σ H Q => te σ H fun a b H1 => (b - a).toNat < 2 ^ 62 ∧ Q (.int ((b - a).toNat : Nat)) H1
theorem pe_lenRg {e : Expr} {te : L2.St → Hp → (Int → Int → Hp → Prop) → Prop} {p pos : Pos} (hg : Gl X "len") (hm : X.mg "len" = none) (he : PRg X e te) (na : starEach [e] X.env = (false, eval e X.env) :: starEach [] X.env := by rfl) : PE X (.Call (.Name "len" p) [e] [] pos) (tLenRg te) := by
  constructor
  intro pins s σ H Q I h
  refine wpAny_Call_Name_kw (ld_blt I hg hm PySem.boot_len ?_ (by decide) (by decide))
  refine PyProof.Rows.callWith_builtin1 (PyProof.Rows.args_cons (thn (he pins s σ H _ I h) ?_) na) na rfl
  rintro x s1 ⟨r, a, b, t, u, v, H1, rfl, hr, I1, hz, q⟩
  refine PyProof.Rows.args_nil (call_len_range (n := (b - a).toNat) hr ?_ ?_ ⟨.int ((b - a).toNat : Nat), H1, I1.tok _, ⟨_, rfl⟩, q⟩)
  · unfold Builtin.Range.rangeSize
    rw [if_pos (by decide)]
    split
    · rw [Int.ediv_one]
      omega
    · omega
  · omega
end
section
variable {X : Cx}
theorem eqBool_bl {prog : Program} {w : World} {A : Around} {E : Value → Shared → Prop} {s : Shared} {i j : Bool} {Q : Bool → Shared → Prop} (h : Q (i == j) s) : wpAny (model prog w) A (eqBool (.bool i) (.bool j)) Q E s := by
  have key : wpAny (model prog w) A (compareOp .Eq (.bool i) (.bool j)) (fun v s' => v = .bool (i == j) ∧ s' = s) E s := PyProof.Rows.eq_bool ⟨rfl, rfl⟩
  have key2 : wpAny (model prog w) A (richCompare .Eq (.bool i) (.bool j)) (fun v s' => v = .bool (i == j) ∧ s' = s) E s := key
  unfold eqBool
  refine wpAny_holding (wpAny_ite_split (fun e => ?_) (fun _ => ?_))
  · have e2 : i = j := by
      have := eq_of_beq e
      injection this
    subst e2
    rw [beq_self_eq_true] at h
    exact wpAny_bind (wpAny_rule (wpAny_pure h))
  · refine wpAny_bind (wpAny_mono key2 ?_ fun _ _ z => z)
    rintro v s' ⟨rfl, rfl⟩
    exact wpAny_truthy_bool h
/-- xs.count(b) of truths -/
def rCntBl : V → List V → Hp → VK → Prop := fun x xs H Q => ∃ (l : Addr) (rs : List Bool) (b : Bool), x = .ref l ∧ xs = [.bl b] ∧ H l = some (.lst (rs.map V.bl)) ∧ Q (.int (cntB (fun i => rs.getD i false == b) rs.length 0)) H
theorem mt_countBl : MtR X "list.count" rCntBl := by
  intro pins s σ H x xs v us Q I rx rxs h
  obtain ⟨l, rs, b, rfl, rfl, hl, q⟩ := h
  cases (show v = Value.ref l from rx)
  obtain ⟨u, rfl, ru⟩ := rxs.one
  cases (show u = Value.bool b from ru)
  obtain ⟨_, its, m, _, hp⟩ := (show ObjOk X.prog X.w H s.heap l (.lst (rs.map V.bl)) from I.hok l _ hl)
  refine GQ.call_here F.slot_list_count ⟨_, hp, rfl⟩ F.entry_list_count (F.args_list_count_2 _ _) ?_
  refine list_countG l (.bool b) rs.length (fun i => rs.getD i false == b) (fun _ s' => L2.Inv X pins σ H s') ?_ I (fun s' I' => ⟨.int _, H, I'.tok _, ⟨_, rfl⟩, q⟩)
  intro i s' I'
  obtain ⟨_, its, m, r, hp⟩ := (show ObjOk X.prog X.w H s'.heap l (.lst (rs.map V.bl)) from I'.hok l _ hl)
  have hlen : its.length = rs.length := by rw [← r.length, List.length_map]
  refine ⟨its.toArray, m, hp, by simpa using hlen, fun h1 => ?_⟩
  have h1' : i < its.length := by simpa using h1
  have hix : i < rs.length := by omega
  obtain ⟨v, hv, rv⟩ := r.get (show (rs.map V.bl)[i]? = some (.bl rs[i]) by rw [List.getElem?_map, List.getElem?_eq_getElem hix]; rfl)
  have ev : its.toArray[i] = v := by
    rw [List.getElem?_eq_getElem h1'] at hv
    simpa using hv
  cases (show v = Value.bool rs[i] from rv)
  rw [ev]
  refine eqBool_bl ⟨?_, I'⟩
  show (rs[i] == b) = (rs.getD i false == b)
  rw [List.getD_eq_getElem?_getD, List.getElem?_eq_getElem hix]
  rfl
end
/-! ### walks by enumerate; counts of texts; calls that may raise, where nothing is raised -/
theorem for_enum {K : PySem.W.Frag} {a : Addr} {xs : List V} {g : TG} {tb : TS} {D : L2.Ends} {σ : L2.St} {H : Hp} (Pv : Nat → L2.St → Hp → Prop) (h0 : Pv 0 σ H) (hl : ∀ i σ H, i ≤ xs.length → Pv i σ H → SqL K H a xs)
    (hs : ∀ i x T σ H, xs[i]? = some x → Pv i σ H → H T = none → g (.ref T) σ (upd H T (.tup [.int (i : Nat), x])) fun σ2 H2 => tb { D with nx := Pv (i + 1), ct := Pv (i + 1), bk := D.nx } σ2 H2) (hd : ∀ σ H, Pv xs.length σ H → D.nx σ H) :
    ∃ W : Nat → Nat → L2.St → Hp → Prop, (∃ m, W 0 m σ H) ∧ ∀ i m σ H, W i m σ H →
      ((Ite K a).stop i H ∧ D.nx σ H) ∨ ((Ite K a).go i H ∧ ∃ N : L2.St → Hp → Prop, (∀ σ' H', N σ' H' → ∃ m', m' < m ∧ W (i + 1) m' σ' H') ∧ ∀ x H', (Ite K a).yld i H x H' → g x σ H' fun σ2 H2 => tb { D with nx := N, ct := N, bk := D.nx } σ2 H2) := by
  refine ⟨fun i m σ H => m = xs.length - i ∧ i ≤ xs.length ∧ Pv i σ H, ⟨xs.length, by simp, Nat.zero_le _, h0⟩, ?_⟩
  rintro i m σ H ⟨rfl, hi, p⟩
  have q := hl i σ H hi p
  by_cases hlt : i < xs.length
  · refine .inr ⟨⟨xs, xs[i], q, by simp [hlt]⟩, Pv (i + 1), fun σ' H' p' => ⟨xs.length - (i + 1), by omega, rfl, hlt, p'⟩, ?_⟩
    rintro x H' ⟨T, y, rfl, hT, rfl, hy⟩
    exact hs i y T σ H (hy xs q) p hT
  · have e : i = xs.length := by omega
    subst e
    exact .inl ⟨⟨xs, q, Nat.le_refl _⟩, hd σ H p⟩
abbrev rLenQ (K : PySem.W.Frag) : List V → Hp → VK → Prop := fun xs H Q => ∃ p ys, xs = [V.ref p] ∧ (SqL K H p ys ∨ SqT K H p ys) ∧ Q (.int ((ys.length : Nat) : Int)) H
section
variable {X : Cx}
theorem eqBool_tx {prog : Program} {w : World} {A : Around} {E : Value → Shared → Prop} {s : Shared} {i j : Str} {t u : Tok} {Q : Bool → Shared → Prop} (h : Q (decide (i = j)) s) : wpAny (model prog w) A (eqBool (.str i t) (.str j u)) Q E s := wpAny_eqBool_str h
/-- xs.count(t) of texts -/
def rCntTx : V → List V → Hp → VK → Prop := fun x xs H Q => ∃ (l : Addr) (rs : List Str) (b : Str), x = .ref l ∧ xs = [.str b] ∧ H l = some (.lst (rs.map V.str)) ∧ Q (.int (cntB (fun i => decide (rs.getD i "" = b)) rs.length 0)) H
theorem mt_countTx : MtR X "list.count" rCntTx := by
  intro pins s σ H x xs v us Q I rx rxs h
  obtain ⟨l, rs, b, rfl, rfl, hl, q⟩ := h
  cases (show v = Value.ref l from rx)
  obtain ⟨u, rfl, ru⟩ := rxs.one
  obtain ⟨tb, rfl⟩ := (show ∃ t, u = Value.str b t from ru)
  obtain ⟨_, its, m, _, hp⟩ := (show ObjOk X.prog X.w H s.heap l (.lst (rs.map V.str)) from I.hok l _ hl)
  refine GQ.call_here F.slot_list_count ⟨_, hp, rfl⟩ F.entry_list_count (F.args_list_count_2 _ _) ?_
  refine list_countG l (.str b tb) rs.length (fun i => decide (rs.getD i "" = b)) (fun _ s' => L2.Inv X pins σ H s') ?_ I (fun s' I' => ⟨.int _, H, I'.tok _, ⟨_, rfl⟩, q⟩)
  intro i s' I'
  obtain ⟨_, its, m, r, hp⟩ := (show ObjOk X.prog X.w H s'.heap l (.lst (rs.map V.str)) from I'.hok l _ hl)
  have hlen : its.length = rs.length := by rw [← r.length, List.length_map]
  refine ⟨its.toArray, m, hp, by simpa using hlen, fun h1 => ?_⟩
  have h1' : i < its.length := by simpa using h1
  have hix : i < rs.length := by omega
  obtain ⟨v, hv, rv⟩ := r.get (show (rs.map V.str)[i]? = some (.str rs[i]) by rw [List.getElem?_map, List.getElem?_eq_getElem hix]; rfl)
  have ev : its.toArray[i] = v := by
    rw [List.getElem?_eq_getElem h1'] at hv
    simpa using hv
  obtain ⟨tv, e2⟩ := (show ∃ t, v = Value.str rs[i] t from rv)
  rw [ev, e2]
  refine eqBool_tx ⟨?_, I'⟩
  show decide (rs[i] = b) = decide (rs.getD i "" = b)
  rw [List.getD_eq_getElem?_getD, List.getElem?_eq_getElem hix]
  rfl
theorem passF {P : Program} {w : World} (hP : X.prog = P) (hw : X.w = w) : Passes (L2.CX P w) X E0 := fun pins σ H s e s' I h => passNo (σ := σ) hP hw pins H s e s' I h
end
theorem cntB_count {rs : List Str} {b : Str} : ∀ (k i : Nat), i + k ≤ rs.length → cntB (fun i => decide (rs.getD i "" = b)) k i = ((((rs.drop i).take k).count b : Nat) : Int)
  | 0, i, _ => by simp [cntB]
  | k + 1, i, h => by
    have hi : i < rs.length := by omega
    have ih := cntB_count (rs := rs) (b := b) k (i + 1) (by omega)
    rw [List.drop_eq_getElem_cons hi, List.take_succ_cons, List.count_cons]
    show (if decide (rs.getD i "" = b) = true then (1 : Int) else 0) + cntB _ k (i + 1) = _
    rw [ih]
    have e : rs.getD i "" = rs[i] := by rw [List.getD_eq_getElem?_getD, List.getElem?_eq_getElem hi]; rfl
    rw [e]
    by_cases c : rs[i] = b
    · simp [c]; omega
    · simp [c]
theorem cnt_all {rs : List Str} {b : Str} : cntB (fun i => decide (rs.getD i "" = b)) rs.length 0 = ((rs.count b : Nat) : Int) := by
  have := cntB_count (rs := rs) (b := b) rs.length 0 (by omega)
  rw [this, List.drop_zero, List.take_length]
theorem nodup_count {rs : List Str} : (∀ z ∈ rs, ((rs.count z : Nat) : Int) = 1) ↔ rs.Nodup := by
  rw [List.nodup_iff_count]
  constructor
  · intro h z
    by_cases c : z ∈ rs
    · have := h z c; omega
    · rw [List.count_eq_zero_of_not_mem c]; omega
  · intro h z hz
    have h1 := h z
    have h2 := List.count_pos_iff.mpr hz
    omega
/-- an exception that is made, not raised: a value, and it stays -/
theorem pe_ofMk {X : Cx} {e : Expr} {t : L2.St → Hp → XK → Prop} (h : PMk X e t) : PE X e (fun σ H Q => t σ H fun cls d H' => ∀ a, H' a = none → Q (.ref a) (upd H' a (keptX cls d a))) := by
  constructor
  intro pins s σ H Q I q
  refine wpAny_mono (h pins s σ H _ I q) ?_ (fun _ _ x => x)
  rintro u s1 ⟨a, oe, vs, sI, H', cls, d, rfl, J, k, ne, ha, hz, hd, _, na, os, ag, _, q2⟩
  have J2 := J.laidN (t' := s1.toks) k ne na (keptX_ok ha hz hd)
  exact ⟨.ref a, upd H' a (keptX cls d a), ⟨J2.ok, os.trans J.os, ag, J2.base, J2.loc, J2.cell, J2.free, J2.freeC, J2.pin, J2.hok, J2.len⟩, rfl, q2 a na⟩
def topS (i : Nat) : Stmt := PySem.Challenge.pw_boatbridge_k15_whole_loads_up_to_the_bri.main.body.getD i (.Pass ⟨0, 0, 0, 0⟩)
abbrev sWall : Stmt := topS 0
abbrev NWall : List Str := ["k"]
theorem scWall : FnScope NWall ["k"] (defScope sWall) := ⟨rfl, rfl, rfl, by decide +kernel, rfl, by decide +kernel, by decide +kernel⟩
abbrev sIsW : Stmt := topS 10
abbrev NIsW : List Str := ["thing", "least", "most"]
theorem scIsW : FnScope NIsW ["thing", "least", "most"] (defScope sIsW) := ⟨rfl, rfl, rfl, by decide +kernel, rfl, by decide +kernel, by decide +kernel⟩
abbrev sIsName : Stmt := topS 11
abbrev NIsName : List Str := ["thing"]
theorem scIsName : FnScope NIsName ["thing"] (defScope sIsName) := ⟨rfl, rfl, rfl, by decide +kernel, rfl, by decide +kernel, by decide +kernel⟩
abbrev sHas : Stmt := topS 12
abbrev NHas : List Str := ["word", "signs", "sign"]
theorem scHas : FnScope NHas ["word", "signs"] (defScope sHas) := ⟨rfl, rfl, rfl, by decide +kernel, rfl, by decide +kernel, by decide +kernel⟩
abbrev sNumberOf : Stmt := topS 13
abbrev NNumberOf : List Str := ["word", "most", "number"]
theorem scNumberOf : FnScope NNumberOf ["word", "most"] (defScope sNumberOf) := ⟨rfl, rfl, rfl, by decide +kernel, rfl, by decide +kernel, by decide +kernel⟩
abbrev sHalves : Stmt := topS 15
abbrev NHalves : List Str := ["bridge", "load", "at"]
theorem scHalves : FnScope NHalves ["bridge", "load"] (defScope sHalves) := ⟨rfl, rfl, rfl, by decide +kernel, rfl, by decide +kernel, by decide +kernel⟩
abbrev sSpare : Stmt := topS 16
abbrev NSpare : List Str := ["boat", "many"]
theorem scSpare : FnScope NSpare ["boat", "many"] (defScope sSpare) := ⟨rfl, rfl, rfl, by decide +kernel, rfl, by decide +kernel, by decide +kernel⟩
abbrev sNeed : Stmt := topS 17
abbrev NNeed : List Str := ["bridge", "load", "at", "bears", "borne", "boat"]
theorem scNeed : FnScope NNeed ["bridge", "load"] (defScope sNeed) := ⟨rfl, rfl, rfl, by decide +kernel, rfl, by decide +kernel, by decide +kernel⟩
abbrev sBorne : Stmt := topS 18
abbrev NBorne : List Str := ["bridge", "load"]
theorem scBorne : FnScope NBorne ["bridge", "load"] (defScope sBorne) := ⟨rfl, rfl, rfl, by decide +kernel, rfl, by decide +kernel, by decide +kernel⟩
abbrev sRoom : Stmt := topS 19
abbrev NRoom : List Str := ["bridge", "load", "at", "boats", "boat", "many"]
theorem scRoom : FnScope NRoom ["bridge", "load", "at"] (defScope sRoom) := ⟨rfl, rfl, rfl, by decide +kernel, rfl, by decide +kernel, by decide +kernel⟩
abbrev sReadBridge : Stmt := topS 26
abbrev NReadBridge : List Str := ["text", "words", "word"]
theorem scReadBridge : FnScope NReadBridge ["text"] (defScope sReadBridge) := ⟨rfl, rfl, rfl, by decide +kernel, rfl, by decide +kernel, by decide +kernel⟩
abbrev sAreB : Stmt := topS 27
abbrev NAreB : List Str := ["thing", "names", "boat", "name"]
theorem scAreB : FnScope NAreB ["thing"] (defScope sAreB) := ⟨rfl, rfl, rfl, by decide +kernel, rfl, by decide +kernel, by decide +kernel⟩
abbrev sAreS : Stmt := topS 28
abbrev NAreS : List Str := ["thing", "span"]
theorem scAreS : FnScope NAreS ["thing"] (defScope sAreS) := ⟨rfl, rfl, rfl, by decide +kernel, rfl, by decide +kernel, by decide +kernel⟩
abbrev sBoatOf : Stmt := topS 29
abbrev NBoatOf : List Str := ["word", "name", "_", "figures", "bears"]
theorem scBoatOf : FnScope NBoatOf ["word"] (defScope sBoatOf) := ⟨rfl, rfl, rfl, by decide +kernel, rfl, by decide +kernel, by decide +kernel⟩
abbrev sSpanOf : Stmt := topS 30
abbrev NSpanOf : List Str := ["word"]
theorem scSpanOf : FnScope NSpanOf ["word"] (defScope sSpanOf) := ⟨rfl, rfl, rfl, by decide +kernel, rfl, by decide +kernel, by decide +kernel⟩
abbrev sTape : Stmt := topS 32
abbrev NTape : List Str := ["_law_script"]
theorem scTape : FnScope NTape ["_law_script"] (defScope sTape) := ⟨rfl, rfl, rfl, by decide +kernel, rfl, by decide +kernel, by decide +kernel⟩
abbrev sDraw : Stmt := topS 33
abbrev NDraw : List Str := ["_law_tape_here", "_law_many", "_law_digit", "_law_turn", "_law_cell", "_law_primes", "_law_prime", "_law_mixed"]
theorem scDraw : FnScope NDraw ["_law_tape_here", "_law_many"] (defScope sDraw) := ⟨rfl, rfl, rfl, by decide +kernel, rfl, by decide +kernel, by decide +kernel⟩
abbrev sPick : Stmt := topS 34
abbrev NPick : List Str := ["_law_tape_here", "_law_some"]
theorem scPick : FnScope NPick ["_law_tape_here", "_law_some"] (defScope sPick) := ⟨rfl, rfl, rfl, by decide +kernel, rfl, by decide +kernel, by decide +kernel⟩
abbrev sNames : Stmt := topS 35
abbrev NNames : List Str := ["_law_tape_here", "_law_many", "_law_letters", "_law_turn", "_law_words", "_law_base", "_law_at", "_law_first", "_law_step", "_law_ends", "_law_k"]
theorem scNames : FnScope NNames ["_law_tape_here", "_law_many"] (defScope sNames) := ⟨rfl, rfl, rfl, by decide +kernel, rfl, by decide +kernel, by decide +kernel⟩
abbrev sBRows : Stmt := topS 36
abbrev NBRows : List Str := ["_law_tape_here", "_law_names_here", "_law_most", "_law_found", "_law_name", "_law_k"]
theorem scBRows : FnScope NBRows ["_law_tape_here", "_law_names_here"] (defScope sBRows) := ⟨rfl, rfl, rfl, by decide +kernel, rfl, by decide +kernel, by decide +kernel⟩
abbrev sSRow : Stmt := topS 37
abbrev NSRow : List Str := ["_law_tape_here", "_law_many", "_law_most", "_law_k"]
theorem scSRow : FnScope NSRow ["_law_tape_here", "_law_many"] (defScope sSRow) := ⟨rfl, rfl, rfl, by decide +kernel, rfl, by decide +kernel, by decide +kernel⟩
abbrev sDParts : Stmt := topS 38
abbrev NDParts : List Str := ["_law_tape_here", "_law_many"]
theorem scDParts : FnScope NDParts ["_law_tape_here"] (defScope sDParts) := ⟨rfl, rfl, rfl, by decide +kernel, rfl, by decide +kernel, by decide +kernel⟩
abbrev sMade : Stmt := topS 39
abbrev NMade : List Str := ["_law_parts", "_law_name", "_law_bears"]
theorem scMade : FnScope NMade ["_law_parts"] (defScope sMade) := ⟨rfl, rfl, rfl, by decide +kernel, rfl, by decide +kernel, by decide +kernel⟩
abbrev sWeights : Stmt := topS 40
abbrev NWeights : List Str := ["_law_tape_here", "_law_parts", "_law_found", "_law_k", "_law_least", "_law_j", "_law_some"]
theorem scWeights : FnScope NWeights ["_law_tape_here", "_law_parts"] (defScope sWeights) := ⟨rfl, rfl, rfl, by decide +kernel, rfl, by decide +kernel, by decide +kernel⟩
abbrev sFaultTold : Stmt := topS 41
abbrev NFaultTold : List Str := ["_law_bridge", "_law_load", "_law_error", "e"]
theorem scFaultTold : FnScope NFaultTold ["_law_bridge", "_law_load"] (defScope sFaultTold) := ⟨rfl, rfl, rfl, by decide +kernel, rfl, by decide +kernel, by decide +kernel⟩
abbrev sPut : Stmt := topS 42
abbrev NPut : List Str := ["_law_load", "_law_at", "_law_more"]
theorem scPut : FnScope NPut ["_law_load", "_law_at", "_law_more"] (defScope sPut) := ⟨rfl, rfl, rfl, by decide +kernel, rfl, by decide +kernel, by decide +kernel⟩
abbrev sMended : Stmt := topS 43
abbrev NMended : List Str := ["_law_tape_here", "_law_bridge", "_law_load", "_law_turn", "_law_fault", "_law_part", "_law_at", "_law_over", "_law_k", "_law_other"]
theorem scMended : FnScope NMended ["_law_tape_here", "_law_bridge", "_law_load"] (defScope sMended) := ⟨rfl, rfl, rfl, by decide +kernel, rfl, by decide +kernel, by decide +kernel⟩
abbrev sFilled : Stmt := topS 44
abbrev NFilled : List Str := ["_law_tape_here", "_law_bridge", "_law_load", "_law_rows", "_law_turn", "_law_at", "_law_room"]
theorem scFilled : FnScope NFilled ["_law_tape_here", "_law_bridge", "_law_load"] (defScope sFilled) := ⟨rfl, rfl, rfl, by decide +kernel, rfl, by decide +kernel, by decide +kernel⟩
abbrev sLaw : Stmt := topS 45
abbrev NLaw : List Str := ["_law_script", "_law_tape_here", "_law_turn", "_law_parts", "_law_bridge", "_law_twin", "_law_load", "_law_at", "_law_full", "_law_more"]
theorem scLaw : FnScope NLaw ["_law_script"] (defScope sLaw) := ⟨rfl, rfl, rfl, by decide +kernel, rfl, by decide +kernel, by decide +kernel⟩
abbrev sBInit : Stmt := inClass (topS 21) 0
abbrev NBInit : List Str := ["self", "name", "bears"]
theorem scBInit : FnScope NBInit ["self", "name", "bears"] (defScope sBInit) := ⟨rfl, rfl, rfl, by decide +kernel, rfl, by decide +kernel, by decide +kernel⟩
abbrev sBEq : Stmt := inClass (topS 21) 1
abbrev NBEq : List Str := ["self", "other"]
theorem scBEq : FnScope NBEq ["self", "other"] (defScope sBEq) := ⟨rfl, rfl, rfl, by decide +kernel, rfl, by decide +kernel, by decide +kernel⟩
abbrev sBStr : Stmt := inClass (topS 21) 2
abbrev NBStr : List Str := ["self"]
theorem scBStr : FnScope NBStr ["self"] (defScope sBStr) := ⟨rfl, rfl, rfl, by decide +kernel, rfl, by decide +kernel, by decide +kernel⟩
abbrev sBRepr : Stmt := inClass (topS 21) 3
abbrev NBRepr : List Str := ["self"]
theorem scBRepr : FnScope NBRepr ["self"] (defScope sBRepr) := ⟨rfl, rfl, rfl, by decide +kernel, rfl, by decide +kernel, by decide +kernel⟩
abbrev sBrInit : Stmt := inClass (topS 25) 0
abbrev NBrInit : List Str := ["self", "boats", "spans"]
theorem scBrInit : FnScope NBrInit ["self", "boats", "spans"] (defScope sBrInit) := ⟨rfl, rfl, rfl, by decide +kernel, rfl, by decide +kernel, by decide +kernel⟩
abbrev sBridgeEq : Stmt := inClass (topS 25) 1
abbrev NBridgeEq : List Str := ["self", "other"]
theorem scBridgeEq : FnScope NBridgeEq ["self", "other"] (defScope sBridgeEq) := ⟨rfl, rfl, rfl, by decide +kernel, rfl, by decide +kernel, by decide +kernel⟩
abbrev sBrLen : Stmt := inClass (topS 25) 2
abbrev NBrLen : List Str := ["self"]
theorem scBrLen : FnScope NBrLen ["self"] (defScope sBrLen) := ⟨rfl, rfl, rfl, by decide +kernel, rfl, by decide +kernel, by decide +kernel⟩
abbrev sBridgeStr : Stmt := inClass (topS 25) 3
abbrev NBridgeStr : List Str := ["self", "behind", "boat", "span"]
theorem scBridgeStr : FnScope NBridgeStr ["self"] (defScope sBridgeStr) := ⟨rfl, rfl, rfl, by decide +kernel, rfl, by decide +kernel, by decide +kernel⟩
abbrev sBrBoats : Stmt := inClass (topS 25) 4
abbrev NBrBoats : List Str := ["self"]
theorem scBrBoats : FnScope NBrBoats ["self"] (defScope sBrBoats) := ⟨rfl, rfl, rfl, by decide +kernel, rfl, by decide +kernel, by decide +kernel⟩
abbrev sBrSpans : Stmt := inClass (topS 25) 5
abbrev NBrSpans : List Str := ["self"]
theorem scBrSpans : FnScope NBrSpans ["self"] (defScope sBrSpans) := ⟨rfl, rfl, rfl, by decide +kernel, rfl, by decide +kernel, by decide +kernel⟩
abbrev sBridgeBoat : Stmt := inClass (topS 25) 6
abbrev NBridgeBoat : List Str := ["self", "name", "boat"]
theorem scBridgeBoat : FnScope NBridgeBoat ["self", "name"] (defScope sBridgeBoat) := ⟨rfl, rfl, rfl, by decide +kernel, rfl, by decide +kernel, by decide +kernel⟩
abbrev sBridgeWithBoat : Stmt := inClass (topS 25) 7
abbrev NBridgeWithBoat : List Str := ["self", "at", "boat"]
theorem scBridgeWithBoat : FnScope NBridgeWithBoat ["self", "at", "boat"] (defScope sBridgeWithBoat) := ⟨rfl, rfl, rfl, by decide +kernel, rfl, by decide +kernel, by decide +kernel⟩
abbrev sNoBoatInit : Stmt := inClass (topS 3) 0
abbrev NNoBoatInit : List Str := ["self", "name"]
theorem scNoBoatInit : FnScope NNoBoatInit ["self", "name"] (defScope sNoBoatInit) := ⟨rfl, rfl, rfl, by decide +kernel, rfl, by decide +kernel, by decide +kernel⟩
abbrev sNSInit : Stmt := inClass (topS 4) 0
abbrev NNSInit : List Str := ["self", "at"]
theorem scNSInit : FnScope NNSInit ["self", "at"] (defScope sNSInit) := ⟨rfl, rfl, rfl, by decide +kernel, rfl, by decide +kernel, by decide +kernel⟩
abbrev sOInit : Stmt := inClass (topS 5) 0
abbrev NOInit : List Str := ["self", "part", "at", "over"]
theorem scOInit : FnScope NOInit ["self", "part", "at", "over"] (defScope sOInit) := ⟨rfl, rfl, rfl, by decide +kernel, rfl, by decide +kernel, by decide +kernel⟩

/-- the tape at T: the cells' list, the draws done (at most n), the rest of a great cell -/
structure Tape (H : Hp) (T c : Addr) (n : Nat) : Prop where
  ex : ∃ (t r : Int) (ns : List Int), H T = some (.lst [.ref c, .int t, .int r]) ∧ H c = some (.lst (ns.map V.int)) ∧ c ≠ T ∧ 0 ≤ t ∧ t ≤ n ∧ ns.length ≤ 63
/-- all but the tape stands as it stood -/
def Keep (T : Addr) (H H' : Hp) : Prop := ∀ a o, a ≠ T → H a = some o → H' a = some o
theorem Keep.refl {T : Addr} {H : Hp} : Keep T H H := fun _ _ _ e => e
theorem Keep.trans {T : Addr} {H H1 H2 : Hp} (a : Keep T H H1) (b : Keep T H1 H2) : Keep T H H2 := fun x o n e => b x o n (a x o n e)
theorem Keep.updT {T : Addr} {H H1 : Hp} {o : HO} (a : Keep T H H1) : Keep T H (upd H1 T o) := fun x o n e => by
  rw [upd_ne n]; exact a x o n e
theorem Keep.new {T : Addr} {H H1 : Hp} {p : Addr} {o : HO} (a : Keep T H H1) (h : H1 p = none) : Keep T H (upd H1 p o) := fun x o n e => by
  have z := a x o n e
  rw [upd_ne (ne_of_none z h)]; exact z
theorem Tape.mono {H : Hp} {T c : Addr} {n m : Nat} (h : Tape H T c n) (l : n ≤ m) : Tape H T c m := by
  obtain ⟨t, r, ns, h1, h2, h3, h4, h5, h6⟩ := h.ex
  exact ⟨t, r, ns, h1, h2, h3, h4, by omega, h6⟩
theorem Tape.upd {H : Hp} {T c : Addr} {n : Nat} {p : Addr} {o : HO} (h : Tape H T c n) (n1 : p ≠ T) (n2 : p ≠ c) : Tape (upd H p o) T c n := by
  obtain ⟨t, r, ns, h1, h2, h3, h4, h5, h6⟩ := h.ex
  exact ⟨t, r, ns, by rw [upd_ne n1.symm]; exact h1, by rw [upd_ne n2.symm]; exact h2, h3, h4, h5, h6⟩
theorem Tape.new {H : Hp} {T c : Addr} {n : Nat} {p : Addr} {o : HO} (h : Tape H T c n) (hp : H p = none) : Tape (L2.upd H p o) T c n := by
  obtain ⟨t, r, ns, h1, h2, h3, h4, h5, h6⟩ := h.ex
  exact ⟨t, r, ns, by rw [upd_ne (ne_of_none h1 hp)]; exact h1, by rw [upd_ne (ne_of_none h2 hp)]; exact h2, h3, h4, h5, h6⟩
theorem Tape.nec {H : Hp} {T c : Addr} {n : Nat} {p : Addr} (h : Tape H T c n) (hp : H p = none) : p ≠ c := by
  obtain ⟨t, r, ns, _, h2, _⟩ := h.ex
  exact (ne_of_none h2 hp).symm
theorem Tape.ne {H : Hp} {T c : Addr} {n : Nat} {p : Addr} (h : Tape H T c n) (hp : H p = none) : p ≠ T := by
  obtain ⟨t, r, ns, h1, _⟩ := h.ex
  exact (ne_of_none h1 hp).symm
theorem upd_at {H : Hp} {p a : Addr} {o z : HO} (hp : H p = none) (h : H a = some z) : (upd H p o) a = some z := by
  rw [upd_ne (ne_of_none h hp)]; exact h
def spTape (K : PySem.W.Frag) : Sp := fun vs H Q _ => ∃ (a : Addr) (ns : List Int), vs = [.ref a] ∧ SqL K H a (ns.map V.int) ∧ ns.length ≤ 63 ∧
  ∀ T c H', H T = none → H c = none → Same H H' → Tape H' T c 0 → Q (.ref T) H'
def spDraw : Sp := fun vs H Q _ => ∃ (T c : Addr) (b : Int) (n : Nat), vs = [.ref T, .int b] ∧ 0 < b ∧ b < 1073741824 ∧ n < 1000000 ∧ Tape H T c n ∧
  ∀ d H', 0 ≤ d → d < b → Tape H' T c (n + 1) → Keep T H H' → Q (.int d) H'
/-- an item of a list, any one -/
def spPick : Sp := fun vs H Q _ => ∃ (T c p : Addr) (xs : List V) (n : Nat), vs = [.ref T, .ref p] ∧ H p = some (.lst xs) ∧ p ≠ T ∧ 0 < xs.length ∧ xs.length < 1000000 ∧ n < 1000000 ∧ Tape H T c n ∧
  ∀ (j : Nat) (x : V) H', xs[j]? = some x → Tape H' T c (n + 1) → Keep T H H' → Q x H'
theorem dp_ints {K : PySem.W.Frag} {H : Hp} : ∀ ns : List Int, DpAll K H (ns.map V.int) (ns.map PyData.int)
  | [] => .nil
  | _ :: r => .cons (.int _) (dp_ints r)
theorem cut63 {ns : List Int} (h : ns.length ≤ 63) : cutV (ns.map V.int) none (some 63) = ns.map V.int := by
  unfold cutV
  rw [HT.sIx_none, show HT.sIx (ns.map V.int).length (ns.map V.int).length (some 63) = min 63 (ns.map V.int).length from HT.sIx_nat _ _ 63, List.length_map, Nat.min_eq_right h]
  show ((ns.map V.int).take (ns.length - 0)) = _
  rw [Nat.sub_zero]
  exact List.take_of_length_le (by rw [List.length_map]; exact Nat.le_refl _)
theorem fmod_in {a b : Int} (h : 0 < b) : 0 ≤ a.fmod b ∧ a.fmod b < b := by
  rw [Int.fmod_eq_emod_of_nonneg a (Int.le_of_lt h)]; exact ⟨Int.emod_nonneg a (by omega), Int.emod_lt_of_pos a h⟩
theorem prime_at (t : Int) : ∃ (j : Nat) (p : Int), t.fmod 5 = (j : Int) ∧ ([.int 2147483647, .int 2147483629, .int 2147483587, .int 2147483579, .int 2147483563] : List V)[j]? = some (.int p) ∧ 0 < p ∧ p < 2147483648 := by
  obtain ⟨h1, h2⟩ := fmod_in (a := t) (b := 5) (by decide)
  generalize t.fmod 5 = z at h1 h2
  have : z = 0 ∨ z = 1 ∨ z = 2 ∨ z = 3 ∨ z = 4 := by omega
  rcases this with rfl | rfl | rfl | rfl | rfl
  · exact ⟨0, _, rfl, rfl, by decide, by decide⟩
  · exact ⟨1, _, rfl, rfl, by decide, by decide⟩
  · exact ⟨2, _, rfl, rfl, by decide, by decide⟩
  · exact ⟨3, _, rfl, rfl, by decide, by decide⟩
  · exact ⟨4, _, rfl, rfl, by decide, by decide⟩
/-- what the law's helpers ask of the module's names -/
structure Txt0 (mg : Str → Option Value) : Prop where
  mlen : mg "len" = none
section
variable {P : Program} {w : World} {K : PySem.W.Frag} {mg : Str → Option Value} {base : Heap}
theorem ok_draw {f : Addr} {fd : FuncData} {k : Nat} (F : Fun K "_law_draw" "_law_draw" sDraw f fd) (T : Txt0 mg) : FnOk P w K mg base CX0 (k + 1) f fd ["_law_tape_here", "_law_many"] spDraw := by
  refine F.ok scDraw (fun vs H Q E h => ?_) (fun cdv A outer s H vs Q E hr h => ?_)
  · obtain ⟨T, c, b, n, rfl, _⟩ := h
    rfl
  · obtain ⟨a, c, b, n, rfl, hb0, hb1, hn, hT, q⟩ := h
    obtain ⟨t, r, ns, h1, h2, h3, h4, h5, h6⟩ := hT.ex
    refine ⟨_,
      (pss_cons (ps_if (pt_cmpR op_gt (pe_ix ix_list (pv 0) pe_int (fun _ _ => rfl)) pe_int (nomark _))
      (pss_cons (ps_set (i := 2) scDraw.nd rfl (.inl rfl) (pe_op op_modN (pe_ix ix_list (pv 0) pe_int (fun _ _ => rfl)) (pv 1)))
      (pss_cons (ps_asg (pe_op op_fdivN (pe_ix ix_list (pv 0) pe_int (fun _ _ => rfl)) (pv 1)) (pg_sub (pv 0) pe_int set_list))
      (pss_one (ps_ret (pv 2)))))
      pss_nil)
      (pss_cons (ps_set (i := 3) scDraw.nd rfl (.inl rfl) (pe_ix ix_list (pv 0) pe_int (fun _ _ => rfl)))
      (pss_cut (ps_asg (pe_op op_add (pv 3) pe_int) (pg_sub (pv 0) pe_int set_list))
      (pss_cons (ps_set (i := 4) scDraw.nd rfl (.inl rfl) pe_int)
      (pss_cut (ps_if (pt_cmpR (op_neD hr.units) (pe_ix ix_list (pv 0) pe_int (fun _ _ => rfl)) (pe_lst pa_nil) (nomark _))
      (pss_one (ps_set (i := 4) scDraw.nd rfl (.inl rfl) (pe_ix ix_list (pe_ix ix_list (pv 0) pe_int (fun _ _ => rfl)) (pe_op op_modN (pv 3) (pe_callB call_len_seq (by rfl) T.mlen PySem.boot_len (pa_cons (pe_ix ix_list (pv 0) pe_int (fun _ _ => rfl)) pa_nil))) (fun _ _ => rfl))))
      pss_nil)
      (pss_cut (ps_if (PW.pt (pw_and (pt_cmpR op_ge (pv 4) (pe_op op_pow pe_int pe_int) (nomark _)) (pw_and1 (pt_cmpR op_lt (pv 3) (pe_callB call_len_seq (by rfl) T.mlen PySem.boot_len (pa_cons (pe_ix ix_list (pv 0) pe_int (fun _ _ => rfl)) pa_nil)) (nomark _)))))
      (pss_cons (ps_asg (pe_op op_fdivN (pe_op op_sub (pv 4) (pe_op op_pow pe_int pe_int)) (pv 1)) (pg_sub (pv 0) pe_int set_list))
      (pss_one (ps_ret (pe_op op_modN (pe_op op_sub (pv 4) (pe_op op_pow pe_int pe_int)) (pv 1)))))
      pss_nil)
      (pss_cons (ps_set (i := 5) scDraw.nd rfl (.inl rfl) (pe_lst (pa_cons pe_int (pa_cons pe_int (pa_cons pe_int (pa_cons pe_int (pa_cons pe_int pa_nil)))))))
      (pss_cons (ps_set (i := 6) scDraw.nd rfl (.inl rfl) (pe_ix ix_list (pv 5) (pe_op op_modN (pv 3) pe_int) (fun _ _ => rfl)))
      (pss_cut (ps_set (i := 7) scDraw.nd rfl (.inl rfl) (pe_op op_modN (pe_op op_add (pe_op op_add (pe_op op_add (pe_op op_mul (pe_op op_modN (pv 4) (pv 6)) pe_int) (pe_op op_mul (pe_op op_mul pe_int (pv 3)) (pv 3))) (pe_op op_mul pe_int (pv 3))) pe_int) (pv 6)))
      (pss_cut (ps_set (i := 7) scDraw.nd rfl (.inl rfl) (pe_op op_modN (pe_op op_mul (pv 7) (pe_op op_add (pv 7) pe_int)) (pe_ix ix_list (pv 5) (pe_op op_modN (pe_op op_add (pv 3) pe_int) pe_int) (fun _ _ => rfl))))
      (pss_one (ps_ret (pe_op op_modN (pe_op op_fdivN (pe_op op_modN (pe_op op_mul (pv 7) (pv 7)) pe_int) pe_int) (pv 1))))))))))))))
      , ?_⟩
    -- if tape[2] > 0
    refine ⟨_, rfl, a, _, 2, _, rfl, rfl, SqL.of h1, atI_nat (j := 2) rfl, _, _, rfl, rfl, _, rfl, ite2 (fun _ => ?_) (fun _ => ?_)⟩
    · obtain ⟨e1, e2⟩ := fmod_in (a := r) hb0
      refine ⟨_, rfl, a, _, 2, _, rfl, rfl, SqL.of h1, atI_nat (j := 2) rfl, _, rfl, _, _, rfl, rfl, by omega, ?_⟩
      refine ⟨_, rfl, a, _, 2, _, rfl, rfl, SqL.of h1, atI_nat (j := 2) rfl, _, rfl, _, _, rfl, rfl, ⟨by omega, by omega⟩, ?_⟩
      refine ⟨_, rfl, a, _, 2, 2, rfl, rfl, h1, rfl, ?_⟩
      refine ⟨_, rfl, q _ _ e1 e2 ⟨t, _, ns, upd_same, ?_, h3, h4, by omega, h6⟩ Keep.refl.updT⟩
      rw [upd_ne h3]; exact h2
    · refine ⟨_, rfl, a, _, 1, _, rfl, rfl, SqL.of h1, atI_nat (j := 1) rfl, ?_⟩
      refine ⟨fun σ H2 => σ = [some (.ref a), some (.int b), none, some (.int t), none, none, none, none] ∧ H2 a = some (.lst [.ref c, .int (t + 1), .int r]) ∧ H2 c = some (.lst (ns.map V.int)) ∧ Keep a H H2, ?_, ?_⟩
      · refine ⟨_, rfl, _, _, rfl, rfl, _, rfl, a, _, 1, 1, rfl, rfl, h1, rfl, rfl, upd_same, ?_, Keep.refl.updT⟩
        rw [upd_ne h3]; exact h2
      rintro σ H1 ⟨rfl, g1, g2, k0⟩
      -- if tape[0] != []: the two ways meet at a cell, any one
      refine ⟨fun σ H2 => ∃ cell : Int, σ = [some (.ref a), some (.int b), none, some (.int t), some (.int cell), none, none, none] ∧ H2 a = some (.lst [.ref c, .int (t + 1), .int r]) ∧ H2 c = some (.lst (ns.map V.int)) ∧ Keep a H H2, ?_, ?_⟩
      · refine ⟨_, rfl, a, _, 0, _, rfl, rfl, SqL.of g1, atI_nat (j := 0) rfl, Nat.zero_le _, fun l hl => ?_⟩
        have u1 := upd_at (o := .lst []) hl g1
        have u2 := upd_at (o := .lst []) hl g2
        refine ⟨_, .list [], .lst (SqL.of u2) (dp_ints _), .lst (SqL.of upd_same) .nil, ke_shaped_ints ns, ke_shaped_ints [], _, rfl, ?_⟩
        cases hns : ns with
        | nil => exact iteF ⟨0, rfl, u1, by rw [← hns]; exact u2, k0.new hl⟩
        | cons z zs =>
          refine iteT ?_
          rw [← hns]
          have hpos : 0 < (ns.length : Int) := by rw [hns]; simp
          refine ⟨_, rfl, a, _, 0, _, rfl, rfl, SqL.of u1, atI_nat (j := 0) rfl, _, rfl, _, rfl, a, _, 0, _, rfl, rfl, SqL.of u1, atI_nat (j := 0) rfl, c, _, rfl, .inl (SqL.of u2), _, _, rfl, rfl, ?_, ?_⟩
          · rw [List.length_map]; omega
          · obtain ⟨e1, e2⟩ := fmod_in (a := t) hpos
            obtain ⟨j, hj⟩ := Int.eq_ofNat_of_zero_le e1
            have hj2 : j < ns.length := by omega
            refine ⟨c, _, (j : Int), .int ns[j], rfl, ?_, SqL.of u2, atI_nat ?_, _, rfl, u1, u2, k0.new hl⟩
            · exact congrArg V.int (by rw [List.length_map]; exact hj)
            · rw [List.getElem?_map, List.getElem?_eq_getElem hj2]; rfl
      · rintro σ H2 ⟨cell, rfl, u1, u2, k2⟩
        -- if cell >= 10 ** 18 and turn < len(tape[0])
        have tp : ∀ (r' : Int) (H3 : Hp), H3 a = some (.lst [.ref c, .int (t + 1), .int r']) → H3 c = some (.lst (ns.map V.int)) → Tape H3 a c (n + 1) := fun r' H3 x1 x2 => ⟨t + 1, r', ns, x1, x2, h3, by omega, by omega, h6⟩
        refine ⟨fun σ H3 => σ = [some (.ref a), some (.int b), none, some (.int t), some (.int cell), none, none, none] ∧ H3 = H2, ?_, ?_⟩
        · refine ⟨_, rfl, _, _, rfl, rfl, ⟨by decide, by decide, by decide⟩, _, _, rfl, rfl, _, rfl, ite2 (fun _ => ?_) (fun _ => iteF ⟨rfl, rfl⟩)⟩
          refine ⟨_, rfl, _, rfl, a, _, 0, _, rfl, rfl, SqL.of u1, atI_nat (j := 0) rfl, c, _, rfl, .inl (SqL.of u2), _, _, rfl, rfl, _, rfl, ite2 (fun _ => ?_) (fun _ => ⟨rfl, rfl⟩)⟩
          refine ⟨_, rfl, _, _, rfl, rfl, ⟨by decide, by decide, by decide⟩, _, _, rfl, rfl, _, rfl, _, _, rfl, rfl, ⟨by omega, by omega⟩, _, rfl, a, _, 2, 2, rfl, rfl, u1, rfl, ?_⟩
          refine ⟨_, rfl, _, _, rfl, rfl, ⟨by decide, by decide, by decide⟩, _, _, rfl, rfl, _, rfl, _, _, rfl, rfl, by omega, ?_⟩
          exact q _ _ (fmod_in hb0).1 (fmod_in hb0).2 (tp _ _ upd_same (by rw [upd_ne h3]; exact u2)) k2.updT
        · rintro σ H3 ⟨rfl, rfl⟩
          -- the five primes, the mixing
          refine ⟨by show 5 ≤ sizeLine; decide, fun l hl => ?_⟩
          have w1 := upd_at (o := .lst [.int 2147483647, .int 2147483629, .int 2147483587, .int 2147483579, .int 2147483563]) hl u1
          have w2 := upd_at (o := .lst [.int 2147483647, .int 2147483629, .int 2147483587, .int 2147483579, .int 2147483563]) hl u2
          have w3 := upd_same (H := H3) (a := l) (o := .lst [.int 2147483647, .int 2147483629, .int 2147483587, .int 2147483579, .int 2147483563])
          obtain ⟨j1, p1, ej1, ep1, hp1, hq1⟩ := prime_at t
          obtain ⟨j2, p2, ej2, ep2, hp2, hq2⟩ := prime_at (t + 2)
          refine ⟨_, rfl, _, rfl, _, _, rfl, rfl, (by show (5 : Int) ≠ 0; decide), l, _, (j1 : Int), _, rfl, congrArg V.int ej1, SqL.of w3, atI_nat ep1, ?_⟩
          have late : ∀ {A B : Prop}, A → A := fun h => h
          refine ⟨fun σ H4 => ∃ m1 : Int, 0 ≤ m1 ∧ m1 < p1 ∧ σ = [some (.ref a), some (.int b), none, some (.int t), some (.int cell), some (.ref l), some (.int p1), some (.int m1)] ∧ H4 = upd H3 l (.lst [.int 2147483647, .int 2147483629, .int 2147483587, .int 2147483579, .int 2147483563]), ?_, ?_⟩
          · refine ⟨_, rfl, _, rfl, _, _, rfl, rfl, by omega, _, _, rfl, rfl, .inr ⟨by decide, by decide⟩, _, rfl, _, _, rfl, rfl, .inl ⟨by decide, by decide⟩, _, rfl, _, _, rfl, rfl, .inr ⟨by omega, by omega⟩, _, _, rfl, rfl, _, rfl, _, _, rfl, rfl, .inl ⟨by decide, by decide⟩, _, _, rfl, rfl, _, _, rfl, rfl, _, rfl, _, _, rfl, rfl, by omega, ?_⟩
            exact ⟨_, (fmod_in hp1).1, (fmod_in hp1).2, rfl, rfl⟩
          rintro σ H4 ⟨m1, m10, m11, rfl, rfl⟩
          refine ⟨fun σ H4 => ∃ m2 : Int, 0 ≤ m2 ∧ m2 < p2 ∧ σ = [some (.ref a), some (.int b), none, some (.int t), some (.int cell), some (.ref l), some (.int p1), some (.int m2)] ∧ H4 = upd H3 l (.lst [.int 2147483647, .int 2147483629, .int 2147483587, .int 2147483579, .int 2147483563]), ?_, ?_⟩
          · refine ⟨_, rfl, _, rfl, _, _, rfl, rfl, _, _, rfl, rfl, .inl ⟨by omega, by omega⟩, _, rfl, _, rfl, _, _, rfl, rfl, _, _, rfl, rfl, (by show (5 : Int) ≠ 0; decide), l, _, (j2 : Int), _, rfl, congrArg V.int ej2, SqL.of w3, atI_nat ep2, _, _, rfl, rfl, by omega, ?_⟩
            exact ⟨_, (fmod_in hp2).1, (fmod_in hp2).2, rfl, rfl⟩
          rintro σ H4 ⟨m2, m20, m21, rfl, rfl⟩
          refine ⟨_, rfl, _, rfl, _, _, rfl, rfl, .inl ⟨by omega, by omega⟩, _, _, rfl, rfl, (by show (2147483549 : Int) ≠ 0; decide), _, _, rfl, rfl, ⟨by decide, by decide⟩, _, rfl, _, _, rfl, rfl, by omega, ?_⟩
          exact q _ _ (fmod_in hb0).1 (fmod_in hb0).2 (tp _ _ w1 w2) (k2.new hl)
/-- an item of a list by a draw -/
theorem ok_pick {f fD : Addr} {fd fdD : FuncData} {k : Nat} (F : Fun K "_law_pick" "_law_pick" sPick f fd) (T : Txt0 mg) (F_law_draw : Fun K "_law_draw" "_law_draw" sDraw fD fdD) (g_law_draw : mg "_law_draw" = some (.ref fD)) (b_law_draw : Binds K fdD ["_law_tape_here", "_law_many"] []) :
    FnOk P w K mg base CX0 (k + 2) f fd ["_law_tape_here", "_law_some"] spPick := by
  have G_law_draw : FnOk P w K mg base CX0 (k + 1) fD fdD ["_law_tape_here", "_law_many"] spDraw := ok_draw F_law_draw T
  refine F.ok scPick (fun vs H Q E h => ?_) (fun cdv A outer s H vs Q E hr h => ?_)
  · obtain ⟨T, c, p, xs, n, rfl, _⟩ := h
    rfl
  · obtain ⟨a, c, p, xs, n, rfl, hS, hpa, hx0, hx1, hn, hT, q⟩ := h
    have hr_law_draw := hr
    refine ⟨_,
      (pss_one (ps_ret (pe_ix ix_list (pv 1) (pe_call G_law_draw hr_law_draw (by rfl) g_law_draw F_law_draw.kp b_law_draw .nil pass0 (pa_cons (pv 0) (pa_cons (pe_callB call_len_seq (by rfl) T.mlen PySem.boot_len (pa_cons (pv 1) pa_nil)) pa_nil))) (fun _ _ => rfl))))
      , ?_⟩
    refine ⟨_, rfl, _, rfl, _, rfl, p, xs, rfl, .inl (SqL.of hS), a, c, xs.length, n, rfl, by omega, by omega, hn, hT, fun d H' d0 d1 T' k' => ?_⟩
    obtain ⟨j, rfl⟩ := Int.eq_ofNat_of_zero_le d0
    have hj : j < xs.length := by omega
    exact ⟨p, xs, (j : Int), xs[j], rfl, rfl, SqL.of (k' p _ hpa hS), atI_nat (List.getElem?_eq_getElem hj), q j _ _ (List.getElem?_eq_getElem hj) T' k'⟩
/-- the tape's making: the cells in a list of their own -/
theorem ok_tape {f : Addr} {fd : FuncData} {k : Nat} (F : Fun K "_law_tape" "_law_tape" sTape f fd) (T : Txt0 mg) : FnOk P w K mg base CX0 (k + 1) f fd ["_law_script"] (spTape K) := by
  refine F.ok scTape (fun vs H Q E h => ?_) (fun cdv A outer s H vs Q E hr h => ?_)
  · obtain ⟨a, ns, rfl, _⟩ := h
    rfl
  · obtain ⟨a, ns, rfl, hS, hlen, q⟩ := h
    refine ⟨_,
      (pss_one (ps_ret (pe_lst (pa_cons (pe_slice sl_list (pv 0) po_none (po_some pe_int)) (pa_cons pe_int (pa_cons pe_int pa_nil))))))
      , ?_⟩
    refine ⟨_, rfl, _, rfl, a, _, rfl, hS, fun p hp => ?_⟩
    refine ⟨by show 3 ≤ sizeLine; decide, fun l hl => ?_⟩
    have nlp : p ≠ l := fun e => by rw [e, upd_same] at hl; cases hl
    have hl0 : H l = none := by rw [upd_ne nlp.symm] at hl; exact hl
    refine q l p _ hl0 hp (fun b o e => upd_at hl (upd_at hp e)) ⟨0, 0, ns, upd_same, ?_, nlp, by omega, by omega, hlen⟩
    rw [upd_ne nlp, upd_same, cut63 hlen]
end
/-! ### heaps that grow -/
theorem Tape.same {H H' : Hp} {T c : Addr} {n : Nat} (h : Tape H T c n) (s : Same H H') : Tape H' T c n := by
  obtain ⟨t, r, ns, h1, h2, h3, h4, h5, h6⟩ := h.ex
  exact ⟨t, r, ns, s _ _ h1, s _ _ h2, h3, h4, h5, h6⟩
theorem Keep.same {T : Addr} {H H1 H2 : Hp} (a : Keep T H H1) (b : Same H1 H2) : Keep T H H2 := fun x o n e => b x o (a x o n e)
theorem same_upd {H : Hp} {p : Addr} {o : HO} (h : H p = none) : Same H (upd H p o) := fun b x e => by
  rw [upd_ne (ne_of_none e h)]; exact e
theorem same_refl {H : Hp} : Same H H := fun _ _ e => e
theorem small_line {n : Nat} (h : n ≤ 100) : n ≤ sizeLine := Nat.le_trans h (by decide)
/-! ### data over heaps that change -/
mutual
/-- data without lists -/
def noL : PyData → Bool
  | .list _ => false
  | .tuple ds => noLs ds
  | .dict _ => false
  | _ => true
def noLs : List PyData → Bool
  | [] => true
  | d :: ds => noL d && noLs ds
end
theorem sqT_same {K : PySem.W.Frag} {H H' : Hp} {a : Addr} {xs : List V} (h : SqT K H a xs) (s : Same H H') : SqT K H' a xs := by
  rcases h with (h | ⟨o, h⟩) | h
  · exact .inl (.inl (s _ _ h))
  · exact .inl (.inr ⟨o, s _ _ h⟩)
  · exact .inr h
theorem sqL_same {K : PySem.W.Frag} {H H' : Hp} {a : Addr} {xs : List V} (h : SqL K H a xs) (s : Same H H') : SqL K H' a xs := by
  rcases h with (h | ⟨o, h⟩) | h
  · exact .inl (.inl (s _ _ h))
  · exact .inl (.inr ⟨o, s _ _ h⟩)
  · exact .inr h
theorem sqT_keep {K : PySem.W.Frag} {T : Addr} {H H' : Hp} {ys : List V} {a : Addr} {xs : List V} (hT : H T = some (.lst ys)) (h : SqT K H a xs) (s : Keep T H H') : SqT K H' a xs := by
  rcases h with (h | ⟨o, h⟩) | h
  · exact .inl (.inl (s _ _ (ne_of h hT (by intro z; cases z)) h))
  · exact .inl (.inr ⟨o, s _ _ (ne_of h hT (by intro z; cases z)) h⟩)
  · exact .inr h
mutual
theorem dp_same {K : PySem.W.Frag} {H H' : Hp} (s : Same H H') : ∀ (d : PyData) (v : V), Dp K H v d → Dp K H' v d
  | .none, _, h => by cases h; exact .non
  | .bool b, _, h => by cases h; exact .bl b
  | .int i, _, h => by cases h; exact .int i
  | .str x, _, h => by cases h; exact .str x
  | .list ds, _, h => by cases h with | lst a b => exact .lst (sqL_same a s) (dps_same s ds _ b)
  | .tuple ds, _, h => by cases h with | tup a b => exact .tup (sqT_same a s) (dps_same s ds _ b)
  | .dict _, _, h => by cases h
theorem dps_same {K : PySem.W.Frag} {H H' : Hp} (s : Same H H') : ∀ (ds : List PyData) (vs : List V), DpAll K H vs ds → DpAll K H' vs ds
  | [], _, h => by cases h; exact .nil
  | d :: ds, _, h => by cases h with | cons a b => exact .cons (dp_same s d _ a) (dps_same s ds _ b)
end
mutual
theorem dp_tups {K : PySem.W.Frag} {H H' : Hp} (s : ∀ a xs, SqT K H a xs → SqT K H' a xs) : ∀ (d : PyData) (v : V), noL d = true → Dp K H v d → Dp K H' v d
  | .none, _, _, h => by cases h; exact .non
  | .bool b, _, _, h => by cases h; exact .bl b
  | .int i, _, _, h => by cases h; exact .int i
  | .str x, _, _, h => by cases h; exact .str x
  | .list ds, _, n, h => by simp [noL] at n
  | .tuple ds, _, n, h => by cases h with | tup a b => exact .tup (s _ _ a) (dps_tups s ds _ (by simpa [noL] using n) b)
  | .dict _, _, _, h => by cases h
theorem dps_tups {K : PySem.W.Frag} {H H' : Hp} (s : ∀ a xs, SqT K H a xs → SqT K H' a xs) : ∀ (ds : List PyData) (vs : List V), noLs ds = true → DpAll K H vs ds → DpAll K H' vs ds
  | [], _, _, h => by cases h; exact .nil
  | d :: ds, _, n, h => by
    have n' : noL d = true ∧ noLs ds = true := by simpa [noLs] using n
    cases h with | cons a b => exact .cons (dp_tups s d _ n'.1 a) (dps_tups s ds _ n'.2 b)
end
theorem dps_keep {K : PySem.W.Frag} {T : Addr} {H H' : Hp} {ys : List V} {ds : List PyData} {vs : List V} (h : DpAll K H vs ds) (hT : H T = some (.lst ys)) (s : Keep T H H') (n : noLs ds = true) : DpAll K H' vs ds := dps_tups (fun _ _ z => sqT_keep hT z s) ds vs n h
theorem dp_keep {K : PySem.W.Frag} {T : Addr} {H H' : Hp} {ys : List V} {d : PyData} {v : V} (h : Dp K H v d) (hT : H T = some (.lst ys)) (s : Keep T H H') (n : noL d = true) : Dp K H' v d := dp_tups (fun _ _ z => sqT_keep hT z s) d v n h
theorem dps_len {K : PySem.W.Frag} {H : Hp} : ∀ {vs : List V} {ds : List PyData}, DpAll K H vs ds → vs.length = ds.length
  | _, _, .nil => rfl
  | _, _, .cons _ r => congrArg (· + 1) (dps_len r)
theorem dps_at {K : PySem.W.Frag} {H : Hp} : ∀ {vs : List V} {ds : List PyData} {i : Nat} {x : V}, DpAll K H vs ds → vs[i]? = some x → ∃ d, ds[i]? = some d ∧ Dp K H x d
  | _, _, _, _, .nil, e => by cases e
  | _, _, 0, _, .cons h _, e => by cases e; exact ⟨_, rfl, h⟩
  | _, _, i + 1, _, .cons _ r, e => dps_at (i := i) r e
theorem dps_app {K : PySem.W.Frag} {H : Hp} : ∀ {vs ws : List V} {ds es : List PyData}, DpAll K H vs ds → DpAll K H ws es → DpAll K H (vs ++ ws) (ds ++ es)
  | _, _, _, _, .nil, h => h
  | _, _, _, _, .cons a r, h => .cons a (dps_app r h)
theorem dp_tup {K : PySem.W.Frag} {H : Hp} {v : V} {ds : List PyData} (h : Dp K H v (.tuple ds)) : ∃ a xs, v = .ref a ∧ SqT K H a xs ∧ DpAll K H xs ds := by cases h with | tup a b => exact ⟨_, _, rfl, a, b⟩
theorem dp_lst {K : PySem.W.Frag} {H : Hp} {v : V} {ds : List PyData} (h : Dp K H v (.list ds)) : ∃ a xs, v = .ref a ∧ SqL K H a xs ∧ DpAll K H xs ds := by cases h with | lst a b => exact ⟨_, _, rfl, a, b⟩
theorem noLs_map {α : Type} (f : α → PyData) (h : ∀ x, noL (f x) = true) : ∀ l : List α, noLs (l.map f) = true
  | [] => rfl
  | x :: l => by rw [List.map_cons, noLs, h x, noLs_map f h l]; rfl
/-! ### Boats -/
theorem nb : ¬ (("name" : Str) = "bears") := by decide +kernel
def boatF (n : Str) (b : Int) : List (Str × V) := putF "bears" (.int b) (putF "name" (.str n) [])
theorem boatF_name (n : Str) (b : Int) : (boatF n b).lookup ("name" : Str) = some (.str n) := by
  unfold boatF
  rw [lookup_putF, if_neg nb, lookup_putF, if_pos rfl]
theorem boatF_bears (n : Str) (b : Int) : (boatF n b).lookup ("bears" : Str) = some (.int b) := by
  unfold boatF
  rw [lookup_putF, if_pos rfl]
def BoatAt (C : Addr) (H : Hp) (p : Addr) (n : Str) (b : Int) : Prop := ∃ dx, H p = some (.ins C dx (boatF n b))
structure BCl (K : PySem.W.Frag) (mg : Str → Option Value) (C : Addr) : Prop where
  cl : Cls K C
  nN : NoAttr K C "name"
  nB : NoAttr K C "bears"
  gC : mg "Boat" = some (.ref C)
  ha : PySem.W.findIn K (.ref C) "__class__" = some (some (.builtin "object.__class__"))
  hn : PySem.W.specialIn K (.builtin "object.__class__") "__get__" = some (some (.builtin "getset_descriptor.__get__"))
  htk : PySem.W.takesIn K (.builtin "object.__class__") = some true
  hm : PySem.W.mroIn K C (.type "object") = some true
theorem isBoat {K : PySem.W.Frag} {mg : Str → Option Value} {C : Addr} (T : BCl K mg C) {H : Hp} {p : Addr} {n : Str} {b : Int} (h : BoatAt C H p n b) : TyX K H (.ref p) (.ref C) := by
  obtain ⟨dx, e⟩ := h
  exact .base (.ins e T.cl T.ha T.hn T.htk T.hm)
theorem kitC {K : PySem.W.Frag} {C : Addr} : PySem.W.kitOne K (.ref C) (.ref C) = some true := if_pos (beq_self_eq_true _)
theorem made_same {H H' : Hp} {x dx : Addr} {o1 o2 : HO} (hx : H x = none) (hdx : H dx = none) (k : ∀ y o, y ≠ x → (upd (upd H dx o1) x o2) y = some o → H' y = some o) : Same H H' := fun y o e =>
  k y o (ne_of_none e hx) (by rw [upd_ne (ne_of_none e hx), upd_ne (ne_of_none e hdx)]; exact e)
/-- a list of Boats, by names and bearings -/
inductive Boats (C : Addr) (H : Hp) : List V → List (Str × Int) → Prop
  | nil : Boats C H [] []
  | cons {a : Addr} {r : Str × Int} {xs : List V} {rs : List (Str × Int)} : BoatAt C H a r.1 r.2 → Boats C H xs rs → Boats C H (.ref a :: xs) (r :: rs)
theorem Boats.len {C : Addr} {H : Hp} {xs : List V} {rs : List (Str × Int)} (h : Boats C H xs rs) : xs.length = rs.length := by
  induction h with
  | nil => rfl
  | cons _ _ ih => rw [List.length_cons, List.length_cons, ih]
theorem Boats.at {C : Addr} {H : Hp} {xs : List V} {rs : List (Str × Int)} (h : Boats C H xs rs) : ∀ {i : Nat} {y : V}, xs[i]? = some y → ∃ a r, y = .ref a ∧ rs[i]? = some r ∧ BoatAt C H a r.1 r.2 := by
  induction h with
  | nil => intro i y e; cases e
  | cons e _ ih =>
    intro i y z
    cases i with
    | zero => cases z; exact ⟨_, _, rfl, rfl, e⟩
    | succ i => exact ih z
theorem Boats.mono {C : Addr} {H H' : Hp} {xs : List V} {rs : List (Str × Int)} (h : Boats C H xs rs) (s : ∀ a dx n b, H a = some (.ins C dx (boatF n b)) → H' a = some (.ins C dx (boatF n b))) : Boats C H' xs rs := by
  induction h with
  | nil => exact .nil
  | cons e _ ih =>
    obtain ⟨dx, e⟩ := e
    exact .cons ⟨dx, s _ _ _ _ e⟩ ih
theorem Boats.same {C : Addr} {H H' : Hp} {xs : List V} {rs : List (Str × Int)} (h : Boats C H xs rs) (s : Same H H') : Boats C H' xs rs := h.mono fun a dx n b e => s _ _ e
theorem Boats.app {C : Addr} {H : Hp} {xs ys : List V} {rs ss : List (Str × Int)} (h : Boats C H xs rs) (h2 : Boats C H ys ss) : Boats C H (xs ++ ys) (rs ++ ss) := by
  induction h with
  | nil => exact h2
  | cons e _ ih => exact .cons e ih
/-! ### Bridges -/
def brF (bl sl : Addr) : List (Str × V) := putF "_spans" (.ref sl) (putF "_boats" (.ref bl) [])
theorem brF_boats (bl sl : Addr) : (brF bl sl).lookup ("_boats" : Str) = some (.ref bl) := by
  unfold brF; repeat (rw [lookup_putF]; first | rw [if_pos rfl] | rw [if_neg (by decide +kernel)])
theorem brF_spans (bl sl : Addr) : (brF bl sl).lookup ("_spans" : Str) = some (.ref sl) := by
  unfold brF; repeat (rw [lookup_putF]; first | rw [if_pos rfl] | rw [if_neg (by decide +kernel)])
theorem brF_no (bl sl : Addr) {x : Str} (h1 : ¬ x = "_boats") (h2 : ¬ x = "_spans") : (brF bl sl).lookup x = none := by
  unfold brF
  rw [lookup_putF, if_neg h2, lookup_putF, if_neg h1]
  rfl
theorem brF_mboats (bl sl : Addr) : (brF bl sl).lookup ("boats" : Str) = none := brF_no bl sl (by decide +kernel) (by decide +kernel)
theorem brF_mspans (bl sl : Addr) : (brF bl sl).lookup ("spans" : Str) = none := brF_no bl sl (by decide +kernel) (by decide +kernel)
/-- a Bridge of these boats and spans stands at p -/
structure BrAt (C CB : Addr) (H : Hp) (p bl sl : Addr) (rows : List (Str × Int)) (spans : List Int) : Prop where
  ex : ∃ dx bs, H p = some (.ins CB dx (brF bl sl)) ∧ H bl = some (.lst bs) ∧ Boats C H bs rows
  sp : H sl = some (.lst (spans.map V.int))
theorem BrAt.same {C CB : Addr} {H H' : Hp} {p bl sl : Addr} {rows : List (Str × Int)} {spans : List Int} (h : BrAt C CB H p bl sl rows spans) (s : Same H H') : BrAt C CB H' p bl sl rows spans := by
  obtain ⟨dx, bs, e1, e2, e3⟩ := h.ex
  exact ⟨⟨dx, bs, s _ _ e1, s _ _ e2, e3.same s⟩, s _ _ h.sp⟩
theorem BrAt.keep {C CB T : Addr} {H H' : Hp} {p bl sl : Addr} {rows : List (Str × Int)} {spans : List Int} {xs : List V} (h : BrAt C CB H p bl sl rows spans) (hT : H T = some (.lst xs)) (k : Keep T H H') (n1 : bl ≠ T) (n2 : sl ≠ T) : BrAt C CB H' p bl sl rows spans := by
  obtain ⟨dx, bs, e1, e2, e3⟩ := h.ex
  exact ⟨⟨dx, bs, k _ _ (ne_of e1 hT (by intro z; cases z)) e1, k _ _ n1 e2, e3.mono fun a dx n b e => k _ _ (ne_of e hT (by intro z; cases z)) e⟩, k _ _ n2 h.sp⟩
structure BrCl (K : PySem.W.Frag) (mg : Str → Option Value) (CB : Addr) : Prop where
  cl : Cls K CB
  nB : NoAttr K CB "_boats"
  nS : NoAttr K CB "_spans"
  gC : mg "Bridge" = some (.ref CB)
/-- boats and spans that make a Bridge -/
structure Good (rows : List (Str × Int)) (spans : List Int) : Prop where
  l0 : 1 ≤ rows.length
  l1 : rows.length ≤ 10
  nd : (rows.map Prod.fst).Nodup
  sl : spans.length = rows.length + 1
  sb : ∀ z ∈ spans, 1 ≤ z ∧ z ≤ 1000000
structure TxtB (mg : Str → Option Value) : Prop where
  misinstance : mg "isinstance" = none
  mlen : mg "len" = none
  mall : mg "all" = none
  mlist : mg "list" = none
  mint : mg "int" = none
  mbool : mg "bool" = none
  mMB : ∃ t, mg "MOST_BOATS" = some (.int 10 t)
  mMO : ∃ t, mg "MOST_BORNE" = some (.int 1000000 t)
def spBInit (C : Addr) : Sp := fun vs H Q _ => ∃ (p dx : Addr) (n : Str) (b : Int), vs = [.ref p, .str n, .int b] ∧ H p = some (.ins C dx []) ∧ ∀ H', BoatAt C H' p n b → (∀ x o, x ≠ p → H x = some o → H' x = some o) → Q .non H'
/-- a number within, a truth, or another thing -/
def spIsW (K : PySem.W.Frag) : Sp := fun vs H Q _ => ∃ (v : V) (lo hi : Int), vs = [v, .int lo, .int hi] ∧ ((∃ i, v = .int i ∧ Q (.bl (decide (lo ≤ i) && decide (i ≤ hi))) H) ∨ (∃ b, v = .bl b ∧ Q (.bl false) H) ∨ ∃ t, TyX K H v t ∧ PySem.W.kitOne K t (.type "int") = some false ∧ Q (.bl false) H)
def spAreB (C : Addr) : Sp := fun vs H Q _ => ∃ (l : Addr) (bs : List V) (rows : List (Str × Int)), vs = [.ref l] ∧ H l = some (.lst bs) ∧ Boats C H bs rows ∧ 1 ≤ rows.length ∧ rows.length ≤ 10 ∧ ∀ H', Same H H' → Q (.bl (decide (rows.map Prod.fst).Nodup)) H'
def spAreS : Sp := fun vs H Q _ => ∃ (l : Addr) (ns : List Int), vs = [.ref l] ∧ H l = some (.lst (ns.map V.int)) ∧ ns.length ≤ 1000 ∧ ∀ H', Same H H' → Q (.bl (ns.all fun z => decide (1 ≤ z) && decide (z ≤ 1000000))) H'
def spBrInit (C CB : Addr) : Sp := fun vs H Q _ => ∃ (p dx l s : Addr) (bs : List V) (rows : List (Str × Int)) (spans : List Int), vs = [.ref p, .ref l, .ref s] ∧ H p = some (.ins CB dx []) ∧ H l = some (.lst bs) ∧ Boats C H bs rows ∧ H s = some (.lst (spans.map V.int)) ∧ Good rows spans ∧
  ∀ bl sl H', H bl = none → H sl = none → BrAt C CB H' p bl sl rows spans → (∀ x o, x ≠ p → H x = some o → H' x = some o) → Q .non H'
def spBrBoats (C CB : Addr) : Sp := fun vs H Q _ => ∃ (p bl sl : Addr) (rows : List (Str × Int)) (spans : List Int), vs = [.ref p] ∧ BrAt C CB H p bl sl rows spans ∧ ∀ l bs H', Same H H' → H l = none → H' l = some (.lst bs) → Boats C H' bs rows → Q (.ref l) H'
def spBrSpans (C CB : Addr) : Sp := fun vs H Q _ => ∃ (p bl sl : Addr) (rows : List (Str × Int)) (spans : List Int), vs = [.ref p] ∧ BrAt C CB H p bl sl rows spans ∧ ∀ l H', Same H H' → H l = none → H' l = some (.lst (spans.map V.int)) → Q (.ref l) H'
def spBrLen (C CB : Addr) : Sp := fun vs H Q _ => ∃ (p bl sl : Addr) (rows : List (Str × Int)) (spans : List Int), vs = [.ref p] ∧ BrAt C CB H p bl sl rows spans ∧ Q (.int (rows.length : Nat)) H
section
variable {P : Program} {w : World} {K : PySem.W.Frag} {mg : Str → Option Value} {base : Heap} {C CB : Addr}
theorem ok_binit {f : Addr} {fd : FuncData} {k : Nat} (F : Fun K "__init__" "Boat.__init__" sBInit f fd) (T : BCl K mg C) : FnOk P w K mg base CX0 (k + 1) f fd ["self", "name", "bears"] (spBInit C) := by
  refine F.ok scBInit (fun vs H Q E h => ?_) (fun cdv A outer s H vs Q E hr h => ?_)
  · obtain ⟨p, dx, a, b, rfl, _⟩ := h
    rfl
  · obtain ⟨p, dx, n, b, rfl, hp, q⟩ := h
    refine ⟨_,
      (pss_cons (ps_fld (pv 0) (pv 1) rfl)
      (pss_one (ps_fld (pv 0) (pv 2) rfl)))
      , ?_⟩
    refine ⟨_, rfl, _, rfl, p, C, dx, _, rfl, hp, T.cl, T.nN, (by show 0 < 1000; decide), ?_⟩
    refine ⟨_, rfl, _, rfl, p, C, dx, _, rfl, upd_same, T.cl, T.nB, (by show 1 < 1000; decide), ?_⟩
    exact q _ ⟨dx, upd_same⟩ fun x o n e => by rw [upd_ne n, upd_ne n]; exact e
theorem ok_isw {f : Addr} {fd : FuncData} {k : Nat} (F : Fun K "is_whole" "is_whole" sIsW f fd) (T : TxtB mg) : FnOk P w K mg base CX0 (k + 1) f fd ["thing", "least", "most"] (spIsW K) := by
  refine F.ok scIsW (fun vs H Q E h => ?_) (fun cdv A outer s H vs Q E hr h => ?_)
  · obtain ⟨v, lo, hi, rfl, _⟩ := h
    rfl
  · obtain ⟨v, lo, hi, rfl, h⟩ := h
    refine ⟨_,
      (pss_one (ps_ret (pe_and (pe_callB call_isi (by rfl) T.misinstance (by decide +kernel) (pa_cons (pv 0) (pa_cons (pe_bltn (v := .ty "int") (u := .type "int") (by rfl) T.mint (by decide +kernel) rfl) pa_nil))) (pe_and (pe_not (pe_callB call_isi (by rfl) T.misinstance (by decide +kernel) (pa_cons (pv 0) (pa_cons (pe_bltn (v := .ty "bool") (u := .type "bool") (by rfl) T.mbool (by decide +kernel) rfl) pa_nil)))) (pe_one (pe_chain op_le op_le (pv 1) (pv 0) (pv 2)))))))
      , ?_⟩
    rcases h with ⟨i, rfl, q⟩ | ⟨b, rfl, q⟩ | ⟨t, ty, hk, q⟩
    · refine ⟨_, rfl, _, _, _, _, true, rfl, .ty "int", .base (.int _), kit_ty (by decide +kernel), _, rfl, ?_⟩
      refine ⟨_, rfl, _, _, _, _, false, rfl, .ty "bool", .base (.int _), kit_ty (by decide +kernel), _, rfl, _, rfl, ?_⟩
      refine ⟨_, rfl, _, rfl, _, _, rfl, rfl, _, rfl, ite2 (fun c => ?_) (fun c => ?_)⟩
      · refine ⟨_, rfl, _, _, rfl, rfl, ?_⟩
        rw [c, Bool.true_and] at q
        exact q
      · rw [show decide (lo ≤ i) = false from Bool.eq_false_iff.mpr c, Bool.false_and] at q
        exact q
    · refine ⟨_, rfl, _, _, _, _, true, rfl, .ty "int", .base (.bl _), kit_ty (by decide +kernel), _, rfl, ?_⟩
      exact ⟨_, rfl, _, _, _, _, true, rfl, .ty "bool", .base (.bl _), kit_ty (by decide +kernel), _, rfl, _, rfl, q⟩
    · exact ⟨_, rfl, _, _, _, _, false, rfl, .ty "int", ty, hk, _, rfl, q⟩
theorem ok_areb {f : Addr} {fd : FuncData} {k : Nat} (F : Fun K "_are_boats" "_are_boats" sAreB f fd) (T : TxtB mg) (TB : BCl K mg C) : FnOk P w K mg base CX0 (k + 1) f fd ["thing"] (spAreB C) := by
  refine F.ok scAreB (fun vs H Q E h => ?_) (fun cdv A outer s H vs Q E hr h => ?_)
  · obtain ⟨l, bs, rows, rfl, _⟩ := h
    rfl
  · obtain ⟨l, bs, rows, rfl, hl, hb, l0, l1, q⟩ := h
    obtain ⟨t1, mMOST_BOATS⟩ := T.mMB
    have gC := TB.gC
    have hbl := hb.len
    refine ⟨_,
      (pss_cons (ps_if (PW.pt (pw_or (pt_not (pt_val (pe_callB call_isi (by rfl) T.misinstance (by decide +kernel) (pa_cons (pv 0) (pa_cons (pe_bltn (v := .ty "list") (u := .type "list") (by rfl) T.mlist (by decide +kernel) rfl) pa_nil))))) (pw_or1 (pt_not (pt_chain op_le op_le pe_int (pe_callB call_len_seq (by rfl) T.mlen PySem.boot_len (pa_cons (pv 0) pa_nil)) (pe_glob (v := .int 10) (by rfl) mMOST_BOATS ⟨_, rfl⟩))))))
      (pss_one (ps_ret pe_bl))
      pss_nil)
      (pss_cons (ps_if (pt_not (pt_val (pe_callB (cr_all rfl) (by rfl) T.mall (by decide +kernel) (pa_cons (pe_lc (own := [("boat", 2)]) (g := gName 2) (tt := tYes) rfl scAreB.nd (pi_list (pv 0)) (blkOk_by (N := NAreB) (own := [("boat", 2)]) (sc := defScope sAreB) (by decide +kernel)) (fun _ _ _ _ _ => pg_name (i := 2) scAreB.nd rfl (Or.inl rfl)) (fun _ _ _ _ _ => pts_nil) (fun _ _ _ _ _ => (pe_callB (r := rIsi K) call_isi (by rfl) T.misinstance (by decide +kernel) (pa_cons (pv 2) (pa_cons (pe_glob (v := .ref C) (by rfl) gC rfl) pa_nil))))) pa_nil))))
      (pss_one (ps_ret pe_bl))
      pss_nil)
      (pss_cut (ps_set (i := 1) scAreB.nd rfl (.inr rfl) (pe_lc (own := [("boat", 2)]) (g := gName 2) (tt := tYes) rfl scAreB.nd (pi_list (pv 0)) (blkOk_by (N := NAreB) (own := [("boat", 2)]) (sc := defScope sAreB) (by decide +kernel)) (fun _ _ _ _ _ => pg_name (i := 2) scAreB.nd rfl (Or.inl rfl)) (fun _ _ _ _ _ => pts_nil) (fun _ _ _ _ _ => (show PE _ _ (tFld K (tVar 2) "name") from pe_fld (pv 2) rfl))))
      (pss_one (ps_ret (pe_callB (cr_all rfl) (by rfl) T.mall (by decide +kernel) (pa_cons (pe_lc (own := [("name", 3)]) (g := gName 3) (tt := tYes) rfl scAreB.nd (pi_list (pv 1)) (blkOk_by (N := NAreB) (own := [("name", 3)]) (sc := defScope sAreB) (by decide +kernel)) (fun _ _ _ _ _ => pg_name (i := 3) scAreB.nd rfl (Or.inl rfl)) (fun _ _ _ _ _ => pts_nil) (fun _ _ _ _ _ => (pe_cmpR op_eq (show PE _ _ (tBM K "list" rCntTx (tVar 1) (tCons (tVar 3) tNil)) from pe_bm PySem.F.plainAttrs_list PySem.F.slot_list_count PySem.F.type_list_count mt_countTx (pv 1) (pa_cons (pv 3) pa_nil)) pe_int (nomark _)))) pa_nil)))))))
      , ?_⟩
    refine ⟨_, rfl, _, _, _, _, true, rfl, .ty "list", .base (.lst hl), kit_ty (by decide +kernel), _, rfl, iteF ?_⟩
    refine ⟨_, rfl, l, _, rfl, .inl (SqL.of hl), _, _, rfl, rfl, _, rfl, ite2 (fun _ => ?_) (fun c => absurd (decide_eq_true (show (1 : Int) ≤ bs.length by omega)) c)⟩
    refine ⟨_, _, rfl, rfl, _, rfl, ite2 (fun c => absurd c (by rw [decide_eq_true (show (bs.length : Int) ≤ 10 by omega)]; intro z; cases z)) (fun _ => ?_)⟩
    -- all are Boats
    refine ⟨_, rfl, l, rfl, ⟨_, SqL.of hl⟩, fun D hD => ?_⟩
    refine lc_list (K := K) (a := l) (xs := bs) (fun i H' => H' D = some (.lst ((List.replicate i true).map V.bl)) ∧ Same H H')
      ⟨upd_same, same_upd hD⟩ (fun i H' _ ⟨_, z⟩ => SqL.of (z _ _ hl)) ?_ ?_
    · rintro i y H' hy ⟨eD, si⟩
      obtain ⟨a, r, rfl, hr2, ha⟩ := hb.at hy
      have hi : i < bs.length := (List.getElem?_eq_some_iff.mp hy).1
      obtain ⟨dx, ea⟩ := ha
      refine ⟨rfl, _, rfl, _, _, _, _, true, rfl, .own C, isBoat TB ⟨dx, si _ _ ea⟩, kitC, _, eD, ?_, ?_, fun z o e => by rw [upd_ne (ne_of_none e hD)]; exact si _ _ e⟩
      · rw [List.length_map, List.length_replicate]; exact Nat.lt_of_lt_of_le (show i < 100 by omega) (small_line (by decide))
      · rw [upd_same, List.replicate_succ', List.map_append]; rfl
    rintro H1 ⟨eD, s1⟩
    refine ⟨D, _, rfl, SqL.of eD, _, rfl, ?_⟩
    rw [show (List.replicate bs.length true).all id = true by simp]
    refine iteF ?_
    -- names
    refine ⟨fun σ H2 => ∃ (np : Addr), σ = [some (.ref l), some (.ref np), none, none] ∧ H2 np = some (.lst ((rows.map Prod.fst).map V.str)) ∧ Same H H2, ?_, ?_⟩
    · refine ⟨_, rfl, l, rfl, ⟨_, SqL.of (s1 _ _ hl)⟩, fun D2 hD2 => ?_⟩
      refine lc_list (K := K) (a := l) (xs := bs) (fun i H' => H' D2 = some (.lst (((rows.take i).map Prod.fst).map V.str)) ∧ Same H1 H')
        ⟨upd_same, same_upd hD2⟩ (fun i H' _ ⟨_, z⟩ => SqL.of (z _ _ (s1 _ _ hl))) ?_ ?_
      · rintro i y H' hy ⟨eD2, si⟩
        obtain ⟨a, r, rfl, hr2, ⟨dx, ea⟩⟩ := hb.at hy
        have hi : i < bs.length := (List.getElem?_eq_some_iff.mp hy).1
        refine ⟨rfl, _, rfl, a, C, dx, _, _, rfl, si _ _ (s1 _ _ ea), TB.cl, TB.nN, boatF_name _ _, _, eD2, ?_, ?_, fun z o e => by rw [upd_ne (ne_of_none e hD2)]; exact si _ _ e⟩
        · rw [List.length_map, List.length_map, List.length_take]; exact Nat.lt_of_lt_of_le (show _ < 100 by omega) (small_line (by decide))
        · rw [upd_same, List.take_succ, hr2]; simp
      · rintro H' ⟨eD2, si⟩
        rw [hbl, List.take_length] at eD2
        exact ⟨D2, rfl, eD2, s1.trans si⟩
    rintro σ H2 ⟨np, rfl, en, s2⟩
    have lnm : (rows.map Prod.fst).length = rows.length := List.length_map ..
    refine ⟨_, rfl, np, rfl, ⟨_, SqL.of en⟩, fun D3 hD3 => ?_⟩
    refine lc_list (K := K) (a := np) (xs := (rows.map Prod.fst).map V.str) (fun i H' => H' D3 = some (.lst ((((rows.map Prod.fst).take i).map fun z => decide ((((rows.map Prod.fst).count z : Nat) : Int) = 1)).map V.bl)) ∧ Same H2 H')
      ⟨upd_same, same_upd hD3⟩ (fun i H' _ ⟨_, z⟩ => SqL.of (z _ _ en)) ?_ ?_
    · rintro i y H' hy ⟨eD3, si⟩
      rw [List.getElem?_map] at hy
      cases hx : (rows.map Prod.fst)[i]? with
      | none => rw [hx] at hy; cases hy
      | some z =>
        rw [hx] at hy
        cases hy
        have hi : i < (rows.map Prod.fst).length := (List.getElem?_eq_some_iff.mp hx).1
        refine ⟨rfl, _, rfl, .inl ⟨rfl, _, SqL.of (si _ _ en)⟩, _, rfl, np, rows.map Prod.fst, z, rfl, rfl, si _ _ en, ?_⟩
        rw [cnt_all]
        refine ⟨rfl, _, eD3, ?_, ?_, fun z o e => by rw [upd_ne (ne_of_none e hD3)]; exact si _ _ e⟩
        · rw [List.length_map, List.length_map, List.length_take]; exact Nat.lt_of_lt_of_le (show _ < 100 by omega) (small_line (by decide))
        · have ez : decide (V.int (((rows.map Prod.fst).count z : Nat) : Int) = V.int 1) = decide ((((rows.map Prod.fst).count z : Nat) : Int) = 1) := decide_eq_decide.mpr ⟨fun e => V.int.inj e, fun e => congrArg V.int e⟩
          rw [upd_same, List.take_succ, hx, ez]; simp
    rintro H3 ⟨eD3, s3⟩
    rw [List.length_map, List.take_length] at eD3
    refine ⟨D3, _, rfl, SqL.of eD3, ?_⟩
    have e : ((rows.map Prod.fst).map fun z => decide ((((rows.map Prod.fst).count z : Nat) : Int) = 1)).all id = decide (rows.map Prod.fst).Nodup := by
      rw [Bool.eq_iff_iff, List.all_map, List.all_eq_true, decide_eq_true_eq, ← nodup_count]
      constructor
      · intro h z hz
        exact of_decide_eq_true (h z hz)
      · intro h z hz
        exact decide_eq_true (h z hz)
    rw [e]
    exact q _ (s2.trans s3)
theorem ok_ares {f fW : Addr} {fd fdW : FuncData} {k : Nat} (F : Fun K "_are_spans" "_are_spans" sAreS f fd) (T : TxtB mg) (Fis_whole : Fun K "is_whole" "is_whole" sIsW fW fdW) (gis_whole : mg "is_whole" = some (.ref fW)) (bis_whole : Binds K fdW ["thing", "least", "most"] []) :
    FnOk P w K mg base CX0 (k + 2) f fd ["thing"] spAreS := by
  have Gis_whole : FnOk P w K mg base CX0 (k + 1) fW fdW ["thing", "least", "most"] (spIsW K) := ok_isw Fis_whole T
  refine F.ok scAreS (fun vs H Q E h => ?_) (fun cdv A outer s H vs Q E hr h => ?_)
  · obtain ⟨l, ns, rfl, _⟩ := h
    rfl
  · obtain ⟨l, ns, rfl, hl, hlen, q⟩ := h
    obtain ⟨t1, mMOST_BORNE⟩ := T.mMO
    have hris_whole := hr
    refine ⟨_,
      (pss_one (ps_ret (pe_and (pe_callB call_isi (by rfl) T.misinstance (by decide +kernel) (pa_cons (pv 0) (pa_cons (pe_bltn (v := .ty "list") (u := .type "list") (by rfl) T.mlist (by decide +kernel) rfl) pa_nil))) (pe_one (pe_callB (cr_all rfl) (by rfl) T.mall (by decide +kernel) (pa_cons (pe_lc (own := [("span", 1)]) (g := gName 1) (tt := tYes) rfl scAreS.nd (pi_list (pv 0)) (blkOk_by (N := NAreS) (own := [("span", 1)]) (sc := defScope sAreS) (by decide +kernel)) (fun _ _ _ _ _ => pg_name (i := 1) scAreS.nd rfl (Or.inl rfl)) (fun _ _ _ _ _ => pts_nil) (fun _ _ _ _ _ => (pe_call Gis_whole hris_whole (by rfl) gis_whole Fis_whole.kp bis_whole .nil pass0 (pa_cons (pv 1) (pa_cons pe_int (pa_cons (pe_glob (v := .int 1000000) (by rfl) mMOST_BORNE ⟨_, rfl⟩) pa_nil)))))) pa_nil))))))
      , ?_⟩
    refine ⟨_, rfl, _, _, _, _, true, rfl, .ty "list", .base (.lst hl), kit_ty (by decide +kernel), _, rfl, ?_⟩
    refine ⟨_, rfl, l, rfl, ⟨_, SqL.of hl⟩, fun D hD => ?_⟩
    refine lc_list (K := K) (a := l) (xs := ns.map V.int) (fun i H' => H' D = some (.lst (((ns.take i).map fun z => decide (1 ≤ z) && decide (z ≤ 1000000)).map V.bl)) ∧ Same H H')
      ⟨upd_same, same_upd hD⟩ (fun i H' _ ⟨_, z⟩ => SqL.of (z _ _ hl)) ?_ ?_
    · rintro i y H' hy ⟨eD, si⟩
      rw [List.getElem?_map] at hy
      cases hx : ns[i]? with
      | none => rw [hx] at hy; cases hy
      | some z =>
        rw [hx] at hy
        cases hy
        have hi : i < ns.length := (List.getElem?_eq_some_iff.mp hx).1
        refine ⟨rfl, _, rfl, .int z, 1, 1000000, rfl, .inl ⟨z, rfl, _, eD, ?_, ?_, fun z o e => by rw [upd_ne (ne_of_none e hD)]; exact si _ _ e⟩⟩
        · rw [List.length_map, List.length_map, List.length_take]; exact Nat.lt_of_lt_of_le (show _ < 2000 by omega) (Nat.le_trans (show 2000 ≤ 100000 by decide) (by decide))
        · rw [upd_same, List.take_succ, hx]; simp
    rintro H1 ⟨eD, s1⟩
    rw [List.length_map, List.take_length] at eD
    refine ⟨D, _, rfl, SqL.of eD, ?_⟩
    rw [List.all_map]
    exact q _ s1
theorem ok_brinit {f fB fS fW : Addr} {fd fdB fdS fdW : FuncData} {k : Nat} (F : Fun K "__init__" "Bridge.__init__" sBrInit f fd) (T : TxtB mg) (TB : BCl K mg C) (TC : BrCl K mg CB)
    (F_are_boats : Fun K "_are_boats" "_are_boats" sAreB fB fdB) (g_are_boats : mg "_are_boats" = some (.ref fB)) (b_are_boats : Binds K fdB ["thing"] [])
    (F_are_spans : Fun K "_are_spans" "_are_spans" sAreS fS fdS) (g_are_spans : mg "_are_spans" = some (.ref fS)) (b_are_spans : Binds K fdS ["thing"] [])
    (Fis_whole : Fun K "is_whole" "is_whole" sIsW fW fdW) (gis_whole : mg "is_whole" = some (.ref fW)) (bis_whole : Binds K fdW ["thing", "least", "most"] []) :
    FnOk P w K mg base CX0 (k + 3) f fd ["self", "boats", "spans"] (spBrInit C CB) := by
  have G_are_boats : FnOk P w K mg base CX0 (k + 2) fB fdB ["thing"] (spAreB C) := ok_areb F_are_boats T TB
  have G_are_spans : FnOk P w K mg base CX0 (k + 2) fS fdS ["thing"] spAreS := ok_ares F_are_spans T Fis_whole gis_whole bis_whole
  refine F.ok scBrInit (fun vs H Q E h => ?_) (fun cdv A outer s H vs Q E hr h => ?_)
  · obtain ⟨p, dx, l, s, bs, rows, spans, rfl, _⟩ := h
    rfl
  · obtain ⟨p, dx, l, sp, bs, rows, spans, rfl, hp, hl, hb, hs, hg, q⟩ := h
    have hr_are_boats := hr
    have hr_are_spans := hr
    have hbl := hb.len
    refine ⟨_, PSs.nox (
      (pss_cons (ps_if (PW.pt (pw_or (pt_not (pt_val (pe_call G_are_boats hr_are_boats (by rfl) g_are_boats F_are_boats.kp b_are_boats .nil pass0 (pa_cons (pv 1) pa_nil)))) (pw_or (pt_not (pt_val (pe_call G_are_spans hr_are_spans (by rfl) g_are_spans F_are_spans.kp b_are_spans .nil pass0 (pa_cons (pv 2) pa_nil)))) (pw_or1 (pt_cmpR op_ne (pe_callB call_len_seq (by rfl) T.mlen PySem.boot_len (pa_cons (pv 2) pa_nil)) (pe_op op_add (pe_callB call_len_seq (by rfl) T.mlen PySem.boot_len (pa_cons (pv 1) pa_nil)) pe_int) (nomark _))))))
      (pss_one ps_never)
      pss_nil)
      (pss_cons (ps_fld (pv 0) (pe_callTy call_list_of (by rfl) T.mlist (by decide +kernel) (pa_cons (pv 1) pa_nil)) rfl)
      (pss_one (ps_fld (pv 0) (pe_callTy call_list_of (by rfl) T.mlist (by decide +kernel) (pa_cons (pv 2) pa_nil)) rfl))))
      ), ?_⟩
    refine ⟨_, rfl, l, bs, rows, rfl, hl, hb, hg.l0, hg.l1, fun H1 s1 => ⟨_, rfl, ?_⟩⟩
    rw [decide_eq_true hg.nd]
    refine iteF ⟨_, rfl, sp, spans, rfl, s1 _ _ hs, by rw [hg.sl]; have := hg.l1; omega, fun H2 s2 => ⟨_, rfl, ?_⟩⟩
    rw [show (spans.all fun z => decide (1 ≤ z) && decide (z ≤ 1000000)) = true from List.all_eq_true.mpr fun z hz => by rw [decide_eq_true (hg.sb z hz).1, decide_eq_true (hg.sb z hz).2]; rfl]
    have s12 := s1.trans s2
    refine iteF ⟨_, rfl, sp, _, rfl, .inl (SqL.of (s12 _ _ hs)), _, rfl, l, _, rfl, .inl (SqL.of (s12 _ _ hl)), _, _, rfl, rfl, rfl, _, rfl, ?_⟩
    have e0 : (!decide (V.int (((spans.map V.int).length : Nat) : Int) = V.int (((bs.length : Nat) : Int) + 1))) = false := by
      rw [decide_eq_true (congrArg V.int (show (((spans.map V.int).length : Nat) : Int) = ((bs.length : Nat) : Int) + 1 by rw [List.length_map, hg.sl, hbl]; rfl))]
      rfl
    rw [e0]
    refine iteF ?_
    have hp2 := s12 _ _ hp
    refine ⟨_, rfl, l, _, rfl, .inl (SqL.of (s12 _ _ hl)), fun bl hbl0 => ?_⟩
    have nbp : p ≠ bl := ne_of_none hp2 hbl0
    have sb := same_upd (o := .lst bs) hbl0
    refine ⟨_, rfl, p, CB, dx, _, rfl, sb _ _ hp2, TC.cl, TC.nB, (by show 0 < 1000; decide), ?_⟩
    have nsp : sp ≠ p := ne_of (s12 _ _ hs) hp2 (by intro z; cases z)
    have hs2 : (upd (upd H2 bl (.lst bs)) p (.ins CB dx (putF "_boats" (.ref bl) []))) sp = some (.lst (spans.map V.int)) := by rw [upd_ne nsp]; exact sb _ _ (s12 _ _ hs)
    refine ⟨_, rfl, sp, _, rfl, .inl (SqL.of hs2), fun sl hsl0 => ?_⟩
    have nsl : sl ≠ p := fun e => by rw [e, upd_same] at hsl0; cases hsl0
    have hsl1 : (upd H2 bl (.lst bs)) sl = none := by rw [upd_ne nsl] at hsl0; exact hsl0
    have nslbl : sl ≠ bl := fun e => by rw [e, upd_same] at hsl1; cases hsl1
    have hsl2 : H2 sl = none := by rw [upd_ne nslbl] at hsl1; exact hsl1
    refine ⟨_, rfl, p, CB, dx, _, rfl, by rw [upd_ne nsl.symm]; exact upd_same, TC.cl, TC.nS, (by show 1 < 1000; decide), ?_⟩
    have back : ∀ x, H2 x = none → H x = none := fun x e => by
      cases z : H x with
      | none => rfl
      | some o => rw [s12 _ _ z] at e; cases e
    have keep : ∀ x o, x ≠ p → H2 x = some o → (upd (upd (upd (upd H2 bl (.lst bs)) p (.ins CB dx (putF "_boats" (.ref bl) []))) sl (.lst (spans.map V.int))) p (.ins CB dx (putF "_spans" (.ref sl) (putF "_boats" (.ref bl) [])))) x = some o := fun x o n e => by
      rw [upd_ne n, upd_ne (ne_of_none e hsl2), upd_ne n, upd_ne (ne_of_none e hbl0)]; exact e
    refine q bl sl _ (back _ hbl0) (back _ hsl2) ⟨⟨dx, bs, upd_same, ?_, ?_⟩, ?_⟩ (fun x o n e => keep x o n (s12 _ _ e))
    · rw [upd_ne nbp.symm, upd_ne nslbl.symm, upd_ne nbp.symm]; exact upd_same
    · refine (hb.same s12).mono fun a dx' n b e => ?_
      by_cases ea : a = p
      · rw [ea, hp2] at e
        cases e
      · exact keep a _ ea e
    · rw [upd_ne nsl, upd_same]
theorem ok_brboats {f : Addr} {fd : FuncData} {k : Nat} (F : Fun K "boats" "Bridge.boats" sBrBoats f fd) (T : TxtB mg) (TC : BrCl K mg CB) : FnOk P w K mg base CX0 (k + 1) f fd ["self"] (spBrBoats C CB) := by
  refine F.ok scBrBoats (fun vs H Q E h => ?_) (fun cdv A outer s H vs Q E hr h => ?_)
  · obtain ⟨p, bl, sl, rows, spans, rfl, _⟩ := h
    rfl
  · obtain ⟨p, bl, sl, rows, spans, rfl, hp, q⟩ := h
    obtain ⟨dx, bs, e1, e2, e3⟩ := hp.ex
    refine ⟨_,
      (pss_one (ps_ret (pe_callTy call_list_of (by rfl) T.mlist (by decide +kernel) (pa_cons (pe_fld (pv 0) rfl) pa_nil))))
      , ?_⟩
    exact ⟨_, rfl, p, CB, dx, _, _, rfl, e1, TC.cl, TC.nB, brF_boats bl sl, bl, _, rfl, .inl (SqL.of e2), fun l hl => q l bs _ (same_upd hl) hl upd_same (e3.same (same_upd hl))⟩
theorem ok_brspans {f : Addr} {fd : FuncData} {k : Nat} (F : Fun K "spans" "Bridge.spans" sBrSpans f fd) (T : TxtB mg) (TC : BrCl K mg CB) : FnOk P w K mg base CX0 (k + 1) f fd ["self"] (spBrSpans C CB) := by
  refine F.ok scBrSpans (fun vs H Q E h => ?_) (fun cdv A outer s H vs Q E hr h => ?_)
  · obtain ⟨p, bl, sl, rows, spans, rfl, _⟩ := h
    rfl
  · obtain ⟨p, bl, sl, rows, spans, rfl, hp, q⟩ := h
    obtain ⟨dx, bs, e1, e2, e3⟩ := hp.ex
    refine ⟨_,
      (pss_one (ps_ret (pe_callTy call_list_of (by rfl) T.mlist (by decide +kernel) (pa_cons (pe_fld (pv 0) rfl) pa_nil))))
      , ?_⟩
    exact ⟨_, rfl, p, CB, dx, _, _, rfl, e1, TC.cl, TC.nS, brF_spans bl sl, sl, _, rfl, .inl (SqL.of hp.sp), fun l hl => q l _ (same_upd hl) hl upd_same⟩
theorem ok_brlen {f : Addr} {fd : FuncData} {k : Nat} (F : Fun K "__len__" "Bridge.__len__" sBrLen f fd) (T : TxtB mg) (TC : BrCl K mg CB) : FnOk P w K mg base CX0 (k + 1) f fd ["self"] (spBrLen C CB) := by
  refine F.ok scBrLen (fun vs H Q E h => ?_) (fun cdv A outer s H vs Q E hr h => ?_)
  · obtain ⟨p, bl, sl, rows, spans, rfl, _⟩ := h
    rfl
  · obtain ⟨p, bl, sl, rows, spans, rfl, hp, q⟩ := h
    obtain ⟨dx, bs, e1, e2, e3⟩ := hp.ex
    refine ⟨_,
      (pss_one (ps_ret (pe_callB call_len_seq (by rfl) T.mlen PySem.boot_len (pa_cons (pe_fld (pv 0) rfl) pa_nil))))
      , ?_⟩
    refine ⟨_, rfl, p, CB, dx, _, _, rfl, e1, TC.cl, TC.nB, brF_boats bl sl, bl, _, rfl, .inl (SqL.of e2), ?_⟩
    rw [e3.len]
    exact q
end
/-! ### texts of small letters -/
theorem emp (x : Str) : Str.empty ++ x = x := ext_tl (by show (Str.empty ++ x).cps.toList = _; rw [Str.cps_append]; simp [Str.empty])
theorem tl_app (x y : Str) : tl (x ++ y) = tl x ++ tl y := by unfold tl; rw [Str.cps_append]; simp
/-- texts of at most m small letters -/
def LowN (m : Nat) (z : Str) : Prop := z.length ≤ m ∧ ∀ c ∈ tl z, 97 ≤ c ∧ c ≤ 122
theorem tl_cut (z : Str) (lo hi : Option Int) : tl (cutS z lo hi) = ((tl z).drop (HT.sIx z.length 0 lo)).take (HT.sIx z.length z.length hi - HT.sIx z.length 0 lo) := by
  unfold tl cutS; simp
theorem cut_low {m : Nat} {z : Str} {lo hi : Option Int} (h : LowN m z) : LowN m (cutS z lo hi) := by
  refine ⟨?_, fun c hc => ?_⟩
  · have := TL.len_tl (cutS z lo hi)
    have h2 := TL.len_tl z
    rw [this, tl_cut, List.length_take, List.length_drop]
    have := h.1
    omega
  · rw [tl_cut] at hc
    exact h.2 c (List.mem_of_mem_drop (List.mem_of_mem_take hc))
theorem app_low {m k : Nat} {y z : Str} (h : LowN m y) (h2 : LowN k z) : LowN (m + k) (y ++ z) := by
  refine ⟨by rw [Str.length_append]; exact Nat.add_le_add h.1 h2.1, fun c hc => ?_⟩
  rw [tl_app] at hc
  rcases List.mem_append.mp hc with hc | hc
  · exact h.2 c hc
  · exact h2.2 c hc
theorem one_low {c : Nat} (h : 97 ≤ c ∧ c ≤ 122) : LowN 1 ⟨#[c]⟩ := ⟨Nat.le_refl _, fun d hd => by
  have : d = c := by simpa [tl] using hd
  rw [this]; exact h⟩
theorem join_low : ∀ ys : List Str, (∀ y ∈ ys, LowN 1 y ∧ y.length = 1) → (TL.joinL [] (ys.map tl)).length = ys.length ∧ ∀ c ∈ TL.joinL [] (ys.map tl), 97 ≤ c ∧ c ≤ 122
  | [], _ => ⟨rfl, fun c hc => by cases hc⟩
  | [y], h => by
    have hy := h y List.mem_cons_self
    exact ⟨by show (tl y).length = 1; rw [← TL.len_tl]; exact hy.2, hy.1.2⟩
  | y :: z :: r, h => by
    have hy := h y List.mem_cons_self
    obtain ⟨i1, i2⟩ := join_low (z :: r) fun w hw => h w (List.mem_cons_of_mem _ hw)
    refine ⟨?_, fun c hc => ?_⟩
    · show (tl y ++ ([] ++ TL.joinL [] ((z :: r).map tl))).length = (z :: r).length + 1
      rw [List.length_append, List.nil_append, i1, ← TL.len_tl, hy.2]
      omega
    · have hc' : c ∈ tl y ++ ([] ++ TL.joinL [] ((z :: r).map tl)) := hc
      rw [List.nil_append] at hc'
      rcases List.mem_append.mp hc' with hc' | hc'
      · exact hy.1.2 c hc'
      · exact i2 c hc'
theorem base_low {ys : List Str} (h : ∀ y ∈ ys, LowN 1 y ∧ y.length = 1) : LowN ys.length (Txt.join Str.empty ys) ∧ (Txt.join Str.empty ys).length = ys.length := by
  obtain ⟨a, b⟩ := join_low ys h
  have e : tl (Txt.join Str.empty ys) = TL.joinL [] (ys.map tl) := by rw [TL.join_eq, TL.tl_join]; rfl
  have l : (Txt.join Str.empty ys).length = ys.length := by rw [TL.len_tl, e, a]
  exact ⟨⟨Nat.le_of_eq l, fun c hc => b c (by rw [← e]; exact hc)⟩, l⟩
theorem letter : ∀ j : Nat, j < 26 → ∃ c, (tl "abcdefghijklmnopqrstuvwxyz")[j]? = some c ∧ 97 ≤ c ∧ c ≤ 122 := by
  have : ∀ j : Nat, j < 26 → (tl "abcdefghijklmnopqrstuvwxyz")[j]? = some (97 + j) := by decide +kernel
  intro j h
  exact ⟨_, this j h, by omega, by omega⟩
def words : List Str := ["near", "far", "water", "ice", "both", "days", "out", "down", "a", "ab", "abcdefgh", "on"]
theorem words_low : ∀ z ∈ words, LowN 8 z := by
  have : words.all (fun z => decide (z.length ≤ 8) && (tl z).all fun c => decide (97 ≤ c) && decide (c ≤ 122)) = true := by decide +kernel
  intro z hz
  have h := List.all_eq_true.mp this z hz
  rw [Bool.and_eq_true, decide_eq_true_eq, List.all_eq_true] at h
  refine ⟨h.1, fun c hc => ?_⟩
  have := h.2 c hc
  rw [Bool.and_eq_true, decide_eq_true_eq, decide_eq_true_eq] at this
  exact this

theorem words_pos : ∀ z ∈ words, 1 ≤ z.length := by
  have : words.all (fun z => decide (1 ≤ z.length)) = true := by decide +kernel
  intro z hz
  exact of_decide_eq_true (List.all_eq_true.mp this z hz)
theorem LowN.mono {m k : Nat} {z : Str} (h : LowN m z) (l : m ≤ k) : LowN k z := ⟨Nat.le_trans h.1 l, h.2⟩
theorem letter_at {j : Nat} (h : j < 26) : (tl "abcdefghijklmnopqrstuvwxyz")[j]? = some (97 + j) := by
  have : ∀ j : Nat, j < 26 → (tl "abcdefghijklmnopqrstuvwxyz")[j]? = some (97 + j) := by decide +kernel
  exact this j h
def steps : List Int := [1, 3, 5, 7, 9, 11, 15, 17, 19, 21, 23, 25]
theorem steps_pos {st : Int} (h : st ∈ steps) : 0 < st ∧ st < 100 := by
  have : ∀ st ∈ steps, 0 < st ∧ st < 100 := by decide
  exact this st h
theorem steps_apart {st : Int} (h : st ∈ steps) {f i j : Nat} (hi : i < 10) (hj : j < 10) (n : i ≠ j) (e : ((f : Int) + st * (i : Int)).toNat % 26 = ((f : Int) + st * (j : Int)).toNat % 26) : False := by
  unfold steps at h
  simp only [List.mem_cons, List.not_mem_nil, or_false] at h
  rcases h with rfl | rfl | rfl | rfl | rfl | rfl | rfl | rfl | rfl | rfl | rfl | rfl <;> omega
theorem cut_before_len {z : Str} {t : Nat} (h : t < z.length) : (tl (cutS z none (some (t : Int)))).length = t := by
  have lz := TL.len_tl z
  rw [tl_cut, HT.sIx_none, show HT.sIx z.length z.length (some (t : Int)) = min t z.length from HT.sIx_nat z.length _ t, List.length_take, List.length_drop]
  omega
theorem cut_before {m : Nat} {z : Str} {t : Nat} (h : LowN m z) (ht : t < z.length) : LowN t (cutS z none (some (t : Int))) :=
  ⟨by rw [TL.len_tl]; exact Nat.le_of_eq (cut_before_len ht), (cut_low h).2⟩
theorem cut_after {m : Nat} {z : Str} {t : Nat} (h : LowN m z) (ht : t < z.length) : LowN (z.length - (t + 1)) (cutS z (some ((t : Int) + 1)) none) := by
  refine ⟨?_, (cut_low h).2⟩
  have lz := TL.len_tl z
  rw [TL.len_tl, tl_cut, HT.sIx_none, show HT.sIx z.length 0 (some ((t : Int) + 1)) = min (t + 1) z.length from HT.sIx_nat z.length _ (t + 1), List.length_take, List.length_drop]
  omega
theorem cut_from {xs : List V} {t : Nat} (h : t ≤ xs.length) : cutV xs (some (t : Int)) none = xs.drop t := by
  unfold cutV
  rw [show HT.sIx xs.length 0 (some (t : Int)) = min t xs.length from HT.sIx_nat xs.length 0 t, HT.sIx_none, Nat.min_eq_left h]
  exact List.take_of_length_le (by rw [List.length_drop]; exact Nat.le_refl _)
theorem cut_to {xs : List V} {t : Nat} (h : t ≤ xs.length) : cutV xs none (some (t : Int)) = xs.take t := by
  unfold cutV
  rw [HT.sIx_none, show HT.sIx xs.length xs.length (some (t : Int)) = min t xs.length from HT.sIx_nat xs.length _ t, Nat.min_eq_left h]
  show (xs.drop 0).take (t - 0) = _
  rw [Nat.sub_zero]; rfl
def spNames : Sp := fun vs H Q _ => ∃ (T c : Addr) (m n : Nat), vs = [.ref T, .int (m : Int)] ∧ 1 ≤ m ∧ m ≤ 10 ∧ n < 900000 ∧ Tape H T c n ∧
  ∀ (p : Addr) (zs : List Str) H', zs.length = m → (∀ z ∈ zs, LowN 8 z ∧ 1 ≤ z.length) → zs.Nodup → H' p = some (.lst (zs.map V.str)) → p ≠ T → Tape H' T c (n + 40) → Keep T H H' → Q (.ref p) H'
structure TxtN (mg : Str → Option Value) : Prop where
  mlen : mg "len" = none
  mrange : mg "range" = none
section
variable {P : Program} {w : World} {K : PySem.W.Frag} {mg : Str → Option Value} {base : Heap} {C : Addr}
theorem ok_names {f fD : Addr} {fd fdD : FuncData} {k : Nat} (F : Fun K "_law_names" "_law_names" sNames f fd) (T0 : Txt0 mg) (T : TxtN mg)
    (F_law_draw : Fun K "_law_draw" "_law_draw" sDraw fD fdD) (g_law_draw : mg "_law_draw" = some (.ref fD)) (b_law_draw : Binds K fdD ["_law_tape_here", "_law_many"] []) :
    FnOk P w K mg base CX0 (k + 2) f fd ["_law_tape_here", "_law_many"] spNames := by
  have G_law_draw : FnOk P w K mg base CX0 (k + 1) fD fdD ["_law_tape_here", "_law_many"] spDraw := ok_draw F_law_draw T0
  refine F.ok scNames (fun vs H Q E h => ?_) (fun cdv A outer s H vs Q E hr h => ?_)
  · obtain ⟨a, c, m, n, rfl, _⟩ := h
    rfl
  · obtain ⟨a, c, m, n, rfl, hm1, hm10, hn, hT, q⟩ := h
    have hr_law_draw := hr
    refine ⟨_,
      (pss_cons (ps_set (i := 2) scNames.nd rfl (.inr rfl) pe_str)
      (pss_cons (ps_set (i := 3) scNames.nd rfl (.inl rfl) (pe_call G_law_draw hr_law_draw (by rfl) g_law_draw F_law_draw.kp b_law_draw .nil pass0 (pa_cons (pv 0) (pa_cons pe_int pa_nil))))
      (pss_cons (ps_if (pt_cmpR op_eq (pe_call G_law_draw hr_law_draw (by rfl) g_law_draw F_law_draw.kp b_law_draw .nil pass0 (pa_cons (pv 0) (pa_cons pe_int pa_nil))) pe_int (nomark _))
      (pss_cons (ps_set (i := 4) scNames.nd rfl (.inl rfl) (pe_lst (pa_cons pe_str (pa_cons pe_str (pa_cons pe_str (pa_cons pe_str (pa_cons pe_str (pa_cons pe_str (pa_cons pe_str (pa_cons pe_str (pa_cons pe_str (pa_cons pe_str (pa_cons pe_str (pa_cons pe_str pa_nil))))))))))))))
      (pss_one (ps_ret (pe_slice sl_list (pe_op op_cat (pe_slice sl_list (pv 4) (po_some (pv 3)) po_none) (pe_slice sl_list (pv 4) po_none (po_some (pv 3)))) po_none (po_some (pv 1))))))
      pss_nil)
      (pss_cut (ps_set (i := 5) scNames.nd rfl (.inr rfl) (pe_join pe_str (pe_lc (own := [("_law_k", 10)]) (g := gName 10) (tt := tYes) rfl scNames.nd (pi_range1 (by rfl) T.mrange (pa_cons (pe_op op_add pe_int (pe_call G_law_draw hr_law_draw (by rfl) g_law_draw F_law_draw.kp b_law_draw .nil pass0 (pa_cons (pv 0) (pa_cons pe_int pa_nil)))) pa_nil)) (blkOk_by (N := NNames) (own := [("_law_k", 10)]) (sc := defScope sNames) (by decide +kernel)) (fun _ _ _ _ _ => pg_name (i := 10) scNames.nd rfl (Or.inl rfl)) (fun _ _ _ _ _ => pts_nil) (fun _ _ _ _ _ => (pe_ix ix_str (pv 2) (pe_call G_law_draw hr_law_draw (by rfl) g_law_draw F_law_draw.kp b_law_draw .nil pass0 (pa_cons (pv 0) (pa_cons pe_int pa_nil))) (fun _ _ => rfl))))))
      (pss_cut (ps_asg (pe_tup (pa_cons (pe_call G_law_draw hr_law_draw (by rfl) g_law_draw F_law_draw.kp b_law_draw .nil pass0 (pa_cons (pv 0) (pa_cons (pe_callB call_len_str (by rfl) T.mlen PySem.boot_len (pa_cons (pv 5) pa_nil)) pa_nil))) (pa_cons (pe_call G_law_draw hr_law_draw (by rfl) g_law_draw F_law_draw.kp b_law_draw .nil pass0 (pa_cons (pv 0) (pa_cons pe_int pa_nil))) pa_nil))) (pg_tup rfl (pgs_cons (pg_name (i := 6) scNames.nd rfl (.inr rfl)) (pgs_cons (pg_name (i := 7) scNames.nd rfl (.inr rfl)) pgs_nil))))
      (pss_cut (ps_set (i := 8) scNames.nd rfl (.inr rfl) (pe_ix ix_list (pe_lst (pa_cons pe_int (pa_cons pe_int (pa_cons pe_int (pa_cons pe_int (pa_cons pe_int (pa_cons pe_int (pa_cons pe_int (pa_cons pe_int (pa_cons pe_int (pa_cons pe_int (pa_cons pe_int (pa_cons pe_int pa_nil))))))))))))) (pv 3) (fun _ _ => rfl)))
      (pss_cut (ps_set (i := 9) scNames.nd rfl (.inr rfl) (pe_lc (own := [("_law_k", 10)]) (g := gName 10) (tt := tYes) rfl scNames.nd (pi_range1 (by rfl) T.mrange (pa_cons (pv 1) pa_nil)) (blkOk_by (N := NNames) (own := [("_law_k", 10)]) (sc := defScope sNames) (by decide +kernel)) (fun _ _ _ _ _ => pg_name (i := 10) scNames.nd rfl (Or.inl rfl)) (fun _ _ _ _ _ => pts_nil) (fun _ _ _ _ _ => (pe_slice sl_str (pe_slice sl_str (pv 5) (po_some (pe_op op_add (pv 6) pe_int)) po_none) po_none (po_some (pe_call G_law_draw hr_law_draw (by rfl) g_law_draw F_law_draw.kp b_law_draw .nil pass0 (pa_cons (pv 0) (pa_cons pe_int pa_nil))))))))
      (pss_one (ps_ret (pe_lc (own := [("_law_k", 10)]) (g := gName 10) (tt := tYes) rfl scNames.nd (pi_range1 (by rfl) T.mrange (pa_cons (pv 1) pa_nil)) (blkOk_by (N := NNames) (own := [("_law_k", 10)]) (sc := defScope sNames) (by decide +kernel)) (fun _ _ _ _ _ => pg_name (i := 10) scNames.nd rfl (Or.inl rfl)) (fun _ _ _ _ _ => pts_nil) (fun _ _ _ _ _ => (pe_op op_add_str (pe_op op_add_str (pe_slice sl_str (pv 5) po_none (po_some (pv 6))) (pe_ix ix_str (pv 2) (pe_op op_modN (pe_op op_add (pv 7) (pe_op op_mul (pv 8) (pv 10))) pe_int) (fun _ _ => rfl))) (pe_ix (r := rIxL K) ix_list (pv 9) (pv 10) (fun _ _ => rfl))))))))))))))
      , ?_⟩
    refine ⟨_, rfl, a, c, 12, n, rfl, by omega, by omega, by omega, hT, fun t H1 t0 t1 T1 k1 => ?_⟩
    obtain ⟨tn, rfl⟩ := Int.eq_ofNat_of_zero_le t0
    refine ⟨_, rfl, a, c, 5, n + 1, rfl, by omega, by omega, by omega, T1, fun d5 H2 _ _ T2 k2 => ⟨rfl, _, rfl, ite2 (fun _ => ?_) (fun _ => ?_)⟩⟩
    · -- written names
      refine ⟨by show 12 ≤ sizeLine; decide, fun pw npw => ?_⟩
      have hw : (upd H2 pw (.lst (words.map V.str))) pw = some (.lst (words.map V.str)) := upd_same
      have lw : (words.map V.str).length = 12 := rfl
      have ht : tn ≤ (words.map V.str).length := by rw [lw]; omega
      refine ⟨_, rfl, _, rfl, (tn : Int), rfl, pw, words.map V.str, rfl, SqL.of hw, fun c1 n1 => ?_⟩
      have hw1 := upd_at (o := .lst (cutV (words.map V.str) (some (tn : Int)) none)) n1 hw
      refine ⟨_, rfl, _, rfl, (tn : Int), rfl, pw, words.map V.str, rfl, SqL.of hw1, fun c2 n2 => ?_⟩
      rw [cut_from ht, cut_to ht]
      rw [cut_from ht] at n2
      refine ⟨_, _, _, _, rfl, rfl, upd_at n2 upd_same, upd_same, by rw [List.length_drop, List.length_take, lw]; exact small_line (by omega), fun c3 n3 => ?_⟩
      refine ⟨_, rfl, (m : Int), rfl, c3, _, rfl, SqL.of upd_same, fun c4 n4 => ?_⟩
      have l4 : m ≤ ((words.map V.str).drop tn ++ (words.map V.str).take tn).length := by rw [List.length_append, List.length_drop, List.length_take, lw]; omega
      rw [show cutV _ none (some (m : Int)) = _ from cut_to (t := m) l4]
      have lall : (words.drop tn ++ words.take tn).length = 12 := by rw [List.length_append, List.length_drop, List.length_take]; show (12 - tn) + min tn 12 = 12; omega
      refine q c4 ((words.drop tn ++ words.take tn).take m) _ (by rw [List.length_take, lall]; omega) ?_ ?_ ?_ ?_ ?_ ?_
      · intro z hz
        have hz' := List.mem_of_mem_take hz
        rcases List.mem_append.mp hz' with hz' | hz'
        · exact ⟨words_low z (List.mem_of_mem_drop hz'), words_pos z (List.mem_of_mem_drop hz')⟩
        · exact ⟨words_low z (List.mem_of_mem_take hz'), words_pos z (List.mem_of_mem_take hz')⟩
      · refine List.Nodup.sublist (List.take_sublist _ _) ?_
        have e : (words.take tn ++ words.drop tn).Nodup := by rw [List.take_append_drop]; decide +kernel
        exact (List.perm_append_comm.nodup_iff).mp e
      · rw [upd_same, List.map_take, List.map_append, List.map_drop, List.map_take]
      · exact ((((T2.new npw).new n1).new n2).new n3).ne n4
      · exact (((((T2.new npw).new n1).new n2).new n3).new n4).mono (by omega)
      · exact (((((k1.trans k2).new npw).new n1).new n2).new n3).new n4
    -- a drawn base
    refine ⟨fun σ H' => ∃ base : Str, LowN 8 base ∧ 0 < base.length ∧ σ = [some (.ref a), some (.int (m : Int)), some (.str "abcdefghijklmnopqrstuvwxyz"), some (.int (tn : Int)), none, some (.str base), none, none, none, none, none] ∧ Tape H' a c (n + 11) ∧ Keep a H H', ?_, ?_⟩
    · refine ⟨⟨_, rfl⟩, _, rfl, a, c, 8, n + 2, rfl, by omega, by omega, by omega, T2, fun d8 H3 d80 d81 T3 k3 => ⟨_, _, rfl, rfl, 1 + d8, rfl, by omega, by omega, fun D nD => ?_⟩⟩
      have nDa : D ≠ a := T3.ne nD
      have nDc : D ≠ c := T3.nec nD
      refine lc_range (lo := 0) (n := (1 + d8).toNat) (fun i H' => ∃ ys : List Str, ys.length = i ∧ (∀ y ∈ ys, LowN 1 y ∧ y.length = 1) ∧ H' D = some (.lst (ys.map V.str)) ∧ Tape H' a c (n + 3 + i) ∧ Keep a H H')
        ⟨[], rfl, fun y hy => (by cases hy), upd_same, T3.new nD, ((k1.trans k2).trans k3).new nD⟩ ?_ ?_
      · rintro i H' hi ⟨ys, ly, lo, eD, Ti, ki⟩
        refine ⟨rfl, _, rfl, _, rfl, a, c, 26, n + 3 + i, rfl, by omega, by omega, by omega, Ti, fun d H4 d0 d1 T4 k4 => ?_⟩
        obtain ⟨dn, rfl⟩ := Int.eq_ofNat_of_zero_le d0
        obtain ⟨ch, hc, c0, c1⟩ := letter dn (by omega)
        refine ⟨_, _, ch, rfl, rfl, small_line (by decide), atI_nat hc, _, k4 _ _ nDa eD, by rw [List.length_map]; exact Nat.lt_of_lt_of_le (show ys.length < 100 by omega) (small_line (by decide)), ys ++ [⟨#[ch]⟩], by rw [List.length_append, ly]; rfl, ?_, ?_, ?_, ?_⟩
        · intro y hy
          rcases List.mem_append.mp hy with hy | hy
          · exact lo y hy
          · rw [List.mem_singleton.mp hy]; exact ⟨one_low ⟨c0, c1⟩, rfl⟩
        · rw [upd_same, List.map_append]; rfl
        · exact (T4.upd nDa nDc).mono (by omega)
        · exact fun x o nx e => by rw [upd_ne (ne_of_none (k1 x o nx e |> k2 x o nx |> k3 x o nx) nD)]; exact k4 x o nx (ki x o nx e)
      · rintro H' ⟨ys, ly, lo, eD, Ti, ki⟩
        obtain ⟨b1, b2⟩ := base_low lo
        have len1 : ∀ l : List Str, (∀ y ∈ l, LowN 1 y ∧ y.length = 1) → (l.map (·.length)).sum = l.length := fun l => by
          induction l with
          | nil => intro _; rfl
          | cons z r ih => intro h; rw [List.map_cons, List.sum_cons, ih (fun w hw => h w (List.mem_cons_of_mem _ hw)), (h z List.mem_cons_self).2, List.length_cons]; omega
        refine ⟨Str.empty, D, ys, rfl, rfl, .inl (SqL.of eD), ?_, Txt.join Str.empty ys, ?_, ?_, rfl, Ti.mono (by omega), ki⟩
        · rw [len1 ys lo]; show ys.length + ys.length * 0 ≤ 16777216; omega
        · exact ⟨by rw [b2]; omega, b1.2⟩
        · rw [b2]; omega
    rintro σ H5 ⟨base, lb, pb, rfl, T5, k5⟩
    -- at, first
    refine ⟨fun σ H' => ∃ (at_ fst : Nat), at_ < base.length ∧ fst < 26 ∧ σ = [some (.ref a), some (.int (m : Int)), some (.str "abcdefghijklmnopqrstuvwxyz"), some (.int (tn : Int)), none, some (.str base), some (.int (at_ : Int)), some (.int (fst : Int)), none, none, none] ∧ Tape H' a c (n + 13) ∧ Keep a H H', ?_, ?_⟩
    · have lb8 := lb.1
      refine ⟨_, rfl, _, rfl, base, rfl, small_line (by omega), a, c, base.length, n + 11, rfl, by omega, by omega, by omega, T5, fun d6 H6 d60 d61 T6 k6 => ?_⟩
      refine ⟨_, rfl, a, c, 26, n + 12, rfl, by omega, by omega, by omega, T6, fun d7 H7 d70 d71 T7 k7 => ⟨by show 2 ≤ sizeLine; decide, fun pt npt => ?_⟩⟩
      obtain ⟨m6, rfl⟩ := Int.eq_ofNat_of_zero_le d60
      obtain ⟨m7, rfl⟩ := Int.eq_ofNat_of_zero_le d70
      exact ⟨pt, _, rfl, .inl (.inl upd_same), rfl, _, _, rfl, _, _, rfl, rfl, m6, m7, by omega, by omega, rfl, (T7.new npt).mono (by omega), ((k5.trans k6).trans k7).new npt⟩
    rintro σ H8 ⟨at_, fst, hat, hfst, rfl, T8, k8⟩
    -- step
    refine ⟨fun σ H' => ∃ st : Int, st ∈ steps ∧ σ = [some (.ref a), some (.int (m : Int)), some (.str "abcdefghijklmnopqrstuvwxyz"), some (.int (tn : Int)), none, some (.str base), some (.int (at_ : Int)), some (.int (fst : Int)), some (.int st), none, none] ∧ Tape H' a c (n + 13) ∧ Keep a H H', ?_, ?_⟩
    · refine ⟨by show 12 ≤ sizeLine; decide, fun pl npl => ?_⟩
      have hst : ∃ st : Int, ([.int 1, .int 3, .int 5, .int 7, .int 9, .int 11, .int 15, .int 17, .int 19, .int 21, .int 23, .int 25] : List V)[tn]? = some (.int st) ∧ st ∈ steps := by
        have ht12 : tn < 12 := by omega
        have : ∀ j : Nat, j < 12 → ∃ st : Int, ([.int 1, .int 3, .int 5, .int 7, .int 9, .int 11, .int 15, .int 17, .int 19, .int 21, .int 23, .int 25] : List V)[j]? = some (.int st) ∧ st ∈ steps
          | 0, _ => ⟨_, rfl, by decide⟩ | 1, _ => ⟨_, rfl, by decide⟩ | 2, _ => ⟨_, rfl, by decide⟩ | 3, _ => ⟨_, rfl, by decide⟩
          | 4, _ => ⟨_, rfl, by decide⟩ | 5, _ => ⟨_, rfl, by decide⟩ | 6, _ => ⟨_, rfl, by decide⟩ | 7, _ => ⟨_, rfl, by decide⟩
          | 8, _ => ⟨_, rfl, by decide⟩ | 9, _ => ⟨_, rfl, by decide⟩ | 10, _ => ⟨_, rfl, by decide⟩ | 11, _ => ⟨_, rfl, by decide⟩
          | n + 12, h => absurd h (by omega)
        exact this tn ht12
      obtain ⟨st, hst, s0⟩ := hst
      exact ⟨_, rfl, pl, _, (tn : Int), _, rfl, rfl, SqL.of upd_same, atI_nat hst, st, s0, rfl, T8.new npl, k8.new npl⟩
    rintro σ H9 ⟨st, hst, rfl, T9, k9⟩
    have hst0 := steps_pos hst
    -- ends
    refine ⟨fun σ H' => ∃ (pe : Addr) (zs : List Str), zs.length = m ∧ (∀ z ∈ zs, LowN (base.length - (at_ + 1)) z) ∧ σ = [some (.ref a), some (.int (m : Int)), some (.str "abcdefghijklmnopqrstuvwxyz"), some (.int (tn : Int)), none, some (.str base), some (.int (at_ : Int)), some (.int (fst : Int)), some (.int st), some (.ref pe), none] ∧ H' pe = some (.lst (zs.map V.str)) ∧ pe ≠ a ∧ Tape H' a c (n + 13 + m) ∧ Keep a H H', ?_, ?_⟩
    · refine ⟨_, rfl, (m : Int), rfl, by omega, by omega, fun D nD => ?_⟩
      have nDa : D ≠ a := T9.ne nD
      have nDc : D ≠ c := T9.nec nD
      refine lc_range (lo := 0) (n := (m : Int).toNat) (fun i H' => ∃ ys : List Str, ys.length = i ∧ (∀ y ∈ ys, LowN (base.length - (at_ + 1)) y) ∧ H' D = some (.lst (ys.map V.str)) ∧ Tape H' a c (n + 13 + i) ∧ Keep a H H')
        ⟨[], rfl, fun y hy => (by cases hy), upd_same, T9.new nD, k9.new nD⟩ ?_ ?_
      · rintro i H' hi ⟨ys, ly, lo, eD, Ti, ki⟩
        have hD0 : H D = none := by
          cases e : H D with
          | none => rfl
          | some o => rw [k9 D o nDa e] at nD; cases nD
        refine ⟨rfl, _, rfl, _, rfl, _, _, rfl, rfl, _, rfl, base, rfl, small_line (by have := lb.1; omega), _, rfl, a, c, 8, n + 13 + i, rfl, by omega, by omega, by omega, Ti, fun d H4 d0 d1 T4 k4 => ?_⟩
        have lc1 : LowN (base.length - (at_ + 1)) (cutS base (some ((at_ : Int) + 1)) none) := cut_after lb hat
        have lc2 : LowN (base.length - (at_ + 1)) (cutS (cutS base (some ((at_ : Int) + 1)) none) none (some d)) := cut_low lc1
        refine ⟨d, rfl, _, rfl, small_line (by have := lc1.1; have := lb.1; omega), _, k4 _ _ nDa eD, by rw [List.length_map]; exact Nat.lt_of_lt_of_le (show ys.length < 100 by omega) (small_line (by decide)), ys ++ [cutS (cutS base (some ((at_ : Int) + 1)) none) none (some d)], by rw [List.length_append, ly]; rfl, ?_, ?_, ?_, ?_⟩
        · intro y hy
          rcases List.mem_append.mp hy with hy | hy
          · exact lo y hy
          · rw [List.mem_singleton.mp hy]; exact lc2
        · rw [upd_same, List.map_append]; rfl
        · exact (T4.upd nDa nDc).mono (by omega)
        · exact fun x o nx e => by rw [upd_ne (ne_of_none e hD0)]; exact k4 x o nx (ki x o nx e)
      · rintro H' ⟨ys, ly, lo, eD, Ti, ki⟩
        exact ⟨D, ys, by omega, lo, rfl, eD, nDa, Ti.mono (by omega), ki⟩
    rintro σ H10 ⟨pe, zs, lz, lz8, rfl, epe, nea, T10, k10⟩
    refine ⟨_, rfl, (m : Int), rfl, by omega, by omega, fun D nD => ?_⟩
    have nDa : D ≠ a := T10.ne nD
    refine lc_range (lo := 0) (n := (m : Int).toNat) (fun i H' => ∃ ys : List Str, ys.length = i ∧ (∀ y ∈ ys, LowN 8 y ∧ 1 ≤ y.length) ∧ (∀ k, k < i → ∃ y, ys[k]? = some y ∧ (tl y)[at_]? = some (97 + ((fst : Int) + st * (k : Int)).toNat % 26)) ∧ Same H10 H' ∧ H' D = some (.lst (ys.map V.str)))
      ⟨[], rfl, fun y hy => (by cases hy), fun k hk => absurd hk (Nat.not_lt_zero k), same_upd nD, upd_same⟩ ?_ ?_
    · rintro i H' hi ⟨ys, ly, lo, lk, si, eD⟩
      have hv0 : 0 ≤ (fst : Int) + st * (0 + (i : Int)) := Int.add_nonneg (by omega) (Int.mul_nonneg (by omega) (by omega))
      obtain ⟨e1, e2⟩ := fmod_in (a := (fst : Int) + st * (0 + (i : Int))) (b := 26) (by decide)
      have ej : ((fst : Int) + st * (0 + (i : Int))).fmod 26 = ((((fst : Int) + st * (i : Int)).toNat % 26 : Nat) : Int) := by
        rw [Int.zero_add] at hv0 ⊢
        rw [Int.fmod_eq_emod_of_nonneg _ (by decide)]
        omega
      have hc := letter_at (j := ((fst : Int) + st * (i : Int)).toNat % 26) (Nat.mod_lt _ (by decide))
      have hcl : 97 ≤ 97 + ((fst : Int) + st * (i : Int)).toNat % 26 ∧ 97 + ((fst : Int) + st * (i : Int)).toNat % 26 ≤ 122 := by have := Nat.mod_lt ((fst : Int) + st * (i : Int)).toNat (show 0 < 26 by decide); omega
      generalize hch : 97 + ((fst : Int) + st * (i : Int)).toNat % 26 = ch at hc hcl
      have l1 : LowN at_ (cutS base none (some (at_ : Int))) := cut_before lb hat
      have l2 : LowN (at_ + 1) (cutS base none (some (at_ : Int)) ++ ⟨#[ch]⟩) := app_low l1 (one_low hcl)
      have hz : i < zs.length := by omega
      have hb8 := lb.1
      have l3 : LowN 8 (cutS base none (some (at_ : Int)) ++ ⟨#[ch]⟩ ++ zs[i]) := (app_low l2 (lz8 _ (List.getElem_mem hz))).mono (by omega)
      have gz : (zs.map V.str)[i]? = some (.str zs[i]) := by rw [List.getElem?_map, List.getElem?_eq_getElem hz]; rfl
      refine ⟨rfl, _, rfl, _, rfl, (at_ : Int), rfl, base, rfl, small_line (by omega), _, rfl, _, rfl, _, rfl, _, rfl, _, _, rfl, rfl, .inr ⟨by omega, by omega⟩, _, _, rfl, rfl, _, _, rfl, rfl, (by show (26 : Int) ≠ 0; decide), "abcdefghijklmnopqrstuvwxyz", _, ch, rfl, congrArg V.int ej, small_line (by decide), atI_nat hc, _, _, rfl, rfl, small_line (by have := l1.1; show _ + 1 ≤ 100; omega), _, rfl, _, rfl, pe, zs.map V.str, (i : Int), _, rfl, ?_, SqL.of (si _ _ epe), atI_nat gz, _, _, rfl, rfl, ?_, _, eD, ?_, ys ++ [cutS base none (some (at_ : Int)) ++ ⟨#[ch]⟩ ++ zs[i]], ?_, ?_, ?_, ?_, ?_⟩
      · exact congrArg V.int (by omega)
      · have := l2.1
        have := (lz8 _ (List.getElem_mem hz)).1
        exact small_line (by omega)
      · rw [List.length_map]; exact Nat.lt_of_lt_of_le (show ys.length < 100 by omega) (small_line (by decide))
      · rw [List.length_append, ly]; rfl
      · intro y hy
        rcases List.mem_append.mp hy with hy | hy
        · exact lo y hy
        · rw [List.mem_singleton.mp hy]; exact ⟨l3, by rw [Str.length_append, Str.length_append]; show 1 ≤ _ + 1 + _; omega⟩
      · intro k hk
        by_cases e : k = i
        · subst e
          refine ⟨_, by rw [List.getElem?_append_right (by omega), ly, Nat.sub_self]; rfl, ?_⟩
          rw [hch, tl_app, tl_app]
          have la : (tl (cutS base none (some (at_ : Int)))).length = at_ := cut_before_len hat
          rw [List.append_assoc, List.getElem?_append_right (by omega), la, Nat.sub_self]
          rfl
        · obtain ⟨y, h1, h2⟩ := lk k (by omega)
          exact ⟨y, by rw [List.getElem?_append_left (by have := (List.getElem?_eq_some_iff.mp h1).1; exact this)]; exact h1, h2⟩
      · exact fun x o e => by rw [upd_ne (ne_of_none e nD)]; exact si x o e
      · rw [upd_same, List.map_append]; rfl
    · rintro H' ⟨ys, ly, lo, lk, si, eD⟩
      have lm : ys.length = m := by omega
      refine q D ys H' lm lo ?_ eD nDa ((T10.same si).mono (by omega)) (k10.same si)
      rw [List.nodup_iff_pairwise_ne, List.pairwise_iff_getElem]
      intro i j hi hj hij e
      obtain ⟨y1, g1, h1⟩ := lk i (by omega)
      obtain ⟨y2, g2, h2⟩ := lk j (by omega)
      rw [List.getElem?_eq_getElem hi] at g1
      rw [List.getElem?_eq_getElem hj] at g2
      cases g1
      cases g2
      rw [e] at h1
      rw [h1] at h2
      have h3 := Option.some.inj h2
      exact steps_apart hst (f := fst) (i := i) (j := j) (by omega) (by omega) (by omega) (by omega)
end
theorem small100 {n : Nat} (h : n < 100) : n < sizeLine := Nat.lt_of_lt_of_le h (Nat.le_trans (show 100 ≤ 100000 by decide) (by decide))
/-! ### rows of names and bearings, as the law draws them -/
inductive Rws (H : Hp) : List V → List (Str × Int) → Prop
  | nil : Rws H [] []
  | cons {a : Addr} {r : Str × Int} {xs : List V} {rs : List (Str × Int)} : H a = some (.tup [.str r.1, .int r.2]) → Rws H xs rs → Rws H (.ref a :: xs) (r :: rs)
theorem Rws.len {H : Hp} {xs : List V} {rs : List (Str × Int)} (h : Rws H xs rs) : xs.length = rs.length := by
  induction h with
  | nil => rfl
  | cons _ _ ih => rw [List.length_cons, List.length_cons, ih]
theorem Rws.at {H : Hp} {xs : List V} {rs : List (Str × Int)} (h : Rws H xs rs) : ∀ {i : Nat} {y : V}, xs[i]? = some y → ∃ a r, y = .ref a ∧ rs[i]? = some r ∧ H a = some (.tup [.str r.1, .int r.2]) := by
  induction h with
  | nil => intro i y e; cases e
  | cons e _ ih =>
    intro i y z
    cases i with
    | zero => cases z; exact ⟨_, _, rfl, rfl, e⟩
    | succ i => exact ih z
theorem Rws.at2 {H : Hp} {xs : List V} {rs : List (Str × Int)} (h : Rws H xs rs) {i : Nat} (hi : i < rs.length) : ∃ a, xs[i]? = some (.ref a) ∧ H a = some (.tup [.str rs[i].1, .int rs[i].2]) := by
  have hx : i < xs.length := by rw [h.len]; exact hi
  obtain ⟨a, r, e1, e2, e3⟩ := h.at (List.getElem?_eq_getElem hx)
  rw [List.getElem?_eq_getElem hi] at e2
  cases e2
  exact ⟨a, by rw [List.getElem?_eq_getElem hx, e1], e3⟩
theorem Rws.mono {H H' : Hp} {xs : List V} {rs : List (Str × Int)} (h : Rws H xs rs) (s : ∀ a ts, H a = some (.tup ts) → H' a = some (.tup ts)) : Rws H' xs rs := by
  induction h with
  | nil => exact .nil
  | cons e _ ih => exact .cons (s _ _ e) ih
theorem Rws.app {H : Hp} {xs ys : List V} {rs ss : List (Str × Int)} (h : Rws H xs rs) (h2 : Rws H ys ss) : Rws H (xs ++ ys) (rs ++ ss) := by
  induction h with
  | nil => exact h2
  | cons e _ ih => exact .cons e ih
theorem Rws.set {H : Hp} {xs : List V} {rs : List (Str × Int)} (h : Rws H xs rs) {a : Addr} {r : Str × Int} (ha : H a = some (.tup [.str r.1, .int r.2])) : ∀ j, Rws H (xs.set j (.ref a)) (rs.set j r) := by
  induction h with
  | nil => intro j; exact .nil
  | cons e h2 ih =>
    intro j
    cases j with
    | zero => exact .cons ha h2
    | succ j => exact .cons e (ih j)
/-- boats' rows and spans, in a tuple -/
structure PartsAt (H : Hp) (q r s : Addr) (rows : List (Str × Int)) (spans : List Int) : Prop where
  tp : H q = some (.tup [.ref r, .ref s])
  rw : ∃ xs, H r = some (.lst xs) ∧ Rws H xs rows
  sp : H s = some (.lst (spans.map V.int))
theorem PartsAt.same {H H' : Hp} {q r s : Addr} {rows : List (Str × Int)} {spans : List Int} (h : PartsAt H q r s rows spans) (z : Same H H') : PartsAt H' q r s rows spans := by
  obtain ⟨xs, e1, e2⟩ := h.rw
  exact ⟨z _ _ h.tp, ⟨xs, z _ _ e1, e2.mono fun a ts e => z _ _ e⟩, z _ _ h.sp⟩
theorem PartsAt.keep {H H' : Hp} {T q r s : Addr} {rows : List (Str × Int)} {spans : List Int} {ys : List V} (h : PartsAt H q r s rows spans) (hT : H T = some (.lst ys)) (k : Keep T H H') (n1 : r ≠ T) (n2 : s ≠ T) : PartsAt H' q r s rows spans := by
  obtain ⟨xs, e1, e2⟩ := h.rw
  exact ⟨k _ _ (ne_of h.tp hT (by intro z; cases z)) h.tp, ⟨xs, k _ _ n1 e1, e2.mono fun a ts e => k _ _ (ne_of e hT (by intro z; cases z)) e⟩, k _ _ n2 h.sp⟩
theorem ixN_nat {n j : Nat} (h : j < n) : ixN n (j : Int) = some j := by
  unfold ixN
  rw [if_pos (by omega), if_pos (by omega)]
  simp
def Bear (b : Int) : Prop := 1 ≤ b ∧ b ≤ 1000000
theorem pickI {xs : List Int} {lo hi : Int} (h : ∀ z ∈ xs, lo ≤ z ∧ z ≤ hi) {j : Nat} {x : V} (e : (xs.map V.int)[j]? = some x) : ∃ z : Int, x = .int z ∧ lo ≤ z ∧ z ≤ hi := by
  rw [List.getElem?_map] at e
  cases e2 : xs[j]? with
  | none => rw [e2] at e; cases e
  | some z => rw [e2] at e; cases e; exact ⟨z, rfl, h z (List.mem_of_getElem? e2)⟩
theorem zip_fst {zs : List Str} {bs : List Int} (h : zs.length ≤ bs.length) : (zs.zip bs).map Prod.fst = zs := by
  rw [List.map_fst_zip]; exact h
def spBRows : Sp := fun vs H Q _ => ∃ (T c np : Addr) (zs : List Str) (n : Nat), vs = [.ref T, .ref np] ∧ H np = some (.lst (zs.map V.str)) ∧ np ≠ T ∧ 1 ≤ zs.length ∧ zs.length ≤ 10 ∧ n < 900000 ∧ Tape H T c n ∧
  ∀ (r : Addr) (xs : List V) (rows : List (Str × Int)) H', rows.map Prod.fst = zs → (∀ x ∈ rows, Bear x.2) → H' r = some (.lst xs) → Rws H' xs rows → r ≠ T → H r = none → Tape H' T c (n + 30) → Keep T H H' → Q (.ref r) H'
def spSRow : Sp := fun vs H Q _ => ∃ (T c : Addr) (m n : Nat), vs = [.ref T, .int (m : Int)] ∧ m ≤ 100 ∧ n < 900000 ∧ Tape H T c n ∧
  ∀ (s : Addr) (spans : List Int) H', spans.length = m → (∀ z ∈ spans, Bear z) → H' s = some (.lst (spans.map V.int)) → s ≠ T → H s = none → Tape H' T c (n + 1 + m) → Keep T H H' → Q (.ref s) H'
def spDParts : Sp := fun vs H Q _ => ∃ (T c : Addr) (n : Nat), vs = [.ref T] ∧ n < 800000 ∧ Tape H T c n ∧
  ∀ (q r s : Addr) (rows : List (Str × Int)) (spans : List Int) H', Good rows spans → (∀ x ∈ rows, Bear x.2) → (∀ x ∈ rows, LowN 8 x.1 ∧ 1 ≤ x.1.length) → PartsAt H' q r s rows spans → r ≠ T → s ≠ T → Tape H' T c (n + 100) → Keep T H H' → Q (.ref q) H'
def spMade (C CB : Addr) : Sp := fun vs H Q _ => ∃ (q r s : Addr) (rows : List (Str × Int)) (spans : List Int), vs = [.ref q] ∧ PartsAt H q r s rows spans ∧ Good rows spans ∧ ∀ p bl sl H', H bl = none → H sl = none → Same H H' → BrAt C CB H' p bl sl rows spans → Q (.ref p) H'
structure TxtP (mg : Str → Option Value) : Prop where
  mlen : mg "len" = none
  mrange : mg "range" = none
  mlist : mg "list" = none
  misinstance : mg "isinstance" = none
  mint : mg "int" = none
  mbool : mg "bool" = none
  mstr : mg "str" = none
section
variable {P : Program} {w : World} {K : PySem.W.Frag} {mg : Str → Option Value} {base : Heap} {C CB : Addr}
theorem ok_brows {f fD fP : Addr} {fd fdD fdP : FuncData} {k : Nat} (F : Fun K "_law_boat_rows" "_law_boat_rows" sBRows f fd) (T0 : Txt0 mg) (T : TxtP mg)
    (F_law_draw : Fun K "_law_draw" "_law_draw" sDraw fD fdD) (g_law_draw : mg "_law_draw" = some (.ref fD)) (b_law_draw : Binds K fdD ["_law_tape_here", "_law_many"] [])
    (F_law_pick : Fun K "_law_pick" "_law_pick" sPick fP fdP) (g_law_pick : mg "_law_pick" = some (.ref fP)) (b_law_pick : Binds K fdP ["_law_tape_here", "_law_some"] []) :
    FnOk P w K mg base CX0 (k + 3) f fd ["_law_tape_here", "_law_names_here"] spBRows := by
  have G_law_draw : FnOk P w K mg base CX0 (k + 2) fD fdD ["_law_tape_here", "_law_many"] spDraw := ok_draw F_law_draw T0
  have G_law_pick : FnOk P w K mg base CX0 (k + 2) fP fdP ["_law_tape_here", "_law_some"] spPick := ok_pick F_law_pick T0 F_law_draw g_law_draw b_law_draw
  refine F.ok scBRows (fun vs H Q E h => ?_) (fun cdv A outer s H vs Q E hr h => ?_)
  · obtain ⟨a, c, np, zs, n, rfl, _⟩ := h
    rfl
  · obtain ⟨a, c, np, zs, n, rfl, hnp, nna, hz1, hz10, hn, hT, q⟩ := h
    have hr_law_draw := hr
    have hr_law_pick := hr
    refine ⟨_,
      (pss_cons (ps_set (i := 2) scBRows.nd rfl (.inr rfl) (pe_call G_law_pick hr_law_pick (by rfl) g_law_pick F_law_pick.kp b_law_pick .nil pass0 (pa_cons (pv 0) (pa_cons (pe_lst (pa_cons pe_int (pa_cons pe_int (pa_cons pe_int (pa_cons (pe_op op_pow pe_int pe_int) pa_nil))))) pa_nil))))
      (pss_cut (ps_set (i := 3) scBRows.nd rfl (.inr rfl) (pe_lc (own := [("_law_name", 4)]) (g := gName 4) (tt := tYes) rfl scBRows.nd (pi_list (pv 1)) (blkOk_by (N := NBRows) (own := [("_law_name", 4)]) (sc := defScope sBRows) (by decide +kernel)) (fun _ _ _ _ _ => pg_name (i := 4) scBRows.nd rfl (Or.inl rfl)) (fun _ _ _ _ _ => pts_nil) (fun _ _ _ _ _ => (pe_tup (pa_cons (pv 4) (pa_cons (pe_op op_add pe_int (pe_call G_law_draw hr_law_draw (by rfl) g_law_draw F_law_draw.kp b_law_draw .nil pass0 (pa_cons (pv 0) (pa_cons (pv 2) pa_nil)))) pa_nil))))))
      (pss_cut (ps_if (pt_cmpR op_eq (pe_call G_law_draw hr_law_draw (by rfl) g_law_draw F_law_draw.kp b_law_draw .nil pass0 (pa_cons (pv 0) (pa_cons pe_int pa_nil))) pe_int (nomark _))
      (pss_cut (ps_asg (pe_tup (pa_cons (pe_ix ix_list (pv 1) pe_int (fun _ _ => rfl)) (pa_cons (pe_op op_pow pe_int pe_int) pa_nil))) (pg_sub (pv 3) (pe_call G_law_draw hr_law_draw (by rfl) g_law_draw F_law_draw.kp b_law_draw .nil pass0 (pa_cons (pv 0) (pa_cons (pe_callB call_len_seq (by rfl) T.mlen PySem.boot_len (pa_cons (pv 3) pa_nil)) pa_nil))) set_list))
      (pss_one (ps_set (i := 3) scBRows.nd rfl (.inr rfl) (pe_lc (own := [("_law_k", 5)]) (g := gName 5) (tt := tYes) rfl scBRows.nd (pi_range1 (by rfl) T.mrange (pa_cons (pe_callB call_len_seq (by rfl) T.mlen PySem.boot_len (pa_cons (pv 1) pa_nil)) pa_nil)) (blkOk_by (N := NBRows) (own := [("_law_k", 5)]) (sc := defScope sBRows) (by decide +kernel)) (fun _ _ _ _ _ => pg_name (i := 5) scBRows.nd rfl (Or.inl rfl)) (fun _ _ _ _ _ => pts_nil) (fun _ _ _ _ _ => (pe_tup (pa_cons (pe_ix (r := rIxL K) ix_list (pv 1) (pv 5) (fun _ _ => rfl)) (pa_cons (pe_ix (r := rIxT K) ix_tup (pe_ix (r := rIxL K) ix_list (pv 3) (pv 5) (fun _ _ => rfl)) pe_int (fun _ _ => rfl)) pa_nil))))))))
      pss_nil)
      (pss_one (ps_ret (pv 3))))))
      , ?_⟩
    refine ⟨_, rfl, _, _, rfl, rfl, ⟨by decide, by decide, by decide⟩, by show 4 ≤ sizeLine; decide, fun l hl => ?_⟩
    refine ⟨a, c, l, _, n, rfl, upd_same, hT.ne hl, by show 0 < 4; decide, by show 4 < 1000000; decide, by omega, hT.new hl, fun j x H1 hx T1 k1 => ?_⟩
    obtain ⟨most, rfl, hm0, hm1⟩ := pickI (xs := [3, 20, 1000, 1000000]) (lo := 3) (hi := 1000000) (by simp) hx
    have k01 : Keep a H H1 := (Keep.refl.new hl).trans k1
    have hnp1 := k01 _ _ nna hnp
    -- found
    refine ⟨fun σ H2 => ∃ (fp : Addr) (xs : List V) (rows : List (Str × Int)), σ = [some (.ref a), some (.ref np), some (.int most), some (.ref fp), none, none] ∧ H2 fp = some (.lst xs) ∧ Rws H2 xs rows ∧ rows.map Prod.fst = zs ∧ (∀ x ∈ rows, Bear x.2) ∧ H fp = none ∧ fp ≠ a ∧ fp ≠ c ∧ Tape H2 a c (n + 11) ∧ Keep a H H2, ?_, ?_⟩
    · refine ⟨_, rfl, np, rfl, ⟨_, SqL.of hnp1⟩, fun D hD => ?_⟩
      have nDa : D ≠ a := T1.ne hD
      have nDc : D ≠ c := T1.nec hD
      have hD0 : H D = none := by
        cases e : H D with
        | none => rfl
        | some o => have := k01 D o nDa e; rw [hD] at this; cases this
      have nnD : np ≠ D := ne_of_none hnp1 hD
      refine lc_list (K := K) (a := np) (xs := zs.map V.str) (fun i H' => ∃ (xs : List V) (rows : List (Str × Int)), H' D = some (.lst xs) ∧ Rws H' xs rows ∧ rows.map Prod.fst = zs.take i ∧ (∀ x ∈ rows, Bear x.2) ∧ H' np = some (.lst (zs.map V.str)) ∧ Tape H' a c (n + 1 + i) ∧ Keep a H H')
        ⟨[], [], upd_same, .nil, rfl, fun x hx => (by cases hx), upd_at hD hnp1, T1.new hD, k01.new hD⟩ (fun i H' _ ⟨_, _, _, _, _, _, z, _⟩ => SqL.of z) ?_ ?_
      · rintro i y H' hy ⟨xs, rows, eD, hrw, hfst, hbe, hnp', Ti, ki⟩
        rw [List.getElem?_map] at hy
        cases hx : zs[i]? with
        | none => rw [hx] at hy; cases hy
        | some z =>
          rw [hx] at hy
          cases hy
          have hi : i < zs.length := (List.getElem?_eq_some_iff.mp hx).1
          refine ⟨rfl, _, rfl, _, rfl, _, rfl, a, c, most, n + 1 + i, rfl, by omega, by omega, by omega, Ti, fun d H3 d0 d1 T3 k3 => ⟨_, _, rfl, rfl, by show 2 ≤ sizeLine; decide, fun t ht => ?_⟩⟩
          obtain ⟨_, _, _, hTa, _⟩ := Ti.ex
          have eD3 := k3 _ _ nDa eD
          have ntD : t ≠ D := (ne_of_none eD3 ht).symm
          have lxs : xs.length = i := by rw [hrw.len, ← List.length_map (f := Prod.fst), hfst, List.length_take]; omega
          refine ⟨xs, upd_at ht eD3, small100 (by omega), xs ++ [.ref t], rows ++ [(z, 1 + d)], upd_same, ?_, ?_, ?_, ?_, ?_, ?_⟩
          · have h3 : Rws (upd (upd H3 t (.tup [.str z, .int (1 + d)])) D (.lst (xs ++ [.ref t]))) xs rows := hrw.mono fun b ts e => by
              rw [upd_ne (ne_of e eD (by intro z; cases z))]
              exact upd_at ht (k3 _ _ (ne_of e hTa (by intro z; cases z)) e)
            exact h3.app (.cons (by rw [upd_ne ntD]; exact upd_same) .nil)
          · rw [List.map_append, hfst, List.take_succ, hx]; rfl
          · intro x hx
            rcases List.mem_append.mp hx with hx | hx
            · exact hbe x hx
            · rw [List.mem_singleton.mp hx]; exact ⟨by show 1 ≤ 1 + d; omega, by show 1 + d ≤ 1000000; omega⟩
          · rw [upd_ne nnD]; exact upd_at ht (k3 _ _ nna hnp')
          · exact ((T3.new ht).upd nDa nDc).mono (by omega)
          · exact fun x o nx e => by rw [upd_ne (ne_of_none e hD0)]; exact upd_at ht (k3 x o nx (ki x o nx e))
      · rintro H' ⟨xs, rows, eD, hrw, hfst, hbe, hnp', Ti, ki⟩
        rw [List.length_map, List.take_length] at hfst
        rw [List.length_map] at Ti
        exact ⟨D, xs, rows, rfl, eD, hrw, hfst, hbe, hD0, nDa, nDc, Ti.mono (by omega), ki⟩
    rintro σ H2 ⟨fp, xs, rows, rfl, ef, hrw, hfst, hbe, hf0, nfa, nfc, T2, k2⟩
    have lr : rows.length = zs.length := by rw [← hfst, List.length_map]
    have lx := hrw.len
    have hnp2 := k2 _ _ nna hnp
    have nnf : np ≠ fp := ne_of_none hnp hf0
    refine ⟨fun σ H3 => ∃ (fp : Addr) (xs : List V) (rows : List (Str × Int)) (w5 : Option V), σ = [some (.ref a), some (.ref np), some (.int most), some (.ref fp), none, w5] ∧ H3 fp = some (.lst xs) ∧ Rws H3 xs rows ∧ rows.map Prod.fst = zs ∧ (∀ x ∈ rows, Bear x.2) ∧ H fp = none ∧ fp ≠ a ∧ Tape H3 a c (n + 20) ∧ Keep a H H3, ?_, ?_⟩
    · refine ⟨_, rfl, a, c, 6, n + 11, rfl, by omega, by omega, by omega, T2, fun d6 H3 _ _ T3 k3 => ⟨rfl, _, rfl, ite2 (fun _ => ?_) (fun _ => ?_)⟩⟩
      · obtain ⟨_, _, _, hTa, _⟩ := T2.ex
        have hnp3 := k3 _ _ nna hnp2
        have ef3 := k3 _ _ nfa ef
        have hrw3 : Rws H3 xs rows := hrw.mono fun b ts e => k3 _ _ (ne_of e hTa (by intro z; cases z)) e
        have g0 : (zs.map V.str)[0]? = some (.str zs[0]) := by rw [List.getElem?_map, List.getElem?_eq_getElem (show 0 < zs.length by omega)]; rfl
        -- found[..] = (names[0], 10 ** 6)
        refine ⟨fun σ H4 => ∃ (xs' : List V) (rows' : List (Str × Int)), σ = [some (.ref a), some (.ref np), some (.int most), some (.ref fp), none, none] ∧ H4 fp = some (.lst xs') ∧ Rws H4 xs' rows' ∧ rows'.length = rows.length ∧ (∀ x ∈ rows', Bear x.2) ∧ H4 np = some (.lst (zs.map V.str)) ∧ Tape H4 a c (n + 13) ∧ Keep a H H4, ?_, ?_⟩
        · refine ⟨_, rfl, np, _, 0, _, rfl, rfl, SqL.of hnp3, atI_nat g0, _, _, rfl, rfl, ⟨by decide, by decide, by decide⟩, by show 2 ≤ sizeLine; decide, fun t ht => ?_⟩
          have ef4 := upd_at (o := .tup [.str zs[0], .int (10 ^ (6 : Int).toNat)]) ht ef3
          refine ⟨_, rfl, _, rfl, _, rfl, fp, xs, rfl, .inl (SqL.of ef4), a, c, (xs.length : Nat), n + 12, rfl, by omega, by omega, by omega, T3.new ht, fun d H5 d0 d1 T5 k5 => ?_⟩
          obtain ⟨jn, rfl⟩ := Int.eq_ofNat_of_zero_le d0
          have ef5 := k5 _ _ nfa ef4
          have hjl : jn < xs.length := by omega
          have nta : t ≠ a := T3.ne ht
          have ht5 := k5 _ _ nta (upd_same (H := H3) (a := t) (o := .tup [.str zs[0], .int (10 ^ (6 : Int).toNat)]))
          refine ⟨fp, xs, (jn : Int), jn, rfl, rfl, ef5, ixN_nat hjl, xs.set jn (.ref t), rows.set jn (zs[0], 1000000), rfl, upd_same, ?_, List.length_set .., ?_, ?_, ?_, ?_⟩
          · have h6 : Rws (upd H5 fp (.lst (xs.set jn (.ref t)))) xs rows := hrw3.mono fun b ts e => by
              rw [upd_ne (ne_of e ef3 (by intro z; cases z))]
              exact k5 _ _ (ne_of (upd_at ht e) (T3.new (o := .tup [.str zs[0], .int (10 ^ (6 : Int).toNat)]) ht).ex.choose_spec.choose_spec.choose_spec.1 (by intro z; cases z)) (upd_at ht e)
            exact h6.set (r := (zs[0], 1000000)) (by rw [upd_ne (ne_of ht5 ef5 (by intro z; cases z))]; exact ht5) jn
          · intro x hx
            rcases List.mem_or_eq_of_mem_set hx with hx | hx
            · exact hbe x hx
            · rw [hx]; exact ⟨show (1 : Int) ≤ 1000000 by decide, show (1000000 : Int) ≤ 1000000 by decide⟩
          · rw [upd_ne nnf]; exact k5 _ _ nna (upd_at ht hnp3)
          · exact (T5.upd nfa nfc).mono (by omega)
          · exact fun x o nx e => by rw [upd_ne (ne_of_none e hf0)]; exact k5 x o nx (upd_at ht (k3 x o nx (k2 x o nx e)))
        rintro σ H4 ⟨xs', rows', rfl, ef4, hrw4, lr4, hbe4, hnp4, T4, k4⟩
        refine ⟨_, rfl, np, _, rfl, .inl (SqL.of hnp4), _, rfl, by rw [List.length_map]; omega, by rw [List.length_map]; omega, fun D hD => ?_⟩
        have nDa : D ≠ a := T4.ne hD
        have hD0 : H D = none := by
          cases e : H D with
          | none => rfl
          | some o => have := k4 D o nDa e; rw [hD] at this; cases this
        refine lc_range (lo := 0) (n := (((zs.map V.str).length : Nat) : Int).toNat) (fun i H' => ∃ (ys : List V) (rs : List (Str × Int)), H' D = some (.lst ys) ∧ Rws H' ys rs ∧ rs.map Prod.fst = zs.take i ∧ (∀ x ∈ rs, Bear x.2) ∧ Same H4 H')
          ⟨[], [], upd_same, .nil, rfl, fun x hx => (by cases hx), same_upd hD⟩ ?_ ?_
        · rintro i H' hi ⟨ys, rs, eD, hys, hfs, hbr, si⟩
          have hi2 : i < zs.length := by rw [List.length_map] at hi; omega
          have gz : (zs.map V.str)[i]? = some (.str zs[i]) := by rw [List.getElem?_map, List.getElem?_eq_getElem hi2]; rfl
          have hi3 : i < rows'.length := by omega
          obtain ⟨b, gb, hb⟩ := hrw4.at2 hi3
          have lys : ys.length = i := by rw [hys.len, ← List.length_map (f := Prod.fst), hfs, List.length_take]; omega
          refine ⟨rfl, _, rfl, _, rfl, np, _, (i : Int), _, rfl, congrArg V.int (by omega), SqL.of (si _ _ hnp4), atI_nat gz, _, rfl, _, rfl, fp, _, (i : Int), _, rfl, congrArg V.int (by omega), SqL.of (si _ _ ef4), atI_nat gb, b, _, 1, _, rfl, rfl, SqT.of (si _ _ hb), atI_nat (j := 1) rfl, by show 2 ≤ sizeLine; decide, fun t ht => ?_⟩
          have eD' := upd_at (o := .tup [.str zs[i], .int rows'[i].2]) ht eD
          have ntD : t ≠ D := (ne_of_none eD ht).symm
          refine ⟨ys, eD', small100 (by omega), ys ++ [.ref t], rs ++ [(zs[i], rows'[i].2)], upd_same, ?_, ?_, ?_, ?_⟩
          · have h3 : Rws (upd (upd H' t (.tup [.str zs[i], .int rows'[i].2])) D (.lst (ys ++ [.ref t]))) ys rs := hys.mono fun b ts e => by
              rw [upd_ne (ne_of e eD (by intro z; cases z))]
              exact upd_at ht e
            exact h3.app (.cons (by rw [upd_ne ntD]; exact upd_same) .nil)
          · rw [List.map_append, hfs, List.take_succ, List.getElem?_eq_getElem hi2]; rfl
          · intro x hx
            rcases List.mem_append.mp hx with hx | hx
            · exact hbr x hx
            · rw [List.mem_singleton.mp hx]; show Bear rows'[i].2; exact hbe4 _ (List.getElem_mem hi3)
          · exact fun x o e => by rw [upd_ne (ne_of_none e hD)]; exact upd_at ht (si _ _ e)
        · rintro H' ⟨ys, rs, eD, hys, hfs, hbr, si⟩
          have en : (((zs.map V.str).length : Nat) : Int).toNat = zs.length := by rw [List.length_map]; omega
          rw [en, List.take_length] at hfs
          exact ⟨D, ys, rs, none, rfl, eD, hys, hfs, hbr, hD0, nDa, (T4.same si).mono (by omega), k4.same si⟩
      · obtain ⟨_, _, _, hTa, _⟩ := T2.ex
        exact ⟨fp, xs, rows, none, rfl, k3 _ _ nfa ef, hrw.mono fun b ts e => k3 _ _ (ne_of e hTa (by intro z; cases z)) e, hfst, hbe, hf0, nfa, T3.mono (by omega), k2.trans k3⟩
    rintro σ H3 ⟨fp, xs, rows, w5, rfl, ef, hrw, hfst, hbe, hf0, nfa, T3, k3⟩
    exact ⟨_, rfl, q fp xs rows H3 hfst hbe ef hrw nfa hf0 (T3.mono (by omega)) k3⟩
theorem ok_srow {f fD fP : Addr} {fd fdD fdP : FuncData} {k : Nat} (F : Fun K "_law_span_row" "_law_span_row" sSRow f fd) (T0 : Txt0 mg) (T : TxtP mg)
    (F_law_draw : Fun K "_law_draw" "_law_draw" sDraw fD fdD) (g_law_draw : mg "_law_draw" = some (.ref fD)) (b_law_draw : Binds K fdD ["_law_tape_here", "_law_many"] [])
    (F_law_pick : Fun K "_law_pick" "_law_pick" sPick fP fdP) (g_law_pick : mg "_law_pick" = some (.ref fP)) (b_law_pick : Binds K fdP ["_law_tape_here", "_law_some"] []) :
    FnOk P w K mg base CX0 (k + 3) f fd ["_law_tape_here", "_law_many"] spSRow := by
  have G_law_draw : FnOk P w K mg base CX0 (k + 2) fD fdD ["_law_tape_here", "_law_many"] spDraw := ok_draw F_law_draw T0
  have G_law_pick : FnOk P w K mg base CX0 (k + 2) fP fdP ["_law_tape_here", "_law_some"] spPick := ok_pick F_law_pick T0 F_law_draw g_law_draw b_law_draw
  refine F.ok scSRow (fun vs H Q E h => ?_) (fun cdv A outer s H vs Q E hr h => ?_)
  · obtain ⟨a, c, m, n, rfl, _⟩ := h
    rfl
  · obtain ⟨a, c, m, n, rfl, hm, hn, hT, q⟩ := h
    have hr_law_draw := hr
    have hr_law_pick := hr
    refine ⟨_,
      (pss_cons (ps_set (i := 2) scSRow.nd rfl (.inr rfl) (pe_call G_law_pick hr_law_pick (by rfl) g_law_pick F_law_pick.kp b_law_pick .nil pass0 (pa_cons (pv 0) (pa_cons (pe_lst (pa_cons pe_int (pa_cons pe_int (pa_cons pe_int (pa_cons (pe_op op_pow pe_int pe_int) pa_nil))))) pa_nil))))
      (pss_one (ps_ret (pe_lc (own := [("_law_k", 3)]) (g := gName 3) (tt := tYes) rfl scSRow.nd (pi_range1 (by rfl) T.mrange (pa_cons (pv 1) pa_nil)) (blkOk_by (N := NSRow) (own := [("_law_k", 3)]) (sc := defScope sSRow) (by decide +kernel)) (fun _ _ _ _ _ => pg_name (i := 3) scSRow.nd rfl (Or.inl rfl)) (fun _ _ _ _ _ => pts_nil) (fun _ _ _ _ _ => (pe_op op_add pe_int (pe_call G_law_draw hr_law_draw (by rfl) g_law_draw F_law_draw.kp b_law_draw .nil pass0 (pa_cons (pv 0) (pa_cons (pv 2) pa_nil)))))))))
      , ?_⟩
    refine ⟨_, rfl, _, _, rfl, rfl, ⟨by decide, by decide, by decide⟩, by show 4 ≤ sizeLine; decide, fun l hl => ?_⟩
    refine ⟨a, c, l, _, n, rfl, upd_same, hT.ne hl, by show 0 < 4; decide, by show 4 < 1000000; decide, by omega, hT.new hl, fun j x H1 hx T1 k1 => ?_⟩
    obtain ⟨most, rfl, hm0, hm1⟩ := pickI (xs := [3, 20, 1000, 1000000]) (lo := 3) (hi := 1000000) (by simp) hx
    have k01 : Keep a H H1 := (Keep.refl.new hl).trans k1
    refine ⟨_, rfl, (m : Int), rfl, by omega, by omega, fun D hD => ?_⟩
    have nDa : D ≠ a := T1.ne hD
    have nDc : D ≠ c := T1.nec hD
    have hD0 : H D = none := by
      cases e : H D with
      | none => rfl
      | some o => have := k01 D o nDa e; rw [hD] at this; cases this
    refine lc_range (lo := 0) (n := (m : Int).toNat) (fun i H' => ∃ ns : List Int, H' D = some (.lst (ns.map V.int)) ∧ ns.length = i ∧ (∀ z ∈ ns, Bear z) ∧ Tape H' a c (n + 1 + i) ∧ Keep a H H')
      ⟨[], upd_same, rfl, fun x hx => (by cases hx), T1.new hD, k01.new hD⟩ ?_ ?_
    · rintro i H' hi ⟨ns, eD, ln, hb, Ti, ki⟩
      refine ⟨rfl, _, rfl, _, rfl, a, c, most, n + 1 + i, rfl, by omega, by omega, by omega, Ti, fun d H3 d0 d1 T3 k3 => ?_⟩
      refine ⟨_, _, rfl, rfl, _, k3 _ _ nDa eD, by rw [List.length_map]; exact Nat.lt_of_lt_of_le (show ns.length < 1000 by omega) (Nat.le_trans (show 1000 ≤ 100000 by decide) (by decide)), ns ++ [1 + d], by rw [upd_same, List.map_append]; rfl, by rw [List.length_append, ln]; rfl, ?_, (T3.upd nDa nDc).mono (by omega), fun x o nx e => by rw [upd_ne (ne_of_none e hD0)]; exact k3 x o nx (ki x o nx e)⟩
      intro x hx
      rcases List.mem_append.mp hx with hx | hx
      · exact hb x hx
      · rw [List.mem_singleton.mp hx]; exact ⟨by omega, by omega⟩
    · rintro H' ⟨ns, eD, ln, hb, Ti, ki⟩
      exact q D ns H' (by omega) hb eD nDa hD0 (Ti.mono (by omega)) ki
theorem ok_dparts {f fD fP fN fB fS : Addr} {fd fdD fdP fdN fdB fdS : FuncData} {k : Nat} (F : Fun K "_law_drawn_parts" "_law_drawn_parts" sDParts f fd) (T0 : Txt0 mg) (TN : TxtN mg) (T : TxtP mg)
    (F_law_draw : Fun K "_law_draw" "_law_draw" sDraw fD fdD) (g_law_draw : mg "_law_draw" = some (.ref fD)) (b_law_draw : Binds K fdD ["_law_tape_here", "_law_many"] [])
    (F_law_pick : Fun K "_law_pick" "_law_pick" sPick fP fdP) (g_law_pick : mg "_law_pick" = some (.ref fP)) (b_law_pick : Binds K fdP ["_law_tape_here", "_law_some"] [])
    (F_law_names : Fun K "_law_names" "_law_names" sNames fN fdN) (g_law_names : mg "_law_names" = some (.ref fN)) (b_law_names : Binds K fdN ["_law_tape_here", "_law_many"] [])
    (F_law_boat_rows : Fun K "_law_boat_rows" "_law_boat_rows" sBRows fB fdB) (g_law_boat_rows : mg "_law_boat_rows" = some (.ref fB)) (b_law_boat_rows : Binds K fdB ["_law_tape_here", "_law_names_here"] [])
    (F_law_span_row : Fun K "_law_span_row" "_law_span_row" sSRow fS fdS) (g_law_span_row : mg "_law_span_row" = some (.ref fS)) (b_law_span_row : Binds K fdS ["_law_tape_here", "_law_many"] []) :
    FnOk P w K mg base CX0 (k + 4) f fd ["_law_tape_here"] spDParts := by
  have G_law_draw : FnOk P w K mg base CX0 (k + 3) fD fdD ["_law_tape_here", "_law_many"] spDraw := ok_draw F_law_draw T0
  have G_law_pick : FnOk P w K mg base CX0 (k + 3) fP fdP ["_law_tape_here", "_law_some"] spPick := ok_pick F_law_pick T0 F_law_draw g_law_draw b_law_draw
  have G_law_names : FnOk P w K mg base CX0 (k + 3) fN fdN ["_law_tape_here", "_law_many"] spNames := ok_names F_law_names T0 TN F_law_draw g_law_draw b_law_draw
  have G_law_boat_rows : FnOk P w K mg base CX0 (k + 3) fB fdB ["_law_tape_here", "_law_names_here"] spBRows := ok_brows F_law_boat_rows T0 T F_law_draw g_law_draw b_law_draw F_law_pick g_law_pick b_law_pick
  have G_law_span_row : FnOk P w K mg base CX0 (k + 3) fS fdS ["_law_tape_here", "_law_many"] spSRow := ok_srow F_law_span_row T0 T F_law_draw g_law_draw b_law_draw F_law_pick g_law_pick b_law_pick
  refine F.ok scDParts (fun vs H Q E h => ?_) (fun cdv A outer s H vs Q E hr h => ?_)
  · obtain ⟨a, c, n, rfl, _⟩ := h
    rfl
  · obtain ⟨a, c, n, rfl, hn, hT, q⟩ := h
    have hr_law_draw := hr
    have hr_law_pick := hr
    have hr_law_names := hr
    have hr_law_boat_rows := hr
    have hr_law_span_row := hr
    refine ⟨_,
      (pss_cons (ps_set (i := 1) scDParts.nd rfl (.inl rfl) (pe_call G_law_pick hr_law_pick (by rfl) g_law_pick F_law_pick.kp b_law_pick .nil pass0 (pa_cons (pv 0) (pa_cons (pe_lst (pa_cons pe_int (pa_cons pe_int (pa_cons pe_int (pa_cons (pe_op op_add pe_int (pe_call G_law_draw hr_law_draw (by rfl) g_law_draw F_law_draw.kp b_law_draw .nil pass0 (pa_cons (pv 0) (pa_cons pe_int pa_nil)))) (pa_cons pe_int pa_nil)))))) pa_nil))))
      (pss_one (ps_ret (pe_tup (pa_cons (pe_call G_law_boat_rows hr_law_boat_rows (by rfl) g_law_boat_rows F_law_boat_rows.kp b_law_boat_rows .nil pass0 (pa_cons (pv 0) (pa_cons (pe_call G_law_names hr_law_names (by rfl) g_law_names F_law_names.kp b_law_names .nil pass0 (pa_cons (pv 0) (pa_cons (pv 1) pa_nil))) pa_nil))) (pa_cons (pe_call G_law_span_row hr_law_span_row (by rfl) g_law_span_row F_law_span_row.kp b_law_span_row .nil pass0 (pa_cons (pv 0) (pa_cons (pe_op op_add (pv 1) pe_int) pa_nil))) pa_nil))))))
      , ?_⟩
    refine ⟨_, rfl, _, rfl, a, c, 10, n, rfl, by omega, by omega, by omega, hT, fun d H1 d0 d1 T1 k1 => ⟨_, _, rfl, rfl, by show 5 ≤ sizeLine; decide, fun l hl => ?_⟩⟩
    refine ⟨a, c, l, _, n + 1, rfl, upd_same, T1.ne hl, by show 0 < 5; decide, by show 5 < 1000000; decide, by omega, T1.new hl, fun j x H2 hx T2 k2 => ?_⟩
    obtain ⟨mi, rfl, hm0, hm1⟩ := pickI (xs := [1, 2, 3, 1 + d, 10]) (lo := 1) (hi := 10) (by simp; omega) hx
    obtain ⟨m, rfl⟩ := Int.eq_ofNat_of_zero_le (show 0 ≤ mi by omega)
    have k02 : Keep a H H2 := (k1.new hl).trans k2
    refine ⟨_, rfl, _, rfl, _, rfl, a, c, m, n + 2, rfl, by omega, by omega, by omega, T2, fun np zs H3 lz hz8 hnd enp npa T3 k3 => ?_⟩
    refine ⟨a, c, np, zs, n + 42, rfl, enp, npa, by omega, by omega, by omega, T3, fun r xs rows H4 hfst hbe er hrw nra hr0 T4 k4 => ?_⟩
    refine ⟨_, rfl, _, rfl, _, _, rfl, rfl, a, c, m + 1, n + 72, rfl, by omega, by omega, T4, fun s spans H5 lsp hsp es nsa hs0 T5 k5 => ⟨by show 2 ≤ sizeLine; decide, fun t ht => ?_⟩⟩
    obtain ⟨_, _, _, hTa, _⟩ := T4.ex
    have lrows : rows.length = m := by rw [← lz, ← hfst, List.length_map]
    refine q t r s rows spans _ ⟨by omega, by omega, by rw [hfst]; exact hnd, by omega, hsp⟩ hbe (fun x hx => hz8 _ (by rw [← hfst]; exact List.mem_map_of_mem hx)) ⟨upd_same, ⟨xs, upd_at ht (k5 _ _ nra er), hrw.mono fun b ts e => upd_at ht (k5 _ _ (ne_of e hTa (by intro z; cases z)) e)⟩, upd_at ht es⟩ nra nsa ((T5.new ht).mono (by omega)) ((((k02.trans k3).trans k4).trans k5).new ht)
theorem ok_made {f fI fR fB fS fW : Addr} {fd fdI fdR fdB fdS fdW : FuncData} {k : Nat} (F : Fun K "_law_made" "_law_made" sMade f fd) (TB0 : TxtB mg) (TB : BCl K mg C) (TC : BrCl K mg CB) (T : TxtP mg)
    (MBoat : Mk K C fI) (FI : Fun K "__init__" "Boat.__init__" sBInit fI fdI) (bBoat : Binds K fdI ["self", "name", "bears"] [])
    (MBridge : Mk K CB fR) (FR : Fun K "__init__" "Bridge.__init__" sBrInit fR fdR) (bBridge : Binds K fdR ["self", "boats", "spans"] [])
    (F_are_boats : Fun K "_are_boats" "_are_boats" sAreB fB fdB) (g_are_boats : mg "_are_boats" = some (.ref fB)) (b_are_boats : Binds K fdB ["thing"] [])
    (F_are_spans : Fun K "_are_spans" "_are_spans" sAreS fS fdS) (g_are_spans : mg "_are_spans" = some (.ref fS)) (b_are_spans : Binds K fdS ["thing"] [])
    (Fis_whole : Fun K "is_whole" "is_whole" sIsW fW fdW) (gis_whole : mg "is_whole" = some (.ref fW)) (bis_whole : Binds K fdW ["thing", "least", "most"] []) :
    FnOk P w K mg base CX0 (k + 5) f fd ["_law_parts"] (spMade C CB) := by
  have GBoat : FnOk P w K mg base CX0 (k + 1) fI fdI ["self", "name", "bears"] (spBInit C) := ok_binit FI TB
  have GBridge : FnOk P w K mg base CX0 (k + 3) fR fdR ["self", "boats", "spans"] (spBrInit C CB) := ok_brinit FR TB0 TB TC F_are_boats g_are_boats b_are_boats F_are_spans g_are_spans b_are_spans Fis_whole gis_whole bis_whole
  refine F.ok scMade (fun vs H Q E h => ?_) (fun cdv A outer s H vs Q E hr h => ?_)
  · obtain ⟨p, r, s, rows, spans, rfl, _⟩ := h
    rfl
  · obtain ⟨p, r, sp, rows, spans, rfl, hp, hg, q⟩ := h
    have hrBoat : Room (k + 2) _ := hr.mono (by omega)
    have hrBridge : Room (k + 4) _ := hr
    have gCBoat := TB.gC
    have gCBridge := TC.gC
    refine ⟨_,
      (pss_one (ps_ret (pe_make MBridge GBridge hrBridge (by rfl) gCBridge bBridge .nil pass0 (pa_cons (pe_lc (own := [("_law_name", 1), ("_law_bears", 2)]) (g := gTup K 2 (gCons (gName 1) (gCons (gName 2) gNil))) (tt := tYes) rfl scMade.nd (pi_list (pe_ix ix_tup (pv 0) pe_int (fun _ _ => rfl))) (blkOk_by (N := NMade) (own := [("_law_name", 1), ("_law_bears", 2)]) (sc := defScope sMade) (by decide +kernel)) (fun _ _ _ _ _ => pg_tup rfl (pgs_cons (pg_name (i := 1) scMade.nd rfl (Or.inl rfl)) (pgs_cons (pg_name (i := 2) scMade.nd rfl (Or.inl rfl)) pgs_nil))) (fun _ _ _ _ _ => pts_nil) (fun _ _ _ _ _ => (pe_make MBoat GBoat hrBoat (by rfl) gCBoat bBoat .nil pass0 (pa_cons (pv 1) (pa_cons (pv 2) pa_nil))))) (pa_cons (pe_callTy call_list_of (by rfl) T.mlist (by decide +kernel) (pa_cons (pe_ix ix_tup (pv 0) pe_int (fun _ _ => rfl)) pa_nil)) pa_nil)))))
      , ?_⟩
    obtain ⟨xs, er, hrw⟩ := hp.rw
    have hlx := hrw.len
    refine ⟨_, rfl, p, _, 0, _, rfl, rfl, SqT.of hp.tp, atI_nat (j := 0) rfl, r, rfl, ⟨_, SqL.of er⟩, fun D hD => ?_⟩
    refine lc_list (K := K) (a := r) (xs := xs) (fun i H' => ∃ ys, H' D = some (.lst ys) ∧ Boats C H' ys (rows.take i) ∧ ys.length = i ∧ Same H H')
      ⟨[], upd_same, .nil, rfl, same_upd hD⟩ (fun i H' _ ⟨_, _, _, _, z⟩ => SqL.of (z _ _ er)) ?_ ?_
    · rintro i y H' hy ⟨ys, eD, hys, ly, si⟩
      obtain ⟨b, x, rfl, hx, hb⟩ := hrw.at hy
      have hi : i < xs.length := (List.getElem?_eq_some_iff.mp hy).1
      refine ⟨b, _, rfl, SqT.of (si _ _ hb), rfl, _, _, rfl, _, _, rfl, rfl, rfl, _, rfl, _, rfl, ?_⟩
      intro x1 dx1 hx1 hdx1 ne1
      refine ⟨x1, dx1, x.1, x.2, rfl, upd_same, fun H2 hb2 k2 => ⟨rfl, ?_⟩⟩
      have s2 := made_same hx1 hdx1 k2
      have eD2 := s2 _ _ eD
      obtain ⟨dx2, eb2⟩ := hb2
      have nxD : x1 ≠ D := ne_of eb2 eD2 (by intro z; cases z)
      refine ⟨ys, eD2, small100 (by have := hg.l1; omega), ys ++ [.ref x1], upd_same, ?_, by rw [List.length_append, ly]; rfl, fun z o e => by rw [upd_ne (ne_of_none e hD)]; exact s2 _ _ (si _ _ e)⟩
      have h3 : Boats C (upd H2 D (.lst (ys ++ [.ref x1]))) ys (rows.take i) := (hys.same s2).mono fun a dx n b e => by rw [upd_ne (ne_of e eD2 (by intro z; cases z))]; exact e
      rw [List.take_succ, hx]
      exact h3.app (.cons ⟨dx2, by rw [upd_ne nxD]; exact eb2⟩ .nil)
    · rintro H' ⟨ys, eD, hys, ly, si⟩
      rw [hlx, List.take_length] at hys
      refine ⟨_, rfl, p, _, 1, _, rfl, rfl, SqT.of (si _ _ hp.tp), atI_nat (j := 1) rfl, sp, _, rfl, .inl (SqL.of (si _ _ hp.sp)), fun s2 hs2 => ?_⟩
      have ss := same_upd (o := .lst (spans.map V.int)) hs2
      intro x dx hx hdx ne
      have nsx : s2 ≠ x := ne_of_none (upd_same (H := H') (a := s2) (o := .lst (spans.map V.int))) hx
      have nsd : s2 ≠ dx := ne_of_none (upd_same (H := H') (a := s2) (o := .lst (spans.map V.int))) hdx
      have s3 : Same (upd H' s2 (.lst (spans.map V.int))) (upd (upd (upd H' s2 (.lst (spans.map V.int))) dx (.own x)) x (.ins CB dx [])) := fun b o e => by
        rw [upd_ne (ne_of_none e hx), upd_ne (ne_of_none e hdx)]; exact e
      refine ⟨x, dx, D, s2, ys, rows, spans, rfl, upd_same, s3 _ _ (ss _ _ eD), hys.same (ss.trans s3), s3 _ _ upd_same, hg, fun bl sl H2 hbl hsl hbr k2 => ⟨rfl, ?_⟩⟩
      have back : ∀ z, (upd (upd (upd H' s2 (.lst (spans.map V.int))) dx (.own x)) x (.ins CB dx [])) z = none → H z = none := fun z e => by
        cases ez : H z with
        | none => rfl
        | some o => rw [s3 _ _ (ss _ _ (si _ _ ez))] at e; cases e
      have sAll : Same H H2 := fun b o e => k2 b o (ne_of_none (ss _ _ (si _ _ e)) hx) (s3 _ _ (ss _ _ (si _ _ e)))
      exact q x bl sl H2 (back _ hbl) (back _ hsl) sAll hbr
end
/-! ### f"{o}" of an own object; slices of lists by steps; zip in comprehensions -/
section
variable {X : Cx}
section
variable {CX : CXT} {C g : Addr} {n : Nat} {fd : FuncData} {ps : List Str} {sp : Sp} {E : XK}
def tFmtO (C : Addr) (sp : Sp) (E : XK) (te : TE) : TE := fun σ H Q => te σ H fun x H1 => rOwn1 C sp E QStr [x] H1 Q
theorem pe_fmtO {e : Expr} {te : TE} {pos : Pos} (he : PE X e te) (hfm : PySem.W.findIn X.K (.ref C) "__format__" = some (some (.builtin "object.__format__"))) (hm : PySem.W.mroIn X.K C (.type "object") = some true)
    (hs : PySem.W.findIn X.K (.ref C) "__str__" = some (some (.ref g))) (hf : PySem.W.isFn X.K (.ref g) = true) (F : FnOk X.prog X.w X.K X.mg X.base CX n g fd ps sp) (hb : L2.Binds X.K fd ps []) (hr : Room (n + 1) X.A) (hx : Passes CX X E) : PE X (.FormattedValue e (-1) none pos) (tFmtO C sp E te) := by
  refine ⟨fun pins s σ H Q I h => ?_⟩
  refine wpAny_FormattedValue_plain (thn (he.run pins s σ H _ I h) fun v s1 hv => ?_)
  obtain ⟨x, H1, I1, r1, a, dx, fs, ex, ha, q⟩ := hv
  cases ex
  cases (show v = Value.ref a from r1)
  obtain ⟨od, J⟩ := inst_of I1 ha
  have hr2 : Room n X.A.in1 := hr.in1
  refine PySem.W.kfo_fieldS hr2.units0 I1.kIn J hfm hm hs hf ?_
  exact wpAny_mono (run_fnA (A := X.A.in1) (us := [.ref a]) (vs := [.ref a]) F hr2 rfl hb hx (I1.tok _) (.cons rfl .nil) q) (fun v s' z => strback z) fun _ _ x => x
end
/-- f'..' within a comprehension -/
def tJoined (ts : List TE) : TE := fun σ H Q => tJs ts Str.empty σ H fun out H1 => Q (.str out) H1
theorem pe_joinedN {v1 v2 : Expr} {rest : List Expr} {ts : List TE} {pos : Pos} (h : PJ X (v1 :: v2 :: rest) ts) : PE X (.JoinedStr (v1 :: v2 :: rest) pos) (tJoined ts) := pe_joined h
/-- what xs[lo::k] picks -/
def stepIx (lo : Option Int) (k : Int) (n : Nat) : List Nat := sliceRange (sliceBounds lo none (some k) n).1 (sliceBounds lo none (some k) n).2.1 (sliceBounds lo none (some k) n).2.2
def stepV {α : Type} (xs : List α) (lo : Option Int) (k : Int) : List α := (stepIx lo k xs.length).filterMap (xs[·]?)
theorem vals_pick {xs : List V} {its : List Value} (r : Vals xs its) : ∀ ix : List Nat, Vals (ix.filterMap (xs[·]?)) (ix.filterMap (its[·]?))
  | [] => .nil
  | i :: ix => by
    rw [List.filterMap_cons, List.filterMap_cons]
    have hl := r.length
    by_cases h : i < xs.length
    · obtain ⟨u, eu, ru⟩ : ∃ u, its[i]? = some u ∧ RelV xs[i] u := by
        clear hl
        revert i
        induction r with
        | nil => intro i h; exact absurd h (Nat.not_lt_zero _)
        | cons a _ ih =>
          intro i h
          cases i with
          | zero => exact ⟨_, rfl, a⟩
          | succ i => exact ih i (Nat.lt_of_succ_lt_succ h)
      rw [List.getElem?_eq_getElem h, eu]
      exact .cons ru (vals_pick r ix)
    · rw [List.getElem?_eq_none (by omega), List.getElem?_eq_none (by omega)]
      exact vals_pick r ix
def tStepL (K : PySem.W.Frag) (te : TE) (tl : TO) (k : Int) : TE := fun σ H Q => te σ H fun x H1 => tl σ H1 fun lo H2 => ∃ a xs, x = .ref a ∧ SqL K H2 a xs ∧ (stepV xs lo k).length ≤ sizeLine ∧ ∀ p, H2 p = none → Q (.ref p) (upd H2 p (.lst (stepV xs lo k)))
theorem pe_stepL {e : Expr} {lo : Option Expr} {te : TE} {tl : TO} {k : Int} {kk : Nat} {p1 p3 pos : Pos} (he : PE X e te) (hlo : PO X lo tl) (hk : k ≠ 0) : PE X (.Subscript e (.Slice lo none (some (.Constant (.int k) kk p1)) p3) pos) (tStepL X.K te tl k) := by
  refine ⟨fun pins s σ H Q I h => ?_⟩
  refine Subscript_ (thn (he.run pins s σ H _ I h) fun v s1 ⟨x, H1, I1, r1, q1⟩ => ?_)
  have hst : PO X (some (.Constant (.int k) kk p1)) (tPart (tC (.int k))) := po_some pe_int
  refine wpAny_Slice (thn (hlo.run pins s1 σ H1 _ I1 q1) fun vl s2 ⟨l, H2, I2, pl, q2⟩ => ?_)
  obtain ⟨a, xs, ex, hx, hz2, q⟩ := q2
  subst ex
  cases r1
  refine thn (po_none.run pins s2 σ H2 (fun o H3 => o = none ∧ H3 = H2) I2 ⟨rfl, rfl⟩) fun vu s3 ⟨u, H3, I3, pu, eu, e3⟩ => ?_
  subst eu e3
  refine thn (hst.run pins s3 σ H3 (fun o H4 => o = some k ∧ H4 = H3) I3 ⟨k, rfl, rfl, rfl⟩) fun vs s4 ⟨o, H4, I4, ps, eo, e4⟩ => ?_
  subst eo e4
  have I5 : Inv X pins σ H4 { s4 with heap := s4.heap.push { cls := .type "slice", data := .fields #[vl, vu, vs] } } := I4.kept (t' := s4.toks) fun b ob q => Heap.get?_push_of_some _ q
  obtain ⟨its, r, ht, hz⟩ := I5.list hx
  have hlen := r.length
  show wpAny (model X.prog X.w) X.A (subscriptTail e (.Slice lo none (some (.Constant (.int k) kk p1)) p3) (.ref a) (.ref s4.heap.objs.size)) (EP X pins σ Q) X.xe { s4 with heap := s4.heap.push { cls := .type "slice", data := .fields #[vl, vu, vs] } }
  refine tail_any (ops := [.ref a, .ref s4.heap.objs.size]) ht.isList.typeIs (PySem.slot_list_getitem.lookup) ?_ (by with_unfolding_all rfl)
  refine wpAny_getItem_list_slice ht.isList (Heap.IsSliceOf.new _ vl vu vs) pl pu ps (fun e => hk (Option.some.inj e)) ?_ (by rw [List.size_toArray]; omega)
  have hp := vals_pick r (stepIx l k xs.length)
  have e1 : slicePick its.toArray l none (some k) = ((stepIx l k xs.length).filterMap (its[·]?)).toArray := by
    unfold slicePick stepIx
    rw [List.size_toArray, hlen]
    simp
  rw [e1]
  refine ⟨.ref _, _, I5.laid (t' := s4.toks) (o := .lst (stepV xs l k)) (fun b ob q => Heap.get?_push_of_some _ q) (Nat.le_refl _) ?_, rfl, q _ (I5.hok.fresh (Nat.le_refl _))⟩
  exact ⟨hz2, _, 0, hp, Heap.get?_push_size _ rfl⟩
end
/-- all the places -/
theorem fm_range {α : Type} : ∀ (l : List α), (List.range l.length).filterMap (fun k => l[k]?) = l
  | [] => rfl
  | x :: l => by
    rw [List.length_cons, List.range_succ_eq_map, List.filterMap_cons]
    show x :: _ = _
    rw [List.filterMap_map]
    congr 1
    exact fm_range l
/-- two lists by turns -/
def weave {α : Type} : List α → List α → List α
  | b :: bs, s :: ss => b :: s :: weave bs ss
  | _, _ => []
theorem weave_at {α : Type} : ∀ (bs ss : List α) (k : Nat), bs.length = ss.length → (weave bs ss)[2 * k]? = bs[k]? ∧ (weave bs ss)[2 * k + 1]? = ss[k]?
  | [], [], k, _ => ⟨by simp [weave], by simp [weave]⟩
  | b :: bs, s :: ss, 0, _ => ⟨rfl, rfl⟩
  | b :: bs, s :: ss, k + 1, h => by
    have := weave_at bs ss k (Nat.succ.inj h)
    exact this
theorem weave_len {α : Type} : ∀ (bs ss : List α), bs.length = ss.length → (weave bs ss).length = 2 * bs.length
  | [], [], _ => rfl
  | b :: bs, s :: ss, h => by
    have := weave_len bs ss (Nat.succ.inj h)
    show (weave bs ss).length + 1 + 1 = 2 * (bs.length + 1)
    omega
theorem step_odd {α : Type} {s0 : α} {bs ss : List α} (h : bs.length = ss.length) : stepV (s0 :: weave bs ss) (some 1) 2 = bs := by
  have hl := weave_len bs ss h
  unfold stepV stepIx
  have e : sliceBounds (some 1) none (some 2) (s0 :: weave bs ss).length = (1, ((2 * bs.length + 1 : Nat) : Int), 2) := by
    rw [List.length_cons, hl]
    show (max 0 (min 1 _), _, _) = _
    congr 1
    omega
  rw [e]
  show ((List.range (if (2 : Int) > 0 then (if (1 : Int) < ((2 * bs.length + 1 : Nat) : Int) then (((2 * bs.length + 1 : Nat) : Int) - 1 + 2 - 1) / 2 else 0) else _).toNat).map fun (k : Nat) => ((1 : Int) + 2 * (k : Int)).toNat).filterMap _ = bs
  rw [if_pos (by decide)]
  have hc : (if (1 : Int) < ((2 * bs.length + 1 : Nat) : Int) then (((2 * bs.length + 1 : Nat) : Int) - 1 + 2 - 1) / 2 else 0).toNat = bs.length := by split <;> omega
  rw [hc, List.filterMap_map]
  refine Eq.trans ?_ (fm_range bs)
  refine congrArg (fun f => List.filterMap f (List.range bs.length)) (funext fun k => ?_)
  show (s0 :: weave bs ss)[((1 : Int) + 2 * (k : Int)).toNat]? = _
  rw [show ((1 : Int) + 2 * (k : Int)).toNat = 2 * k + 1 by omega, List.getElem?_cons_succ, (weave_at bs ss k h).1]
theorem step_even {α : Type} {s0 : α} {bs ss : List α} (h : bs.length = ss.length) : stepV (s0 :: weave bs ss) none 2 = s0 :: ss := by
  have hl := weave_len bs ss h
  unfold stepV stepIx
  have e : sliceBounds none none (some 2) (s0 :: weave bs ss).length = (0, ((2 * bs.length + 1 : Nat) : Int), 2) := by
    rw [List.length_cons, hl]
    rfl
  rw [e]
  show ((List.range (if (2 : Int) > 0 then (if (0 : Int) < ((2 * bs.length + 1 : Nat) : Int) then (((2 * bs.length + 1 : Nat) : Int) - 0 + 2 - 1) / 2 else 0) else _).toNat).map fun (k : Nat) => ((0 : Int) + 2 * (k : Int)).toNat).filterMap _ = s0 :: ss
  rw [if_pos (by decide)]
  have hc : (if (0 : Int) < ((2 * bs.length + 1 : Nat) : Int) then (((2 * bs.length + 1 : Nat) : Int) - 0 + 2 - 1) / 2 else 0).toNat = (s0 :: ss).length := by rw [List.length_cons, ← h]; split <;> omega
  rw [hc, List.filterMap_map]
  refine Eq.trans ?_ (fm_range (s0 :: ss))
  refine congrArg (fun f => List.filterMap f (List.range (s0 :: ss).length)) (funext fun k => ?_)
  show (s0 :: weave bs ss)[((0 : Int) + 2 * (k : Int)).toNat]? = _
  rw [show ((0 : Int) + 2 * (k : Int)).toNat = 2 * k by omega]
  cases k with
  | zero => rfl
  | succ k =>
    rw [show 2 * (k + 1) = (2 * k + 1) + 1 by omega, List.getElem?_cons_succ, List.getElem?_cons_succ, (weave_at bs ss k h).2]
/-! ### comprehensions over zip, over texts -/
theorem lc_zip {K : PySem.W.Frag} {a b : Addr} {xs ys : List V} {g : TG} {tt : TT} {te : TE} {vs : List Nat} {σ : L2.St} {H1 : Hp} {D : Addr} {Qd : Hp → Prop} (hlen : xs.length = ys.length) (Pv : Nat → Hp → Prop) (h0 : Pv 0 (upd H1 D (.lst []))) (hl : ∀ i H, i ≤ xs.length → Pv i H → SqL K H a xs ∧ SqL K H b ys)
    (hs : ∀ i x y T H, xs[i]? = some x → ys[i]? = some y → Pv i H → H T = none → g (.ref T) (wipe σ vs) (upd H T (.tup [x, y])) fun σ2 H2 => wipe σ2 vs = wipe σ vs ∧ tt σ2 H2 fun b H3 =>
      if b = true then te σ2 H3 fun y H4 => ∃ acc, H4 D = some (.lst acc) ∧ acc.length < sizeLine ∧ Pv (i + 1) (upd H4 D (.lst (acc ++ [y]))) else Pv (i + 1) H3) (hd : ∀ H, Pv xs.length H → Qd H) :
    ∃ W : Nat → Nat → Hp → Prop, (∃ m, W 0 m (upd H1 D (.lst []))) ∧ ∀ i m H, W i m H →
      ((Itz K a b).stop i H ∧ Qd H) ∨ ((Itz K a b).go i H ∧ ∃ Nx : Hp → Prop, (∀ H', Nx H' → ∃ m', m' < m ∧ W (i + 1) m' H') ∧ ∀ x H', (Itz K a b).yld i H x H' → g x (wipe σ vs) H' fun σ2 H2 => wipe σ2 vs = wipe σ vs ∧ tt σ2 H2 fun b H3 =>
        if b = true then te σ2 H3 fun y H4 => ∃ acc, H4 D = some (.lst acc) ∧ acc.length < sizeLine ∧ Nx (upd H4 D (.lst (acc ++ [y]))) else Nx H3) := by
  refine ⟨fun i m H => m = xs.length - i ∧ i ≤ xs.length ∧ Pv i H, ⟨xs.length, by simp, Nat.zero_le _, h0⟩, ?_⟩
  rintro i m H ⟨rfl, hi, p⟩
  obtain ⟨qx, qy⟩ := hl i H hi p
  by_cases hlt : i < xs.length
  · have hx : xs[i]? = some xs[i] := List.getElem?_eq_getElem hlt
    have hlt2 : i < ys.length := by omega
    have hy : ys[i]? = some ys[i] := List.getElem?_eq_getElem hlt2
    refine .inr ⟨⟨xs, ys, _, _, qx, qy, hx, hy⟩, Pv (i + 1), fun H' p' => ⟨xs.length - (i + 1), by omega, rfl, hlt, p'⟩, fun v H' y => ?_⟩
    obtain ⟨T, x', y', rfl, hT, rfl, f1, f2⟩ := y
    exact hs i x' y' T H (f1 xs qx) (f2 ys qy) p hT
  · have e : i = xs.length := by omega
    subst e
    exact .inl ⟨⟨xs, ys, qx, qy, Or.inl (Nat.le_refl _)⟩, hd H p⟩
theorem lc_str {z : Str} {g : TG} {tt : TT} {te : TE} {vs : List Nat} {σ : L2.St} {H1 : Hp} {D : Addr} {Qd : Hp → Prop} (Pv : Nat → Hp → Prop) (h0 : Pv 0 (upd H1 D (.lst [])))
    (hs : ∀ i c H, z.cps[i]? = some c → Pv i H → g (.str ⟨#[c]⟩) (wipe σ vs) H fun σ2 H2 => wipe σ2 vs = wipe σ vs ∧ tt σ2 H2 fun b H3 =>
      if b = true then te σ2 H3 fun y H4 => ∃ acc, H4 D = some (.lst acc) ∧ acc.length < sizeLine ∧ Pv (i + 1) (upd H4 D (.lst (acc ++ [y]))) else Pv (i + 1) H3) (hd : ∀ H, Pv z.cps.size H → Qd H) :
    ∃ W : Nat → Nat → Hp → Prop, (∃ m, W 0 m (upd H1 D (.lst []))) ∧ ∀ i m H, W i m H →
      ((Its z).stop i H ∧ Qd H) ∨ ((Its z).go i H ∧ ∃ Nx : Hp → Prop, (∀ H', Nx H' → ∃ m', m' < m ∧ W (i + 1) m' H') ∧ ∀ x H', (Its z).yld i H x H' → g x (wipe σ vs) H' fun σ2 H2 => wipe σ2 vs = wipe σ vs ∧ tt σ2 H2 fun b H3 =>
        if b = true then te σ2 H3 fun y H4 => ∃ acc, H4 D = some (.lst acc) ∧ acc.length < sizeLine ∧ Nx (upd H4 D (.lst (acc ++ [y]))) else Nx H3) := by
  refine ⟨fun i m H => m = z.cps.size - i ∧ i ≤ z.cps.size ∧ Pv i H, ⟨z.cps.size, by simp, Nat.zero_le _, h0⟩, ?_⟩
  rintro i m H ⟨rfl, hi, p⟩
  by_cases hlt : i < z.cps.size
  · refine .inr ⟨hlt, Pv (i + 1), fun H' p' => ⟨z.cps.size - (i + 1), by omega, rfl, hlt, p'⟩, fun x H' y => ?_⟩
    obtain ⟨rfl, c, hc, rfl⟩ := y
    exact hs i c _ hc p
  · have e : i = z.cps.size := by omega
    subst e
    exact .inl ⟨Nat.le_refl _, hd H p⟩
/-! ### what is borne -/
def gD (l : List Int) (k : Nat) : Int := l.getD k 0
theorem gD_at {l : List Int} {k : Nat} (h : k < l.length) : l[k]? = some (gD l k) := by
  unfold gD
  rw [List.getD_eq_getElem?_getD, List.getElem?_eq_getElem h]
  rfl
theorem gD_v {l : List Int} {k : Nat} (h : k < l.length) : (l.map V.int)[k]? = some (.int (gD l k)) := by
  rw [List.getElem?_map, gD_at h]; rfl
def brs (rows : List (Str × Int)) (k : Nat) : Int := gD (rows.map Prod.snd) k
theorem brs_at {rows : List (Str × Int)} {k : Nat} {r : Str × Int} (h : rows[k]? = some r) : brs rows k = r.2 := by
  unfold brs gD
  rw [List.getD_eq_getElem?_getD, List.getElem?_map, h]
  rfl
def hv (ld : List Int) (k : Nat) : Int := gD ld k + gD ld (k + 1)
def hvs (ld : List Int) (n : Nat) : List Int := (List.range n).map (hv ld)
theorem hvs_at {ld : List Int} {n k : Nat} (h : k < n) : ((hvs ld n).map V.int)[k]? = some (.int (hv ld k)) := by
  unfold hvs
  rw [List.getElem?_map, List.getElem?_map, List.getElem?_range h]
  rfl
inductive FaultIs (rows : List (Str × Int)) (spans ld : List Int) : Option (Bool × Nat × Int) → Prop
  | none : (∀ j, j < spans.length → ¬ gD ld j > gD spans j) → (∀ j, j < rows.length → ¬ 2 * brs rows j - hv ld j < 0) → FaultIs rows spans ld none
  | span (k : Nat) : k < spans.length → gD ld k > gD spans k → (∀ j, j < k → ¬ gD ld j > gD spans j) → FaultIs rows spans ld (some (true, k, gD ld k - gD spans k))
  | boat (k : Nat) : (∀ j, j < spans.length → ¬ gD ld j > gD spans j) → k < rows.length → 2 * brs rows k - hv ld k < 0 → (∀ j, j < k → ¬ 2 * brs rows j - hv ld j < 0) → FaultIs rows spans ld (some (false, k, -(2 * brs rows k - hv ld k)))
theorem first_one {p : Nat → Prop} {a b : Nat} (ha : p a) (hb : p b) (la : ∀ j, j < a → ¬ p j) (lb : ∀ j, j < b → ¬ p j) : a = b := by
  rcases Nat.lt_trichotomy a b with h | h | h
  · exact absurd ha (lb a h)
  · exact h
  · exact absurd hb (la b h)
theorem fault_one {rows : List (Str × Int)} {spans ld : List Int} {x y : Option (Bool × Nat × Int)} (h : FaultIs rows spans ld x) (h2 : FaultIs rows spans ld y) : x = y := by
  cases h with
  | none a b =>
    cases h2 with
    | none _ _ => rfl
    | span k c d e => exact absurd d (a k c)
    | boat k c d e f => exact absurd e (b k d)
  | span k a b c =>
    cases h2 with
    | none a' _ => exact absurd b (a' k a)
    | span m a' b' c' =>
      have e : k = m := first_one (p := fun j => gD ld j > gD spans j) b b' c c'
      subst e; rfl
    | boat m a' _ _ _ => exact absurd b (a' k a)
  | boat k a b c d =>
    cases h2 with
    | none _ b' => exact absurd c (b' k b)
    | span m a' b' _ => exact absurd b' (a m a')
    | boat m a' b' c' d' =>
      have e : k = m := first_one (p := fun j => 2 * brs rows j - hv ld j < 0) c c' d d'
      subst e; rfl
def partS (b : Bool) : Str := if b then "span" else "boat"
def ovF (p a o : V) : List (Str × V) := [("over", o), ("at", a), ("part", p)]
def spHalves (C CB : Addr) : Sp := fun vs H Q _ => ∃ (p bl sl l : Addr) (rows : List (Str × Int)) (spans ld : List Int), vs = [.ref p, .ref l] ∧ BrAt C CB H p bl sl rows spans ∧ rows.length ≤ 10 ∧ H l = some (.lst (ld.map V.int)) ∧ ld.length = rows.length + 1 ∧
  ∀ r H', Same H H' → H r = none → H' r = some (.lst ((hvs ld rows.length).map V.int)) → Q (.ref r) H'
def spSpare (C : Addr) : Sp := fun vs H Q _ => ∃ (p : Addr) (n : Str) (b m : Int), vs = [.ref p, .int m] ∧ BoatAt C H p n b ∧ Q (.int (2 * b - m)) H
def spOInit (CO : Addr) : Sp := fun vs H Q _ => ∃ (p : Addr) (x y z : V), vs = [.ref p, x, y, z] ∧ H p = some (exo p CO none) ∧ ∀ d H', H d = none → d ≠ p → H' p = some (exo p CO (some d)) → H' d = some (exd d (ovF x y z)) → (∀ x o, x ≠ p → H x = some o → H' x = some o) → Q .non H'
def spNeed (C CB CO : Addr) : Sp := fun vs H Q E => ∃ (p bl sl l : Addr) (rows : List (Str × Int)) (spans ld : List Int), vs = [.ref p, .ref l] ∧ BrAt C CB H p bl sl rows spans ∧ rows.length ≤ 10 ∧ H l = some (.lst (ld.map V.int)) ∧ ld.length = rows.length + 1 ∧ spans.length = rows.length + 1 ∧
  (∀ H', Same H H' → FaultIs rows spans ld none → Q .non H') ∧ ∀ b (k : Nat) o d H', Same H H' → FaultIs rows spans ld (some (b, k, o)) → H' d = some (.xd (ovF (.str (partS b)) (.int (k : Nat)) (.int o))) → E (.ref CO) (some d) H'
def spBorne (C CB : Addr) : Sp := fun vs H Q _ => ∃ (p bl sl l : Addr) (rows : List (Str × Int)) (spans ld : List Int), vs = [.ref p, .ref l] ∧ BrAt C CB H p bl sl rows spans ∧ rows.length ≤ 10 ∧ H l = some (.lst (ld.map V.int)) ∧ ld.length = rows.length + 1 ∧ spans.length = rows.length + 1 ∧
  ∀ x H', Same H H' → FaultIs rows spans ld x → Q (.bl x.isNone) H'
structure TxtO (mg : Str → Option Value) : Prop where
  mrange : mg "range" = none
  menumerate : mg "enumerate" = none
/-- what is asked of the refusal's class -/
structure OCl (K : PySem.W.Frag) (mg : Str → Option Value) (CO : Addr) : Prop where
  gC : mg "Overload" = some (.ref CO)
  oex : OexB K CO
  n1 : PySem.W.findIn K (.ref CO) "part" = some none
  n2 : PySem.W.findIn K (.ref CO) "at" = some none
  n3 : PySem.W.findIn K (.ref CO) "over" = some none
  hit : PySem.W.exmOne K (.ref CO) (.ref CO) = some true
theorem raise_same {H H1 H' : Hp} {e d : Addr} {X Y : HO} (s : Same H H1) (he : H1 e = none) (hd : (upd H1 e X) d = none) (ne : d ≠ e) (k : ∀ x o, x ≠ e → upd H1 e X x = some o → H' x = some o) : Same H (upd (del H' e) d Y) := by
  intro x o ex
  have e1 := s _ _ ex
  have nx : x ≠ e := ne_of_none e1 he
  have nd : x ≠ d := by
    intro z
    rw [z] at e1
    rw [upd_ne ne, e1] at hd
    cases hd
  rw [upd_ne nd, del_ne nx]
  exact k x o nx (by rw [upd_ne nx]; exact e1)
section
variable {P : Program} {w : World} {K : PySem.W.Frag} {mg : Str → Option Value} {base : Heap} {C CB CO : Addr}
theorem ok_halves {f fL : Addr} {fd fdL : FuncData} {k : Nat} (F : Fun K "halves" "halves" sHalves f fd) (TB0 : TxtB mg) (TC : BrCl K mg CB) (TO : TxtO mg)
    (mL : Meth K CB "__len__" fL) (FL : Fun K "__len__" "Bridge.__len__" sBrLen fL fdL) (bL : Binds K fdL ["self"] []) :
    FnOk P w K mg base CX0 (k + 4) f fd ["bridge", "load"] (spHalves C CB) := by
  have GL : FnOk P w K mg base CX0 (k + 1) fL fdL ["self"] (spBrLen C CB) := ok_brlen FL TB0 TC
  refine F.ok scHalves (fun vs H Q E h => ?_) (fun cdv A outer s H vs Q E hr h => ?_)
  · obtain ⟨p, bl, sl, l, rows, spans, ld, rfl, _⟩ := h
    rfl
  · obtain ⟨p, bl, sl, l, rows, spans, ld, rfl, hp, hr10, hl, hld, q⟩ := h
    have hrL : Room (k + 2) _ := hr.mono (by omega)
    have mrange := TO.mrange
    have T : TxtB mg := TB0
    refine ⟨_, pss_one (ps_ret (pe_lc (own := [("at", 2)]) (g := gName 2) (tt := tYes) rfl scHalves.nd (pi_range1 (by rfl) mrange (pa_cons (pe_callB (call_lenOwn mL.at_ mL.fn GL bL hrL pass0) (by rfl) T.mlen PySem.boot_len (pa_cons (pv 0) pa_nil)) pa_nil)) (blkOk_by (N := NHalves) (own := [("at", 2)]) (sc := defScope sHalves) (by decide +kernel)) (fun _ _ _ _ _ => pg_name (i := 2) scHalves.nd rfl (Or.inl rfl)) (fun _ _ _ _ _ => pts_nil)
      (fun _ _ _ _ _ => pe_op op_add (pe_ix (r := rIxL K) ix_list (pv 1) (pv 2) (fun _ _ => rfl)) (pe_ix (r := rIxL K) ix_list (pv 1) (pe_op op_add (pv 2) pe_int) (fun _ _ => rfl))))), ?_⟩
    obtain ⟨dx, bs, e1, e2, e3⟩ := hp.ex
    refine ⟨_, rfl, p, dx, _, rfl, e1, p, bl, sl, rows, spans, rfl, hp, _, rfl, by omega, by omega, _, rfl, by omega, by omega, fun D hD => ?_⟩
    refine lc_range (lo := 0) (n := ((rows.length : Nat) : Int).toNat) (fun i H' => H' D = some (.lst ((hvs ld i).map V.int)) ∧ Same H H')
      ⟨upd_same, same_upd hD⟩ ?_ ?_
    · rintro i H' hi ⟨eD, si⟩
      have hi2 : i < rows.length := by omega
      have hl' := si _ _ hl
      refine ⟨rfl, _, rfl, _, rfl, l, _, (i : Int), _, rfl, congrArg V.int (by omega), SqL.of hl', atI_nat (gD_v (by omega)), _, rfl, _, rfl, _, _, rfl, rfl, l, _, ((i + 1 : Nat) : Int), _, rfl, congrArg V.int (by omega), SqL.of hl', atI_nat (gD_v (by omega)), _, _, rfl, rfl, _, eD, ?_, ?_, fun z o e => by rw [upd_ne (ne_of_none e hD)]; exact si _ _ e⟩
      · unfold hvs; rw [List.length_map, List.length_map, List.length_range]; exact small100 (by omega)
      · rw [upd_same]
        unfold hvs
        rw [List.range_succ, List.map_append, List.map_append]
        rfl
    · rintro H' ⟨eD, si⟩
      exact q D H' si hD eD
theorem ok_spare {f : Addr} {fd : FuncData} {k : Nat} (F : Fun K "spare" "spare" sSpare f fd) (TB : BCl K mg C) : FnOk P w K mg base CX0 (k + 1) f fd ["boat", "many"] (spSpare C) := by
  refine F.ok scSpare (fun vs H Q E h => ?_) (fun cdv A outer s H vs Q E hr h => ?_)
  · obtain ⟨p, n, b, m, rfl, _⟩ := h
    rfl
  · obtain ⟨p, n, b, m, rfl, ⟨dx, hp⟩, q⟩ := h
    refine ⟨_,
      (pss_one (ps_ret (pe_op op_sub (pe_op op_mul pe_int (pe_fld (pv 0) rfl)) (pv 1))))
      , ?_⟩
    exact ⟨_, rfl, p, C, dx, _, _, rfl, hp, TB.cl, TB.nB, boatF_bears n b, _, _, rfl, rfl, .inl ⟨by decide, by decide⟩, _, rfl, _, _, rfl, rfl, q⟩
theorem ok_oinit {f : Addr} {fd : FuncData} {k : Nat} (F : Fun K "__init__" "Overload.__init__" sOInit f fd) (T : OCl K mg CO) : FnOk P w K mg base CX0 (k + 1) f fd ["self", "part", "at", "over"] (spOInit CO) := by
  refine F.ok scOInit (fun vs H Q E h => ?_) (fun cdv A outer s H vs Q E hr h => ?_)
  · obtain ⟨p, x, y, z, rfl, _⟩ := h
    rfl
  · obtain ⟨p, x, y, z, rfl, hp, q⟩ := h
    refine ⟨_, pss_cons (ps_put (pv 0) (pv 1)) (pss_cons (ps_put (pv 0) (pv 2)) (pss_one (ps_put (pv 0) (pv 3)))), ?_⟩
    refine ⟨_, rfl, _, rfl, p, CO, rfl, T.oex, T.n1, .inl ⟨hp, fun d hd ne => ?_⟩⟩
    have np : p ≠ d := Ne.symm ne
    refine ⟨_, rfl, _, rfl, p, CO, rfl, T.oex, T.n2, .inr ⟨d, [("part", x)], upd_same, by rw [upd_ne ne, upd_same], by show 1 ≤ 900; decide, ?_⟩⟩
    refine ⟨_, rfl, _, rfl, p, CO, rfl, T.oex, T.n3, .inr ⟨d, [("at", y), ("part", x)], by rw [upd_ne np]; exact upd_same, upd_same, by show 2 ≤ 900; decide, ?_⟩⟩
    refine q d _ hd ne (by rw [upd_ne np, upd_ne np]; exact upd_same) upd_same fun x o n e => ?_
    have nd : x ≠ d := ne_of_none e hd
    rw [upd_ne nd, upd_ne nd, upd_ne n, upd_ne nd]
    exact e
theorem ok_need {f fH fS fO fBo fSp fL : Addr} {fd fdH fdS fdO fdBo fdSp fdL : FuncData} {k : Nat} (F : Fun K "need_borne" "need_borne" sNeed f fd) (TB0 : TxtB mg) (TO : TxtO mg) (TB : BCl K mg C) (TC : BrCl K mg CB) (TOv : OCl K mg CO)
    (iXOverload : PySem.W.findIn K (.ref CO) "__init__" = some (some (.ref fO))) (tXOverload : PySem.W.typeIn K (.ref fO) = some (.type "function")) (FO : Fun K "__init__" "Overload.__init__" sOInit fO fdO) (bXOverload : Binds K fdO ["self", "part", "at", "over"] [])
    (mboats : Meth K CB "boats" fBo) (FBo : Fun K "boats" "Bridge.boats" sBrBoats fBo fdBo) (bboats : Binds K fdBo ["self"] [])
    (mspans : Meth K CB "spans" fSp) (FSp : Fun K "spans" "Bridge.spans" sBrSpans fSp fdSp) (bspans : Binds K fdSp ["self"] [])
    (mL : Meth K CB "__len__" fL) (FL : Fun K "__len__" "Bridge.__len__" sBrLen fL fdL) (bL : Binds K fdL ["self"] [])
    (Fhalves : Fun K "halves" "halves" sHalves fH fdH) (ghalves : mg "halves" = some (.ref fH)) (bhalves : Binds K fdH ["bridge", "load"] [])
    (Fspare : Fun K "spare" "spare" sSpare fS fdS) (gspare : mg "spare" = some (.ref fS)) (bspare : Binds K fdS ["boat", "many"] []) :
    FnOk P w K mg base (L2.CX P w) (k + 5) f fd ["bridge", "load"] (spNeed C CB CO) := by
  have Gboats : FnOk P w K mg base CX0 (k + 1) fBo fdBo ["self"] (spBrBoats C CB) := ok_brboats FBo TB0 TC
  have Gspans : FnOk P w K mg base CX0 (k + 1) fSp fdSp ["self"] (spBrSpans C CB) := ok_brspans FSp TB0 TC
  have Ghalves : FnOk P w K mg base CX0 (k + 4) fH fdH ["bridge", "load"] (spHalves C CB) := ok_halves Fhalves TB0 TC TO mL FL bL
  have Gspare : FnOk P w K mg base CX0 (k + 1) fS fdS ["boat", "many"] (spSpare C) := ok_spare Fspare TB
  have GXOverload : FnOk P w K mg base CX0 (k + 1) fO fdO ["self", "part", "at", "over"] (spOInit CO) := ok_oinit FO TOv
  refine F.okX scNeed (fun vs H Q E h => ?_) (fun cdv A outer s H vs Q E hr h => ?_)
  · obtain ⟨p, bl, sl, l, rows, spans, ld, rfl, _⟩ := h
    rfl
  · obtain ⟨p, bl, sl, l, rows, spans, ld, rfl, hp, hr10, hl, hld, hsl, q0, q1⟩ := h
    have hrboats : Room (k + 1) _ := hr.mono (by omega)
    have hrspans : Room (k + 1) _ := hr.mono (by omega)
    have hrhalves := hr
    have hrspare : Room (k + 1) _ := hr.mono (by omega)
    have hrXOverload : Room (k + 2) _ := hr.mono (by omega)
    have cboats := TC.cl
    have cspans := TC.cl
    have gCOverload := TOv.gC
    have oxOverload := TOv.oex
    have T := TO
    refine ⟨_,
      (pss_cut (ps_for (passes_of rfl) rfl (pi_enum (by rfl) T.menumerate (pa_cons (pe_meth0 (pv 0) cspans mspans Gspans hrspans bspans .nil pass0) pa_nil)) (pg_tup rfl (pgs_cons (pg_name (i := 2) scNeed.nd rfl (.inl rfl)) (pgs_cons (pg_name (i := 3) scNeed.nd rfl (.inl rfl)) pgs_nil)))
      (pss_one (ps_if (pt_cmpR op_gt (pe_ix ix_list (pv 1) (pv 2) (fun _ _ => rfl)) (pv 3) (nomark _))
      (pss_one (ps_raise rfl (takes_of rfl rfl rfl rfl) (pmk_oexB oxOverload iXOverload tXOverload GXOverload hrXOverload bXOverload pass0 (by rfl) gCOverload (by exact (pa_cons pe_str (pa_cons (pv 2) (pa_cons (pe_op op_sub (pe_ix ix_list (pv 1) (pv 2) (fun _ _ => rfl)) (pv 3)) pa_nil)))))))
      pss_nil)))
      (pss_cons (ps_set (i := 4) scNeed.nd rfl (.inl rfl) (pe_call Ghalves hrhalves (by rfl) ghalves Fhalves.kp bhalves .nil pass0 (pa_cons (pv 0) (pa_cons (pv 1) pa_nil))))
      (pss_one (ps_for (passes_of rfl) rfl (pi_enum (by rfl) T.menumerate (pa_cons (pe_meth0 (pv 0) cboats mboats Gboats hrboats bboats .nil pass0) pa_nil)) (pg_tup rfl (pgs_cons (pg_name (i := 2) scNeed.nd rfl (.inl rfl)) (pgs_cons (pg_name (i := 5) scNeed.nd rfl (.inl rfl)) pgs_nil)))
      (pss_one (ps_if (pt_cmpR op_lt (pe_call Gspare hrspare (by rfl) gspare Fspare.kp bspare .nil pass0 (pa_cons (pv 5) (pa_cons (pe_ix ix_list (pv 4) (pv 2) (fun _ _ => rfl)) pa_nil))) pe_int (nomark _))
      (pss_one (ps_raise rfl (takes_of rfl rfl rfl rfl) (pmk_oexB oxOverload iXOverload tXOverload GXOverload hrXOverload bXOverload pass0 (by rfl) gCOverload (by exact (pa_cons pe_str (pa_cons (pv 2) (pa_cons (pe_un un_neg (pe_call Gspare hrspare (by rfl) gspare Fspare.kp bspare .nil pass0 (pa_cons (pv 5) (pa_cons (pe_ix ix_list (pv 4) (pv 2) (fun _ _ => rfl)) pa_nil)))) pa_nil)))))))
      pss_nil))))))
      , ?_⟩
    obtain ⟨dx, bs0, e1, e2, e3⟩ := hp.ex
    -- the spans
    refine ⟨fun σ H1 => ∃ (w2 w3 : Option V), σ = [some (.ref p), some (.ref l), w2, w3, none, none] ∧ Same H H1 ∧ ∀ j, j < spans.length → ¬ gD ld j > gD spans j, ?_, ?_⟩
    · refine ⟨_, rfl, p, dx, _, rfl, e1, brF_mspans bl sl, p, bl, sl, rows, spans, rfl, hp, fun c H1 s1 hc ec => ⟨c, spans.map V.int, rfl, SqL.of ec, ?_⟩⟩
      refine for_enum (K := K) (a := c) (xs := spans.map V.int) (fun i σ H' => ∃ (w2 w3 : Option V), σ = [some (.ref p), some (.ref l), w2, w3, none, none] ∧ Same H1 H' ∧ ∀ j, j < i → ¬ gD ld j > gD spans j)
        ⟨_, _, rfl, same_refl, fun j hj => absurd hj (Nat.not_lt_zero j)⟩ (fun i σ H' _ ⟨_, _, _, z, _⟩ => SqL.of (z _ _ ec)) ?_ ?_
      · rintro i x Tt σ H' hx ⟨w2, w3, rfl, si, hj⟩ hT
        have hi : i < spans.length := by have := (List.getElem?_eq_some_iff.mp hx).1; rw [List.length_map] at this; exact this
        rw [gD_v hi] at hx
        cases hx
        have st := same_upd (o := .tup [.int (i : Nat), .int (gD spans i)]) hT
        have hl2 := st _ _ (si _ _ (s1 _ _ hl))
        refine ⟨Tt, _, rfl, SqT.of upd_same, rfl, _, _, rfl, _, _, rfl, rfl, ?_⟩
        refine ⟨_, rfl, _, rfl, l, _, (i : Int), _, rfl, rfl, SqL.of hl2, atI_nat (gD_v (by omega)), _, rfl, _, _, rfl, rfl, _, rfl, ite2 (fun c => ?_) (fun c => ?_)⟩
        · refine ⟨_, rfl, _, rfl, _, rfl, l, _, (i : Int), _, rfl, rfl, SqL.of hl2, atI_nat (gD_v (by omega)), _, rfl, _, _, rfl, rfl, by show 3 ≤ 1000; decide, fun e he => ⟨e, _, _, _, rfl, upd_same, fun d H2 hd ne ep ed k => ⟨rfl, d, _, ep, ed, ?_, ?_⟩⟩⟩
          · rw [upd_ne ne] at hd
            exact hd
          · exact q1 true i _ d _ (raise_same ((s1.trans si).trans st) he hd ne k) (.span i hi (of_decide_eq_true c) hj) upd_same
        · refine ⟨_, _, rfl, si.trans st, fun j hj2 => ?_⟩
          by_cases e : j = i
          · subst e; exact fun z => c (decide_eq_true z)
          · exact hj j (by omega)
      · rintro σ H' ⟨w2, w3, rfl, si, hj⟩
        rw [List.length_map] at hj
        exact ⟨_, _, rfl, s1.trans si, hj⟩
    rintro σ H1 ⟨w2, w3, rfl, s1, hsp⟩
    -- halves, the boats
    refine ⟨_, rfl, _, rfl, p, bl, sl, l, rows, spans, ld, rfl, hp.same s1, hr10, s1 _ _ hl, hld, fun h H2 s2 hh eh => ?_⟩
    have s12 := s1.trans s2
    refine ⟨_, rfl, p, dx, _, rfl, s12 _ _ e1, brF_mboats bl sl, p, bl, sl, rows, spans, rfl, hp.same s12, fun c bs H3 s3 hc ec hbs => ⟨c, bs, rfl, SqL.of ec, ?_⟩⟩
    have s13 := s12.trans s3
    have hbl := hbs.len
    refine for_enum (K := K) (a := c) (xs := bs) (fun i σ H' => ∃ (w2 w5 : Option V), σ = [some (.ref p), some (.ref l), w2, w3, some (.ref h), w5] ∧ Same H3 H' ∧ ∀ j, j < i → ¬ 2 * brs rows j - hv ld j < 0)
      ⟨_, _, rfl, same_refl, fun j hj => absurd hj (Nat.not_lt_zero j)⟩ (fun i σ H' _ ⟨_, _, _, z, _⟩ => SqL.of (z _ _ ec)) ?_ ?_
    · rintro i x Tt σ H' hx ⟨w2, w5, rfl, si, hj⟩ hT
      obtain ⟨a, r, rfl, hr2, ha⟩ := hbs.at hx
      have hi : i < bs.length := (List.getElem?_eq_some_iff.mp hx).1
      have hi2 : i < rows.length := by omega
      have st := same_upd (o := .tup [.int (i : Nat), .ref a]) hT
      have s3t := si.trans st
      have eh3 := s3t _ _ (s3 _ _ eh)
      obtain ⟨dxa, ea⟩ := ha
      have ha3 : BoatAt C (upd H' Tt (.tup [.int (i : Nat), .ref a])) a r.1 r.2 := ⟨dxa, s3t _ _ ea⟩
      have eb := brs_at hr2
      refine ⟨Tt, _, rfl, SqT.of upd_same, rfl, _, _, rfl, _, _, rfl, rfl, ?_⟩
      refine ⟨_, rfl, _, rfl, _, rfl, h, _, (i : Int), _, rfl, rfl, SqL.of eh3, atI_nat (hvs_at hi2), a, r.1, r.2, _, rfl, ha3, _, _, rfl, rfl, _, rfl, ite2 (fun c => ?_) (fun c => ?_)⟩
      · have c' : 2 * brs rows i - hv ld i < 0 := by rw [eb]; exact of_decide_eq_true c
        refine ⟨_, rfl, _, rfl, _, rfl, _, rfl, h, _, (i : Int), _, rfl, rfl, SqL.of eh3, atI_nat (hvs_at hi2), a, r.1, r.2, _, rfl, ha3, _, rfl, by show 3 ≤ 1000; decide, fun e he => ⟨e, _, _, _, rfl, upd_same, fun d H4 hd ne ep ed k => ⟨rfl, d, _, ep, ed, ?_, ?_⟩⟩⟩
        · rw [upd_ne ne] at hd
          exact hd
        · have ft := FaultIs.boat (rows := rows) (spans := spans) (ld := ld) i hsp hi2 c' hj
          rw [eb] at ft
          exact q1 false i _ d _ (raise_same (s13.trans s3t) he hd ne k) ft upd_same
      · refine ⟨_, _, rfl, s3t, fun j hj2 => ?_⟩
        by_cases e : j = i
        · subst e; rw [eb]; exact fun z => c (decide_eq_true z)
        · exact hj j (by omega)
    · rintro σ H' ⟨w2', w5, rfl, si, hj⟩
      rw [hbl] at hj
      exact q0 _ (s13.trans si) (.none hsp hj)
def tbBorne (C CB CO : Addr) : WX → TS := fun W D σ H => ∃ (p bl sl l : Addr) (rows : List (Str × Int)) (spans ld : List Int), σ = [some (.ref p), some (.ref l)] ∧ BrAt C CB H p bl sl rows spans ∧ rows.length ≤ 10 ∧ H l = some (.lst (ld.map V.int)) ∧ ld.length = rows.length + 1 ∧ spans.length = rows.length + 1 ∧
  (∀ H', Same H H' → FaultIs rows spans ld none → D.nx σ H') ∧ ∀ b (k : Nat) o d H', Same H H' → FaultIs rows spans ld (some (b, k, o)) → W (.ref CO) (some d) σ H'
theorem ok_borne {f fN fH fS fO fBo fSp fL : Addr} {fd fdN fdH fdS fdO fdBo fdSp fdL : FuncData} {k : Nat} (F : Fun K "is_borne" "is_borne" sBorne f fd) (TB0 : TxtB mg) (TO : TxtO mg) (TB : BCl K mg C) (TC : BrCl K mg CB) (TOv : OCl K mg CO)
    (iXOverload : PySem.W.findIn K (.ref CO) "__init__" = some (some (.ref fO))) (tXOverload : PySem.W.typeIn K (.ref fO) = some (.type "function")) (FO : Fun K "__init__" "Overload.__init__" sOInit fO fdO) (bXOverload : Binds K fdO ["self", "part", "at", "over"] [])
    (mboats : Meth K CB "boats" fBo) (FBo : Fun K "boats" "Bridge.boats" sBrBoats fBo fdBo) (bboats : Binds K fdBo ["self"] [])
    (mspans : Meth K CB "spans" fSp) (FSp : Fun K "spans" "Bridge.spans" sBrSpans fSp fdSp) (bspans : Binds K fdSp ["self"] [])
    (mL : Meth K CB "__len__" fL) (FL : Fun K "__len__" "Bridge.__len__" sBrLen fL fdL) (bL : Binds K fdL ["self"] [])
    (Fhalves : Fun K "halves" "halves" sHalves fH fdH) (ghalves : mg "halves" = some (.ref fH)) (bhalves : Binds K fdH ["bridge", "load"] [])
    (Fspare : Fun K "spare" "spare" sSpare fS fdS) (gspare : mg "spare" = some (.ref fS)) (bspare : Binds K fdS ["boat", "many"] [])
    (Fneed_borne : Fun K "need_borne" "need_borne" sNeed fN fdN) (gneed_borne : mg "need_borne" = some (.ref fN)) (bneed_borne : Binds K fdN ["bridge", "load"] []) :
    FnOk P w K mg base CX0 (k + 6) f fd ["bridge", "load"] (spBorne C CB) := by
  have Gneed_borne : FnOk P w K mg base (L2.CX P w) (k + 5) fN fdN ["bridge", "load"] (spNeed C CB CO) := ok_need Fneed_borne TB0 TO TB TC TOv iXOverload tXOverload FO bXOverload mboats FBo bboats mspans FSp bspans mL FL bL Fhalves ghalves bhalves Fspare gspare bspare
  refine F.ok scBorne (fun vs H Q E h => ?_) (fun cdv A outer s H vs Q E hr h => ?_)
  · obtain ⟨p, bl, sl, l, rows, spans, ld, rfl, _⟩ := h
    rfl
  · obtain ⟨p, bl, sl, l, rows, spans, ld, rfl, hp, hr10, hl, hld, hsl, q⟩ := h
    have gCOverload := TOv.gC
    refine ⟨_, pss_cons (ps_try_only (tb := tbBorne C CB CO) (ts := fun _ _ _ => tRet (tC (.bl false))) rfl rfl ⟨rfl, by decide, .inl gCOverload⟩ takes0
      (fun W pn xe tk _ => pss_imp (pss_one (ps_expr (by exact (pe_callSD Gneed_borne hr (by rfl) gneed_borne Fneed_borne.kp bneed_borne .nil (fun σ => passAt tk σ) (by exact (pa_cons (pv 0) (pa_cons (pv 1) pa_nil))))))) ?imp)
      (fun a oe cls d pn _ _ => pss_one (ps_ret pe_bl))) (pss_one (ps_ret pe_bl)), ?main⟩
    case imp =>
      rintro D σ H0 ⟨p, bl, sl, l, rows, spans, ld, rfl, hp, hr10, hl, hld, hsl, d0, d1⟩
      exact ⟨_, rfl, _, rfl, p, bl, sl, l, rows, spans, ld, rfl, hp, hr10, hl, hld, hsl, d0, fun b k o d H' s1 ft _ => d1 b k o d H' s1 ft⟩
    case main =>
      refine ⟨p, bl, sl, l, rows, spans, ld, rfl, hp, hr10, hl, hld, hsl, fun H' s1 ft => ?_, fun b k o d H' s1 ft => ⟨true, TOv.hit, fun _ a ha => ?_, fun z => nomatch z⟩⟩
      · exact q none H' s1 ft
      · exact q _ H' s1 ft
end
def spWeights : Sp := fun vs H Q _ => ∃ (T c q r s : Addr) (rows : List (Str × Int)) (spans : List Int) (n : Nat), vs = [.ref T, .ref q] ∧ PartsAt H q r s rows spans ∧ r ≠ T ∧ s ≠ T ∧ spans.length ≤ 11 ∧ (∀ x ∈ rows, Bear x.2) ∧ (∀ z ∈ spans, Bear z) ∧ n < 800000 ∧ Tape H T c n ∧
  ∀ (l : Addr) (ld : List Int) H', H' l = some (.lst (ld.map V.int)) → ld.length = spans.length → (∀ z ∈ ld, 0 ≤ z ∧ z ≤ 1000000) → l ≠ T → H l = none → Tape H' T c (n + 50) → Keep T H H' → Q (.ref l) H'
structure TxtW (mg : Str → Option Value) : Prop where
  mlen : mg "len" = none
  mrange : mg "range" = none
  mmin : mg "min" = none
section
variable {P : Program} {w : World} {K : PySem.W.Frag} {mg : Str → Option Value} {base : Heap} {C CB CO : Addr}
theorem ok_weights {f fD fP : Addr} {fd fdD fdP : FuncData} {k : Nat} (F : Fun K "_law_weights" "_law_weights" sWeights f fd) (T0 : Txt0 mg) (T : TxtW mg)
    (F_law_draw : Fun K "_law_draw" "_law_draw" sDraw fD fdD) (g_law_draw : mg "_law_draw" = some (.ref fD)) (b_law_draw : Binds K fdD ["_law_tape_here", "_law_many"] [])
    (F_law_pick : Fun K "_law_pick" "_law_pick" sPick fP fdP) (g_law_pick : mg "_law_pick" = some (.ref fP)) (b_law_pick : Binds K fdP ["_law_tape_here", "_law_some"] []) :
    FnOk P w K mg base CX0 (k + 3) f fd ["_law_tape_here", "_law_parts"] spWeights := by
  have G_law_draw : FnOk P w K mg base CX0 (k + 2) fD fdD ["_law_tape_here", "_law_many"] spDraw := ok_draw F_law_draw T0
  have G_law_pick : FnOk P w K mg base CX0 (k + 2) fP fdP ["_law_tape_here", "_law_some"] spPick := ok_pick F_law_pick T0 F_law_draw g_law_draw b_law_draw
  refine F.ok scWeights (fun vs H Q E h => ?_) (fun cdv A outer s H vs Q E hr h => ?_)
  · obtain ⟨a, c, q, r, s, rows, spans, n, rfl, _⟩ := h
    rfl
  · obtain ⟨a, c, p, r, sp, rows, spans, n, rfl, hp, nra, nsa, hs11, hbe, hsb, hn, hT, q⟩ := h
    have hr_law_draw := hr
    have hr_law_pick := hr
    refine ⟨_,
      (pss_cons (ps_set (i := 2) scWeights.nd rfl (.inl rfl) (pe_lst pa_nil))
      (pss_cons (ps_for PassesOwn.never rfl (pi_range1 (by rfl) T.mrange (pa_cons (pe_callB call_len_seq (by rfl) T.mlen PySem.boot_len (pa_cons (pe_ix ix_tup (pv 1) pe_int (fun _ _ => rfl)) pa_nil)) pa_nil)) (pg_name (i := 3) scWeights.nd rfl (.inl rfl))
      (pss_cons (ps_set (i := 4) scWeights.nd rfl (.inl rfl) (pe_ix ix_list (pe_ix ix_tup (pv 1) pe_int (fun _ _ => rfl)) (pv 3) (fun _ _ => rfl)))
      (pss_cut (ps_for PassesOwn.never rfl (pi_tup (pe_tup (pa_cons (pe_op op_sub (pv 3) pe_int) (pa_cons (pv 3) pa_nil)))) (pg_name (i := 5) scWeights.nd rfl (.inl rfl))
      (pss_one (ps_if (pt_chain op_le op_lt pe_int (pv 5) (pe_callB call_len_seq (by rfl) T.mlen PySem.boot_len (pa_cons (pe_ix ix_tup (pv 1) pe_int (fun _ _ => rfl)) pa_nil)))
      (pss_one (ps_set (i := 4) scWeights.nd rfl (.inl rfl) (pe_callB (call_min2 rfl) (by rfl) T.mmin (by decide +kernel) (pa_cons (pv 4) (pa_cons (pe_ix ix_tup (pe_ix ix_list (pe_ix ix_tup (pv 1) pe_int (fun _ _ => rfl)) (pv 5) (fun _ _ => rfl)) pe_int (fun _ _ => rfl)) pa_nil)))))
      pss_nil)))
      (pss_cons (ps_set (i := 6) scWeights.nd rfl (.inl rfl) (pe_lst (pa_cons pe_int (pa_cons pe_int (pa_cons (pe_call G_law_draw hr_law_draw (by rfl) g_law_draw F_law_draw.kp b_law_draw .nil pass0 (pa_cons (pv 0) (pa_cons (pe_op op_add (pv 4) pe_int) pa_nil))) (pa_cons (pv 4) (pa_cons (pe_ix ix_list (pe_ix ix_tup (pv 1) pe_int (fun _ _ => rfl)) (pv 3) (fun _ _ => rfl)) (pa_cons (pe_op op_add (pv 4) pe_int) (pa_cons (pe_op op_add pe_int (pe_call G_law_draw hr_law_draw (by rfl) g_law_draw F_law_draw.kp b_law_draw .nil pass0 (pa_cons (pv 0) (pa_cons (pe_op op_pow pe_int pe_int) pa_nil)))) pa_nil)))))))))
      (pss_one (ps_expr (pe_bm PySem.F.plainAttrs_list PySem.F.slot_list_append PySem.F.type_list_append mt_append (pv 2) (pa_cons (pe_callB (call_min2 rfl) (by rfl) T.mmin (by decide +kernel) (pa_cons (pe_op op_pow pe_int pe_int) (pa_cons (pe_call G_law_pick hr_law_pick (by rfl) g_law_pick F_law_pick.kp b_law_pick .nil pass0 (pa_cons (pv 0) (pa_cons (pv 6) pa_nil))) pa_nil))) pa_nil))))))))
      (pss_one (ps_ret (pv 2)))))
      , ?_⟩
    obtain ⟨xs, er, hrw⟩ := hp.rw
    have hlx := hrw.len
    refine ⟨Nat.zero_le _, fun fp hfp => ?_⟩
    have nfa : fp ≠ a := hT.ne hfp
    have nfc : fp ≠ c := hT.nec hfp
    have T0' := hT.new (o := .lst []) hfp
    have sf := same_upd (o := .lst []) hfp
    refine ⟨_, rfl, p, _, 1, _, rfl, rfl, SqT.of (sf _ _ hp.tp), atI_nat (j := 1) rfl, sp, _, rfl, .inl (SqL.of (sf _ _ hp.sp)), _, rfl, by rw [List.length_map]; omega, by rw [List.length_map]; omega, ?_⟩
    refine for_range (lo := 0) (n := (((spans.map V.int).length : Nat) : Int).toNat) (fun i σ H' => ∃ (v3 v4 v5 v6 : Option V) (ld : List Int), σ = [some (.ref a), some (.ref p), some (.ref fp), v3, v4, v5, v6] ∧ H' fp = some (.lst (ld.map V.int)) ∧ ld.length = i ∧ (∀ z ∈ ld, 0 ≤ z ∧ z ≤ 1000000) ∧ Tape H' a c (n + 3 * i) ∧ Keep a H H')
      ⟨_, _, _, _, [], rfl, upd_same, rfl, fun z hz => (by cases hz), T0', Keep.refl.new hfp⟩ ?_ ?_
    · rintro i σ H' hi ⟨v3, v4, v5, v6, ld, rfl, ef, ll, hld, Ti, ki⟩
      rw [List.length_map] at hi
      have hi2 : i < spans.length := by omega
      obtain ⟨_, _, _, hTa, _⟩ := hT.ex
      have hp' := hp.keep hTa ki nra nsa
      obtain ⟨xs', er', hrw'⟩ := hp'.rw
      have hlx' := hrw'.len
      have hsi := hsb _ (List.mem_of_getElem? (gD_at hi2))
      unfold Bear at hsi
      refine ⟨_, rfl, p, _, 1, _, rfl, rfl, SqT.of hp'.tp, atI_nat (j := 1) rfl, _, rfl, sp, _, (i : Int), _, rfl, congrArg V.int (by omega), SqL.of hp'.sp, atI_nat (gD_v hi2), ?_⟩
      -- the least of the three
      refine ⟨fun σ H1 => ∃ (le : Int) (w5 : Option V), σ = [some (.ref a), some (.ref p), some (.ref fp), some (.int (0 + (i : Int))), some (.int le), w5, v6] ∧ 1 ≤ le ∧ le ≤ 1000000 ∧ Same H' H1, ?_, ?_⟩
      · refine ⟨_, rfl, _, _, rfl, rfl, _, rfl, by show 2 ≤ sizeLine; decide, fun t ht => ⟨t, rfl, ⟨_, SqT.of upd_same⟩, ?_⟩⟩
        have st := same_upd (o := .tup [.int (0 + (i : Int) - 1), .int (0 + (i : Int))]) ht
        refine for_tup (K := K) (a := t) (xs := [.int (0 + (i : Int) - 1), .int (0 + (i : Int))]) (fun j σ H1 => ∃ (le : Int) (w5 : Option V), σ = [some (.ref a), some (.ref p), some (.ref fp), some (.int (0 + (i : Int))), some (.int le), w5, v6] ∧ 1 ≤ le ∧ le ≤ 1000000 ∧ H1 = upd H' t (.tup [.int (0 + (i : Int) - 1), .int (0 + (i : Int))]))
          ⟨_, _, rfl, hsi.1, hsi.2, rfl⟩ (fun j σ H1 _ ⟨_, _, _, _, _, z⟩ => z ▸ SqT.of upd_same) ?_ ?_
        · rintro j y σ H1 hj ⟨le, w5, rfl, l0, l1, rfl⟩
          obtain ⟨z, rfl⟩ : ∃ z : Int, y = .int z := by
            rcases j with _ | _ | j
            · exact ⟨_, (Option.some.inj hj).symm⟩
            · exact ⟨_, (Option.some.inj hj).symm⟩
            · exact absurd hj (by simp)
          refine ⟨_, rfl, _, _, rfl, rfl, _, rfl, ite2 (fun c1 => ?_) (fun _ => ⟨_, rfl, iteF ⟨_, _, rfl, l0, l1, rfl⟩⟩)⟩
          refine ⟨_, rfl, p, _, 0, _, rfl, rfl, SqT.of (st _ _ hp'.tp), atI_nat (j := 0) rfl, r, _, rfl, .inl (SqL.of (st _ _ er')), _, _, rfl, rfl, _, rfl, ite2 (fun c2 => ?_) (fun _ => ⟨_, _, rfl, l0, l1, rfl⟩)⟩
          have z0 : 0 ≤ z := of_decide_eq_true c1
          have z1 : z < (xs'.length : Int) := of_decide_eq_true c2
          obtain ⟨zn, rfl⟩ := Int.eq_ofNat_of_zero_le z0
          have hz : zn < rows.length := by omega
          obtain ⟨b, gb, hb⟩ := hrw'.at2 hz
          have hbb := hbe _ (List.getElem_mem hz)
          unfold Bear at hbb
          refine ⟨_, rfl, _, rfl, p, _, 0, _, rfl, rfl, SqT.of (st _ _ hp'.tp), atI_nat (j := 0) rfl, _, rfl, r, _, (zn : Int), _, rfl, rfl, SqL.of (st _ _ er'), atI_nat gb, b, _, 1, _, rfl, rfl, SqT.of (st _ _ hb), atI_nat (j := 1) rfl, _, _, rfl, ?_⟩
          exact ⟨_, _, rfl, by split <;> omega, by split <;> omega, rfl⟩
        · rintro σ H1 ⟨le, w5, rfl, l0, l1, rfl⟩
          exact ⟨le, w5, rfl, l0, l1, st⟩
      rintro σ H1 ⟨le, w5, rfl, l0, l1, s1⟩
      have T1 := Ti.same s1
      have hp1 := hp'.same s1
      -- what may be drawn
      refine ⟨_, rfl, _, rfl, _, _, rfl, rfl, a, c, le + 1, _, rfl, by omega, by omega, by omega, T1, fun d1 H2 d10 d11 T2 k2 => ?_⟩
      obtain ⟨_, _, _, hTa1, _⟩ := T1.ex
      have hp2 := hp1.keep hTa1 k2 nra nsa
      refine ⟨_, rfl, _, rfl, p, _, 1, _, rfl, rfl, SqT.of hp2.tp, atI_nat (j := 1) rfl, _, rfl, sp, _, (i : Int), _, rfl, congrArg V.int (by omega), SqL.of hp2.sp, atI_nat (gD_v hi2), _, rfl, _, _, rfl, rfl, _, rfl, _, _, rfl, rfl, ⟨by decide, by decide, by decide⟩, a, c, 1000000, _, rfl, by omega, by omega, by omega, T2, fun d2 H3 d20 d21 T3 k3 => ⟨_, _, rfl, rfl, by show 7 ≤ sizeLine; decide, fun l hl => ?_⟩⟩
      have k13 : Keep a H1 H3 := k2.trans k3
      have ef3 := k13 _ _ nfa (s1 _ _ ef)
      have nlf : l ≠ fp := (ne_of_none ef3 hl).symm
      refine ⟨_, rfl, .inl ⟨rfl, _, SqL.of (upd_at hl ef3)⟩, _, _, rfl, rfl, ⟨by decide, by decide, by decide⟩, _, rfl, _, rfl, a, c, l, _, _, rfl, upd_same, T3.ne hl, by show 0 < 7; decide, by show 7 < 1000000; decide, by omega, T3.new hl, fun j x H4 hx T4 k4 => ?_⟩
      obtain ⟨z, rfl, hz0, hz1⟩ := pickI (xs := [0, 0, d1, le, gD spans i, le + 1, 1 + d2]) (lo := 0) (hi := 1000001) (by simp; omega) hx
      have ef4 := k4 _ _ nfa (upd_at hl ef3)
      refine ⟨_, _, rfl, fp, _, _, rfl, rfl, ef4, small100 (by rw [List.length_map]; omega), ?_⟩
      refine ⟨_, _, _, _, ld ++ [if z < 10 ^ (6 : Int).toNat then z else 10 ^ (6 : Int).toNat], rfl, by rw [upd_same, List.map_append]; rfl, by rw [List.length_append, ll]; rfl, ?_, (T4.upd nfa nfc).mono (by omega), ?_⟩
      · intro y hy
        have e6 : (10 : Int) ^ (6 : Int).toNat = 1000000 := by decide
        rcases List.mem_append.mp hy with hy | hy
        · exact hld y hy
        · rw [List.mem_singleton.mp hy, e6]; split <;> omega
      · exact fun x o nx e => by rw [upd_ne (ne_of_none e hfp)]; exact k4 x o nx (upd_at hl (k13 x o nx (s1 _ _ (ki x o nx e))))
    · rintro σ H' ⟨v3, v4, v5, v6, ld, rfl, ef, ll, hld, Ti, ki⟩
      rw [List.length_map] at ll Ti
      exact ⟨_, rfl, q fp ld H' ef (by omega) hld nfa hfp (Ti.mono (by omega)) ki⟩
end
/-! ### the room beside a load -/
def sps (rows : List (Str × Int)) (ld : List Int) : List Int := (List.range rows.length).map fun k => 2 * brs rows k - hv ld k
theorem sps_len {rows : List (Str × Int)} {ld : List Int} : (sps rows ld).length = rows.length := by unfold sps; rw [List.length_map, List.length_range]
theorem sps_at {rows : List (Str × Int)} {ld : List Int} {k : Nat} (h : k < rows.length) : (sps rows ld)[k]? = some (2 * brs rows k - hv ld k) := by
  unfold sps
  rw [List.getElem?_map, List.getElem?_range h]
  rfl
def roomL (rows : List (Str × Int)) (spans ld : List Int) (k : Nat) : List Int :=
  (gD spans k - gD ld k) :: ((if 0 < k then [2 * brs rows (k - 1) - hv ld (k - 1)] else []) ++ (if k < rows.length then [2 * brs rows k - hv ld k] else []))
def RoomIs (rows : List (Str × Int)) (spans ld : List Int) (k : Nat) (m : Int) : Prop := m ∈ roomL rows spans ld k ∧ ∀ y ∈ roomL rows spans ld k, m ≤ y
theorem room_one {rows : List (Str × Int)} {spans ld : List Int} {k : Nat} {m n : Int} (a : RoomIs rows spans ld k m) (b : RoomIs rows spans ld k n) : m = n := by
  have h1 := a.2 n b.1
  have h2 := b.2 m a.1
  omega
theorem sps_cut {rows : List (Str × Int)} {ld : List Int} {k : Nat} (h : k ≤ rows.length) (h0 : 1 ≤ rows.length) :
    ((sps rows ld).take (k + 1)).drop (k - 1) = (if 0 < k then [2 * brs rows (k - 1) - hv ld (k - 1)] else []) ++ (if k < rows.length then [2 * brs rows k - hv ld k] else []) := by
  apply List.ext_getElem?
  intro i
  rw [List.getElem?_drop]
  rcases k with _ | k
  · rw [if_neg (by omega), if_pos (by omega), List.nil_append]
    rcases i with _ | i
    · rw [List.getElem?_take_of_lt (by omega), sps_at (by omega)]; rfl
    · rw [List.getElem?_eq_none (by simp; omega), List.getElem?_eq_none (by simp)]
  · rw [if_pos (by omega), Nat.add_sub_cancel]
    rcases i with _ | i
    · rw [List.getElem?_take_of_lt (by omega), sps_at (by omega)]; rfl
    · by_cases c : k + 1 < rows.length
      · rw [if_pos c]
        rcases i with _ | i
        · rw [List.getElem?_take_of_lt (by omega), show k + (0 + 1) = k + 1 by omega, sps_at c]; rfl
        · rw [List.getElem?_eq_none (by simp; omega), List.getElem?_eq_none (by simp)]
      · rw [if_neg c, List.append_nil, List.getElem?_eq_none (by rw [List.length_take, sps_len]; omega), List.getElem?_eq_none (by simp)]
theorem sps_cutV {rows : List (Str × Int)} {ld : List Int} {j : Nat} (h : j ≤ rows.length) (h0 : 1 ≤ rows.length) :
    cutV ((sps rows ld).map V.int) (some (if (0 : Int) > (j : Int) - 1 then 0 else (j : Int) - 1)) (some ((j : Int) + 1)) = ((if 0 < j then [2 * brs rows (j - 1) - hv ld (j - 1)] else []) ++ (if j < rows.length then [2 * brs rows j - hv ld j] else [])).map V.int := by
  rw [← sps_cut h h0]
  have e1 : (if (0 : Int) > (j : Int) - 1 then 0 else (j : Int) - 1) = ((j - 1 : Nat) : Int) := by split <;> omega
  have e2 : (j : Int) + 1 = ((j + 1 : Nat) : Int) := by omega
  rw [e1, e2]
  unfold cutV
  rw [HT.sIx_nat, HT.sIx_nat, List.length_map, sps_len, Nat.min_eq_left (show j - 1 ≤ rows.length by omega), List.map_drop, List.map_take, List.drop_take]
  by_cases c : j + 1 ≤ rows.length
  · rw [Nat.min_eq_left c]
  · rw [Nat.min_eq_right (show rows.length ≤ j + 1 by omega), List.take_of_length_le (by rw [List.length_drop, List.length_map, sps_len]; omega), List.take_of_length_le (by rw [List.length_drop, List.length_map, sps_len]; omega)]
def nsF (x : V) : List (Str × V) := [("at", x)]
def spNSInit (CS : Addr) : Sp := fun vs H Q _ => ∃ (p : Addr) (x : V), vs = [.ref p, x] ∧ H p = some (exo p CS none) ∧ ∀ d H', H d = none → d ≠ p → H' p = some (exo p CS (some d)) → H' d = some (exd d (nsF x)) → (∀ x o, x ≠ p → H x = some o → H' x = some o) → Q .non H'
/-- what is asked of the refusal's class -/
structure SCl (K : PySem.W.Frag) (mg : Str → Option Value) (CS : Addr) : Prop where
  gC : mg "NoSpan" = some (.ref CS)
  oex : OexB K CS
  n1 : PySem.W.findIn K (.ref CS) "at" = some none
  hit : PySem.W.exmOne K (.ref CS) (.ref CS) = some true
/-- no number of a span -/
def BadAt (K : PySem.W.Frag) (H : Hp) (n : Nat) (v : V) : Prop := (∃ i : Int, v = .int i ∧ ¬ (0 ≤ i ∧ i ≤ (n : Int))) ∨ (∃ b, v = .bl b) ∨ ∃ t, TyX K H v t ∧ PySem.W.kitOne K t (.type "int") = some false
def spRoom (K₀ : PySem.W.Frag) (C CB CS : Addr) : Sp := fun vs H Q E => ∃ (p bl sl l : Addr) (v : V) (rows : List (Str × Int)) (spans ld : List Int), vs = [.ref p, .ref l, v] ∧ BrAt C CB H p bl sl rows spans ∧ 1 ≤ rows.length ∧ rows.length ≤ 10 ∧ H l = some (.lst (ld.map V.int)) ∧ ld.length = rows.length + 1 ∧ spans.length = rows.length + 1 ∧
  ((∃ k : Nat, v = .int (k : Nat) ∧ k ≤ rows.length ∧ ∀ m H', Same H H' → RoomIs rows spans ld k m → Q (.int m) H') ∨ (BadAt K₀ H rows.length v ∧ ∀ d H', Same H H' → H' d = some (.xd (nsF v)) → E (.ref CS) (some d) H'))
structure TxtM (mg : Str → Option Value) : Prop where
  mlen : mg "len" = none
  mzip : mg "zip" = none
  mmin : mg "min" = none
  mmax : mg "max" = none
section
variable {P : Program} {w : World} {K : PySem.W.Frag} {mg : Str → Option Value} {base : Heap} {C CB CO CS : Addr}
theorem ok_nsinit {f : Addr} {fd : FuncData} {k : Nat} (F : Fun K "__init__" "NoSpan.__init__" sNSInit f fd) (T : SCl K mg CS) : FnOk P w K mg base CX0 (k + 1) f fd ["self", "at"] (spNSInit CS) := by
  refine F.ok scNSInit (fun vs H Q E h => ?_) (fun cdv A outer s H vs Q E hr h => ?_)
  · obtain ⟨p, x, rfl, _⟩ := h
    rfl
  · obtain ⟨p, x, rfl, hp, q⟩ := h
    refine ⟨_, pss_one (ps_put (pv 0) (pv 1)), ?_⟩
    refine ⟨_, rfl, _, rfl, p, CS, rfl, T.oex, T.n1, .inl ⟨hp, fun d hd ne => ?_⟩⟩
    have np : p ≠ d := Ne.symm ne
    refine q d _ hd ne upd_same (by rw [upd_ne ne]; exact upd_same) fun x o n e => ?_
    have nd : x ≠ d := ne_of_none e hd
    rw [upd_ne n, upd_ne nd]
    exact e
theorem ok_room {f fH fS fX fBo fSp fL fW : Addr} {fd fdH fdS fdX fdBo fdSp fdL fdW : FuncData} {k : Nat} (F : Fun K "room_at" "room_at" sRoom f fd) (TB0 : TxtB mg) (TO : TxtO mg) (TM : TxtM mg) (TB : BCl K mg C) (TC : BrCl K mg CB) (TS : SCl K mg CS)
    (iXNoSpan : PySem.W.findIn K (.ref CS) "__init__" = some (some (.ref fX))) (tXNoSpan : PySem.W.typeIn K (.ref fX) = some (.type "function")) (FX : Fun K "__init__" "NoSpan.__init__" sNSInit fX fdX) (bXNoSpan : Binds K fdX ["self", "at"] [])
    (mboats : Meth K CB "boats" fBo) (FBo : Fun K "boats" "Bridge.boats" sBrBoats fBo fdBo) (bboats : Binds K fdBo ["self"] [])
    (mspans : Meth K CB "spans" fSp) (FSp : Fun K "spans" "Bridge.spans" sBrSpans fSp fdSp) (bspans : Binds K fdSp ["self"] [])
    (mL : Meth K CB "__len__" fL) (FL : Fun K "__len__" "Bridge.__len__" sBrLen fL fdL) (bL : Binds K fdL ["self"] [])
    (Fis_whole : Fun K "is_whole" "is_whole" sIsW fW fdW) (gis_whole : mg "is_whole" = some (.ref fW)) (bis_whole : Binds K fdW ["thing", "least", "most"] [])
    (Fhalves : Fun K "halves" "halves" sHalves fH fdH) (ghalves : mg "halves" = some (.ref fH)) (bhalves : Binds K fdH ["bridge", "load"] [])
    (Fspare : Fun K "spare" "spare" sSpare fS fdS) (gspare : mg "spare" = some (.ref fS)) (bspare : Binds K fdS ["boat", "many"] []) :
    FnOk P w K mg base (L2.CX P w) (k + 5) f fd ["bridge", "load", "at"] (spRoom K C CB CS) := by
  have Gboats : FnOk P w K mg base CX0 (k + 1) fBo fdBo ["self"] (spBrBoats C CB) := ok_brboats FBo TB0 TC
  have Gspans : FnOk P w K mg base CX0 (k + 1) fSp fdSp ["self"] (spBrSpans C CB) := ok_brspans FSp TB0 TC
  have GL : FnOk P w K mg base CX0 (k + 1) fL fdL ["self"] (spBrLen C CB) := ok_brlen FL TB0 TC
  have Ghalves : FnOk P w K mg base CX0 (k + 4) fH fdH ["bridge", "load"] (spHalves C CB) := ok_halves Fhalves TB0 TC TO mL FL bL
  have Gspare : FnOk P w K mg base CX0 (k + 1) fS fdS ["boat", "many"] (spSpare C) := ok_spare Fspare TB
  have Gis_whole : FnOk P w K mg base CX0 (k + 1) fW fdW ["thing", "least", "most"] (spIsW K) := ok_isw Fis_whole TB0
  have GXNoSpan : FnOk P w K mg base CX0 (k + 1) fX fdX ["self", "at"] (spNSInit CS) := ok_nsinit FX TS
  refine F.okX scRoom (fun vs H Q E h => ?_) (fun cdv A outer s H vs Q E hr h => ?_)
  · obtain ⟨p, bl, sl, l, v, rows, spans, ld, rfl, _⟩ := h
    rfl
  · obtain ⟨p, bl, sl, l, v, rows, spans, ld, rfl, hp, hr1, hr10, hl, hld, hsl, q⟩ := h
    have hrboats : Room (k + 1) _ := hr.mono (by omega)
    have hrspans : Room (k + 1) _ := hr.mono (by omega)
    have hrhalves := hr
    have hrspare : Room (k + 1) _ := hr.mono (by omega)
    have hris_whole : Room (k + 1) _ := hr.mono (by omega)
    have hrL : Room (k + 2) _ := hr.mono (by omega)
    have hrXNoSpan : Room (k + 2) _ := hr.mono (by omega)
    have cboats := TC.cl
    have cspans := TC.cl
    have gCNoSpan := TS.gC
    have oxNoSpan := TS.oex
    have T := TM
    refine ⟨_,
      (pss_cons (ps_if (pt_not (pt_val (pe_call Gis_whole hris_whole (by rfl) gis_whole Fis_whole.kp bis_whole .nil pass0 (pa_cons (pv 2) (pa_cons pe_int (pa_cons (pe_callB (call_lenOwn mL.at_ mL.fn GL bL hrL pass0) (by rfl) T.mlen PySem.boot_len (pa_cons (pv 0) pa_nil)) pa_nil))))))
      (pss_one (ps_raise rfl (takes_of rfl rfl rfl rfl) (pmk_oexB oxNoSpan iXNoSpan tXNoSpan GXNoSpan hrXNoSpan bXNoSpan pass0 (by rfl) gCNoSpan (by exact (pa_cons (pv 2) pa_nil)))))
      pss_nil)
      (pss_cut (ps_setLc (i := 3) (own := [("boat", 4), ("many", 5)]) (g := gTup K 2 (gCons (gName 4) (gCons (gName 5) gNil))) (tt := tYes) rfl scRoom.nd rfl rfl (sw_true rfl rfl rfl (by decide +kernel)) (RZ.pi_zipA (by rfl) T.mzip (pa_cons (pe_meth0 (pv 0) cboats mboats Gboats hrboats bboats .nil pass0) (pa_cons (pe_call Ghalves hrhalves (by rfl) ghalves Fhalves.kp bhalves .nil pass0 (pa_cons (pv 0) (pa_cons (pv 1) pa_nil))) pa_nil))) (blkOk_by (N := NRoom) (own := [("boat", 4), ("many", 5)]) (sc := defScope sRoom) (by decide +kernel)) (fun _ _ _ _ _ => pg_tup rfl (pgs_cons (pg_name (i := 4) scRoom.nd rfl (Or.inl rfl)) (pgs_cons (pg_name (i := 5) scRoom.nd rfl (Or.inl rfl)) pgs_nil))) (fun _ _ _ _ _ => pts_nil) (fun _ _ _ _ _ => (pe_call Gspare hrspare (by rfl) gspare Fspare.kp bspare .nil pass0 (pa_cons (pv 4) (pa_cons (pv 5) pa_nil)))))
      (pss_one (ps_ret (pe_callB (cr_min rfl) (by rfl) T.mmin (by decide +kernel) (pa_cons (pe_lst (pa_cons (pe_op op_sub (pe_ix ix_list (pe_meth0 (pv 0) cspans mspans Gspans hrspans bspans .nil pass0) (pv 2) (fun _ _ => rfl)) (pe_ix ix_list (pv 1) (pv 2) (fun _ _ => rfl))) (StX.pa_star (pe_slice sl_list (pv 3) (po_some (pe_callB (call_max2 rfl) (by rfl) T.mmax (by decide +kernel) (pa_cons (pe_op op_sub (pv 2) pe_int) (pa_cons pe_int pa_nil)))) (po_some (pe_op op_add (pv 2) pe_int))) pa_nil))) pa_nil))))))
      , ?_⟩
    obtain ⟨dx, bs0, e1, e2, e3⟩ := hp.ex
    have raise : BadAt K H rows.length v → (∀ d H', Same H H' → H' d = some (.xd (nsF v)) → E (.ref CS) (some d) H') → tMkO CS (spNSInit CS) [] (tCons (tVar 2) tNil) (L2.start NRoom [V.ref p, V.ref l, v]) H fun cls d H' => E cls d H' := by
      intro _ q
      refine ⟨_, rfl, by show 1 ≤ 1000; decide, fun e he => ⟨e, _, rfl, upd_same, fun d H2 hd ne ep ed k => ⟨rfl, d, _, ep, ed, ?_, ?_⟩⟩⟩
      · rw [upd_ne ne] at hd
        exact hd
      · exact q d _ (raise_same same_refl he hd ne k) upd_same
    refine ⟨_, rfl, _, rfl, p, dx, _, rfl, e1, p, bl, sl, rows, spans, rfl, hp, _, rfl, by omega, by omega, v, 0, (rows.length : Int), rfl, ?_⟩
    rcases q with ⟨j, rfl, hj, q⟩ | ⟨bad, q⟩
    case inr =>
      rcases id bad with ⟨i, rfl, hi⟩ | ⟨b, rfl⟩ | ⟨t, ty, hk⟩
      · refine .inl ⟨i, rfl, _, rfl, ?_⟩
        have e : (decide (0 ≤ i) && decide (i ≤ (rows.length : Int))) = false := by
          rw [← Bool.not_eq_true, Bool.and_eq_true, decide_eq_true_eq, decide_eq_true_eq]
          exact hi
        rw [e]
        exact iteT (raise bad q)
      · exact .inr (.inl ⟨b, rfl, _, rfl, iteT (raise bad q)⟩)
      · exact .inr (.inr ⟨t, ty, hk, _, rfl, iteT (raise bad q)⟩)
    refine .inl ⟨(j : Int), rfl, _, rfl, ?_⟩
    rw [show (decide ((0 : Int) ≤ (j : Int)) && decide ((j : Int) ≤ (rows.length : Int))) = true by rw [decide_eq_true (by omega), decide_eq_true (by omega)]; rfl]
    refine iteF ⟨fun σ H1 => ∃ (b : Addr), σ = [some (.ref p), some (.ref l), some (.int (j : Nat)), some (.ref b), none, none] ∧ H1 b = some (.lst ((sps rows ld).map V.int)) ∧ Same H H1, ?_, ?_⟩
    · refine ⟨_, rfl, p, dx, _, rfl, e1, brF_mboats bl sl, p, bl, sl, rows, spans, rfl, hp, fun c bs H1 s1 hc ec hbs => ⟨_, rfl, _, rfl, p, bl, sl, l, rows, spans, ld, rfl, hp.same s1, hr10, s1 _ _ hl, hld, fun h H2 s2 hh eh => ⟨c, h, bs, (hvs ld rows.length).map V.int, rfl, .inl ⟨SqL.of (s2 _ _ ec), SqL.of eh, fun D hD => ?_⟩⟩⟩⟩
      have hbl := hbs.len
      have hvl : (hvs ld rows.length).length = rows.length := by unfold hvs; rw [List.length_map, List.length_range]
      refine lc_zip (K := K) (a := c) (b := h) (xs := bs) (ys := (hvs ld rows.length).map V.int) (by rw [List.length_map, hvl]; exact hbl) (fun i H' => H' D = some (.lst (((sps rows ld).take i).map V.int)) ∧ Same H2 H') ⟨upd_same, same_upd hD⟩ (fun i H' _ ⟨_, z⟩ => ⟨SqL.of (z _ _ (s2 _ _ ec)), SqL.of (z _ _ eh)⟩) ?_ ?_
      · rintro i x y Tt H' hx hy ⟨eD, si⟩ hT
        obtain ⟨a, r, rfl, hr2, ha⟩ := hbs.at hx
        have hi : i < bs.length := (List.getElem?_eq_some_iff.mp hx).1
        have hi2 : i < rows.length := by omega
        rw [hvs_at hi2] at hy
        cases hy
        have st := same_upd (o := .tup [.ref a, .int (hv ld i)]) hT
        obtain ⟨dxa, ea⟩ := ha
        have ha3 : BoatAt C (upd H' Tt (.tup [.ref a, .int (hv ld i)])) a r.1 r.2 := ⟨dxa, st _ _ (si _ _ (s2 _ _ ea))⟩
        have eb := brs_at hr2
        have eD2 := st _ _ eD
        refine ⟨Tt, _, rfl, SqT.of upd_same, rfl, _, _, rfl, _, _, rfl, rfl, rfl, _, rfl, _, rfl, a, r.1, r.2, _, rfl, ha3, _, eD2, ?_, ?_, fun z o e => by rw [upd_ne (ne_of_none e hD)]; exact st _ _ (si _ _ e)⟩
        · rw [List.length_map, List.length_take]; exact small100 (by omega)
        · rw [upd_same, List.take_succ, sps_at hi2, eb]; simp
      · rintro H' ⟨eD, si⟩
        rw [hbl, ← sps_len (rows := rows) (ld := ld), List.take_length] at eD
        exact ⟨D, rfl, eD, s1.trans (s2.trans si)⟩
    rintro σ H1 ⟨b, rfl, eb, s1⟩
    have hlj : j < ld.length := by omega
    have hsj : j < spans.length := by omega
    refine ⟨_, rfl, p, dx, _, rfl, s1 _ _ e1, brF_mspans bl sl, p, bl, sl, rows, spans, rfl, hp.same s1, fun c H2 s2 hc ec => ⟨_, rfl, c, _, (j : Int), _, rfl, rfl, SqL.of ec, atI_nat (gD_v hsj), _, rfl, _, rfl, l, _, (j : Int), _, rfl, rfl, SqL.of (s2 _ _ (s1 _ _ hl)), atI_nat (gD_v hlj), _, _, rfl, rfl, _, rfl, _, rfl, _, _, rfl, rfl, _, _, rfl, _, rfl, _, rfl, _, _, rfl, rfl, _, rfl, b, _, rfl, SqL.of (s2 _ _ eb), fun c2 hc2 => ⟨c2, _, rfl, .inr (SqL.of upd_same), ?_⟩⟩⟩
    rw [sps_cutV (rows := rows) (ld := ld) (by omega) hr1]
    refine ⟨small_line (by show (_ :: (_ ++ [])).length ≤ 100; rw [List.append_nil, List.length_cons, List.length_map, List.length_append]; split <;> split <;> simp), fun p1 hp1 => ⟨p1, roomL rows spans ld j, rfl, SqL.of ?_, by simp [roomL], fun m hm1 hm2 => q m _ ?_ ⟨hm1, hm2⟩⟩⟩
    · rw [upd_same, List.append_nil]; rfl
    · exact (s1.trans s2).trans ((same_upd hc2).trans (same_upd hp1))
end
/-! ### readings, a step at a time -/
section
variable {σ : L2.St} {H : Hp} {Q : VK} {D : Ends} {ta tb te : TE} {tr t : TA} {E : XK} {sp : Sp} {dvs : List V}
theorem i_var {i : Nat} {v : V} (e : σ[i]? = some (some v)) (h : Q v H) : tVar i σ H Q := ⟨v, e, h⟩
theorem i_c {v : V} (h : Q v H) : tC v σ H Q := h
theorem i_nil {Q : List V → Hp → Prop} (h : Q [] H) : tNil σ H Q := h
theorem i_cons {Q : List V → Hp → Prop} (h : ta σ H fun x H1 => tr σ H1 fun xs H2 => Q (x :: xs) H2) : tCons ta tr σ H Q := h
theorem i_op {r : R2} (h : ta σ H fun x H1 => tb σ H1 fun y H2 => r x y H2 Q) : tOp r ta tb σ H Q := h
theorem i_un {r : V → Hp → VK → Prop} (h : ta σ H fun x H1 => r x H1 Q) : tUn r ta σ H Q := h
theorem i_call (h : t σ H fun vs H1 => sp (vs ++ dvs) H1 Q E) : tCall sp dvs E t σ H Q := h
theorem i_cb {r : List V → Hp → VK → Prop} (h : t σ H fun vs H1 => r vs H1 Q) : tCB r t σ H Q := h
theorem i_asg {g : TG} (h : te σ H fun x H1 => g x σ H1 D.nx) : tAsg te g D σ H := h
theorem i_name {i : Nat} {v : V} {Q : L2.St → Hp → Prop} (h : Q (σ.set i (some v)) H) : gName i v σ H Q := h
theorem i_seq {u v : TS} (h : u { D with nx := v D } σ H) : tSeq u v D σ H := h
theorem i_next (h : D.nx σ H) : tNext D σ H := h
theorem i_ret (h : te σ H D.rt) : tRet te D σ H := h
theorem i_drop (h : te σ H fun _ H1 => D.nx σ H1) : tDrop te D σ H := h
theorem i_if {c : TT} {u v : TS} (h : c σ H fun b H1 => if b = true then u D σ H1 else v D σ H1) : tIfS c u v D σ H := h
theorem i_and {u v : TT} {Q : Bool → Hp → Prop} (h : u σ H fun c H1 => if c = true then v σ H1 Q else Q false H1) : tAnd u v σ H Q := h
theorem i_or {u v : TT} {Q : Bool → Hp → Prop} (h : u σ H fun c H1 => if c = true then Q true H1 else v σ H1 Q) : tOr u v σ H Q := h
theorem i_not {u : TT} {Q : Bool → Hp → Prop} (h : u σ H fun c H1 => Q (!c) H1) : tNot u σ H Q := h
theorem i_test {Q : Bool → Hp → Prop} (h : te σ H fun x H1 => ∃ k, x = .bl k ∧ Q k H1) : tTest te σ H Q := h
theorem i_ite {c : TT} (h : c σ H fun b H1 => if b = true then ta σ H1 Q else tb σ H1 Q) : tIf c ta tb σ H Q := h
theorem i_lst (h : t σ H fun xs H1 => xs.length ≤ sizeLine ∧ ∀ p, H1 p = none → Q (.ref p) (upd H1 p (.lst xs))) : tLst t σ H Q := h
theorem i_tup (h : t σ H fun xs H1 => xs.length ≤ sizeLine ∧ ∀ p, H1 p = none → Q (.ref p) (upd H1 p (.tup xs))) : tTup t σ H Q := h
theorem i_bm {K : PySem.W.Frag} {S : String} {r : V → List V → Hp → VK → Prop} (h : ta σ H fun x H1 => tyV K S x H1 ∧ t σ H1 fun xs H2 => r x xs H2 Q) : tBM K S r ta t σ H Q := h
theorem i_aug {i : Nat} {ti : TIp} {x : V} (e : σ[i]? = some (some x)) (h : te σ H fun y H1 => ti x y H1 fun z H2 => D.nx (σ.set i (some z)) H2) : tAug i te ti D σ H := ⟨x, e, h⟩
theorem i_par {i j : Nat} {v w : V} (h : t σ H fun vs H1 => ∃ v w, vs = [v, w] ∧ D.nx ((σ.set i (some v)).set j (some w)) H1) : tPar i j t D σ H := h
theorem i_gsub {to ti : TE} {ts : TSet} {v : V} {Q : L2.St → Hp → Prop} (h : to σ H fun o H1 => ti σ H1 fun i H2 => ts o i v H2 fun H3 => Q σ H3) : gSub to ti ts v σ H Q := h
theorem i_chain {r r' : R2} {tc : TE} (h : ta σ H fun x H1 => tb σ H1 fun y H2 => r x y H2 fun z H3 => ∃ k, z = .bl k ∧ if k = true then tc σ H3 fun v H4 => r' y v H4 Q else Q (.bl false) H3) : tChain r r' ta tb tc σ H Q := h
theorem i_sl {r : V → Option Int → Option Int → Hp → VK → Prop} {tl th : TO} (h : te σ H fun x H1 => tl σ H1 fun l H2 => th σ H2 fun u H3 => r x l u H3 Q) : tSl r te tl th σ H Q := h
theorem i_nopart {Q : Option Int → Hp → Prop} (h : Q none H) : tNoPart σ H Q := h
theorem i_part {Q : Option Int → Hp → Prop} (h : te σ H fun x H1 => ∃ i, x = .int i ∧ Q (some i) H1) : tPart te σ H Q := h
end
section
variable {σ : L2.St} {H : Hp} {Q : VK} {ta te : TE} {t : TA}
theorem i_m1 {r : V → List V → Hp → VK → Prop} (h : ta σ H fun x H1 => (∃ a, x = .str a) ∧ te σ H1 fun y H2 => r x [y] H2 Q) : tM1 r ta te σ H Q := h
theorem i_m0 {r : V → List V → Hp → VK → Prop} (h : ta σ H fun x H1 => (∃ a, x = .str a) ∧ r x [] H1 Q) : tM0 r ta σ H Q := h
theorem i_iList {K : PySem.W.Frag} {R : It → Hp → Prop} (h : ta σ H fun x H1 => ∃ a, x = .ref a ∧ (∃ xs, SqL K H1 a xs) ∧ R (Itl K a) H1) : iList K ta σ H R := h
theorem i_iTup {K : PySem.W.Frag} {R : It → Hp → Prop} (h : ta σ H fun x H1 => ∃ a, x = .ref a ∧ (∃ xs, SqT K H1 a xs) ∧ R (Itt K a) H1) : iTup K ta σ H R := h
theorem i_iStr {R : It → Hp → Prop} (h : ta σ H fun v H1 => ∃ x, v = .str x ∧ R (Its x) H1) : iStr ta σ H R := h
theorem i_r1 {R : It → Hp → Prop} (h : t σ H fun vs H1 => ∃ j : Int, vs = [.int j] ∧ -(2 ^ 62) ≤ j ∧ j < 2 ^ 62 ∧ R (Itr 0 j.toNat) H1) : iRng1 t σ H R := h
theorem i_lc {wi : TI} {g : TG} {tt : TT} {vs : List Nat} (h : wi σ H fun J H1 => ∀ D, H1 D = none → ∃ W : Nat → Nat → Hp → Prop, (∃ m, W 0 m (upd H1 D (.lst []))) ∧ ∀ i m H, W i m H →
  (J.stop i H ∧ Q (.ref D) H) ∨ (J.go i H ∧ ∃ Nx : Hp → Prop, (∀ H', Nx H' → ∃ m', m' < m ∧ W (i + 1) m' H') ∧ ∀ x H', J.yld i H x H' → g x (wipe σ vs) H' fun σ2 H2 => wipe σ2 vs = wipe σ vs ∧ tt σ2 H2 fun b H3 =>
    if b = true then te σ2 H3 fun y H4 => ∃ acc, H4 D = some (.lst acc) ∧ acc.length < sizeLine ∧ Nx (upd H4 D (.lst (acc ++ [y]))) else Nx H3)) : tLc wi g tt te vs σ H Q := h
end
theorem app_same {H1 H4 : Hp} {D : Addr} {o : HO} (hD : H1 D = none) (s : Same H1 H4) : Same H1 (upd H4 D o) := fun y u e => by rw [upd_ne (ne_of_none e hD)]; exact s _ _ e
theorem app_keep {F : Addr} {H1 H4 : Hp} {D : Addr} {o : HO} (hD : H1 D = none) (s : Keep F H1 H4) : Keep F H1 (upd H4 D o) := fun y u n e => by rw [upd_ne (ne_of_none e hD)]; exact s _ _ n e
theorem lt_line {n : Nat} (h : n < 100000) : n < sizeLine := Nat.lt_of_lt_of_le h (by decide)
theorem le_line {n : Nat} (h : n ≤ 100000) : n ≤ sizeLine := Nat.le_trans h (by decide)
theorem i_callk {σ : L2.St} {H : Hp} {Q : VK} {sp : Sp} {gV : List V → List V → List V} {E : XK} {t tk : TA} (h : t σ H fun vs H1 => tk σ H1 fun zs H2 => sp (gV vs zs) H2 Q E) : tCallK sp gV E t tk σ H Q := h
theorem i_callN {σ : L2.St} {H : Hp} {Q : VK} {n m : Nat} {sp : Sp} {gV : List V → List V → List V} {E : XK} {t tk : TA} (h : t σ H fun vs H1 => tk σ H1 fun zs H2 => vs.length = n ∧ zs.length = m ∧ sp (gV vs zs) H2 Q E) : tCallN n m sp gV E t tk σ H Q := h
theorem i_ckw {σ : L2.St} {H : Hp} {Q : VK} {r : List V → List V → Hp → VK → Prop} {t tk : TA} (h : t σ H fun vs H1 => tk σ H1 fun zs H2 => r vs zs H2 Q) : tCKw r t tk σ H Q := h
theorem i_revL {K : PySem.W.Frag} {σ : L2.St} {H : Hp} {Q : VK} {te : TE} (h : te σ H fun x H1 => ∃ a xs, x = .ref a ∧ SqL K H1 a xs ∧ ∀ p, H1 p = none → Q (.ref p) (upd H1 p (.lst xs.reverse))) : tRevL K te σ H Q := h
theorem ite_str {a b : Str} {A B : Prop} (h1 : a = b → A) (h2 : ¬ a = b → B) : if decide (V.str a = V.str b) = true then A else B := by
  by_cases c : a = b
  · rw [if_pos (decide_eq_true (congrArg V.str c))]; exact h1 c
  · rw [if_neg (fun z => c (V.str.inj (of_decide_eq_true z)))]; exact h2 c
theorem ite_nstr {a b : Str} {A B : Prop} (h1 : ¬ a = b → A) (h2 : a = b → B) : if (!decide (V.str a = V.str b)) = true then A else B := by
  by_cases c : a = b
  · rw [decide_eq_true (congrArg V.str c)]; exact iteF (h2 c)
  · rw [decide_eq_false (fun z => c (V.str.inj z))]; exact iteT (h1 c)
theorem i_tB {te : TE} {σ : L2.St} {H : Hp} {Q : Bool → Hp → Prop} (h : te σ H fun x H1 => ∃ c, x = .bl c ∧ Q c H1) : tB te σ H Q := h
theorem i_kw {K : PySem.W.Frag} {n : Nat} {gs : TGs} {a : Addr} {xs : List V} {σ : L2.St} {H : Hp} {Q : L2.St → Hp → Prop} (h : SqT K H a xs) (e : xs.length = n) (q : gs xs σ H Q) : gTup K n gs (.ref a) σ H Q := ⟨a, xs, rfl, h, e, q⟩
theorem i_andV {ta tb : TE} {σ : L2.St} {H : Hp} {Q : VK} (h : ta σ H fun x H1 => ∃ c, x = .bl c ∧ if c = true then tb σ H1 Q else Q (.bl false) H1) : tAndV ta tb σ H Q := h
theorem i_orV {ta tb : TE} {σ : L2.St} {H : Hp} {Q : VK} (h : ta σ H fun x H1 => ∃ c, x = .bl c ∧ if c = true then Q (.bl true) H1 else tb σ H1 Q) : tOrV ta tb σ H Q := h
theorem i_notV {ta : TE} {σ : L2.St} {H : Hp} {Q : VK} (h : ta σ H fun x H1 => ∃ c, x = .bl c ∧ Q (.bl (!c)) H1) : tNotV ta σ H Q := h
theorem i_ixT {K : PySem.W.Frag} {H : Hp} {p : Addr} {xs : List V} {j : Nat} {v : V} {Q : VK} (h : SqT K H p xs) (e : xs[j]? = some v) (q : Q v H) : rIxT K (.ref p) (.int (j : Int)) H Q := ⟨p, xs, _, v, rfl, rfl, h, atI_nat e, q⟩
theorem i_ixL {K : PySem.W.Frag} {H : Hp} {p : Addr} {xs : List V} {j : Nat} {v : V} {Q : VK} (h : SqL K H p xs) (e : xs[j]? = some v) (q : Q v H) : rIxL K (.ref p) (.int (j : Int)) H Q := ⟨p, xs, _, v, rfl, rfl, h, atI_nat e, q⟩
theorem i_ixT0 {K : PySem.W.Frag} {H : Hp} {p : Addr} {x : V} {xs : List V} {Q : VK} (h : SqT K H p (x :: xs)) (q : Q x H) : rIxT K (.ref p) (.int 0) H Q := ⟨p, _, 0, x, rfl, rfl, h, atI_nat (j := 0) rfl, q⟩
theorem i_ixT1 {K : PySem.W.Frag} {H : Hp} {p : Addr} {x y : V} {xs : List V} {Q : VK} (h : SqT K H p (x :: y :: xs)) (q : Q y H) : rIxT K (.ref p) (.int 1) H Q := ⟨p, _, 1, y, rfl, rfl, h, atI_nat (j := 1) rfl, q⟩
theorem i_ixT2 {K : PySem.W.Frag} {H : Hp} {p : Addr} {x y z : V} {xs : List V} {Q : VK} (h : SqT K H p (x :: y :: z :: xs)) (q : Q z H) : rIxT K (.ref p) (.int 2) H Q := ⟨p, _, 2, z, rfl, rfl, h, atI_nat (j := 2) rfl, q⟩
theorem i_ixT3 {K : PySem.W.Frag} {H : Hp} {p : Addr} {x y z w : V} {xs : List V} {Q : VK} (h : SqT K H p (x :: y :: z :: w :: xs)) (q : Q w H) : rIxT K (.ref p) (.int 3) H Q := ⟨p, _, 3, w, rfl, rfl, h, atI_nat (j := 3) rfl, q⟩
theorem i_ixLe {K : PySem.W.Frag} {H : Hp} {p : Addr} {xs : List V} {i : Int} (j : Nat) {v : V} {Q : VK} (h : SqL K H p xs) (ei : i = (j : Int)) (e : xs[j]? = some v) (q : Q v H) : rIxL K (.ref p) (.int i) H Q := by subst ei; exact i_ixL h e q
theorem i_ixTe {K : PySem.W.Frag} {H : Hp} {p : Addr} {xs : List V} {i : Int} (j : Nat) {v : V} {Q : VK} (h : SqT K H p xs) (ei : i = (j : Int)) (e : xs[j]? = some v) (q : Q v H) : rIxT K (.ref p) (.int i) H Q := by subst ei; exact i_ixT h e q
def rFld (K : PySem.W.Frag) (f : Str) : V → Hp → VK → Prop := fun x H Q => ∃ a C dx fs v, x = .ref a ∧ H a = some (.ins C dx fs) ∧ Cls K C ∧ NoAttr K C f ∧ fs.lookup f = some v ∧ Q v H
theorem i_fld {K : PySem.W.Frag} {ta : TE} {f : Str} {σ : L2.St} {H : Hp} {Q : VK} (h : ta σ H fun x H1 => rFld K f x H1 Q) : tFld K ta f σ H Q := h
theorem i_sfld {K : PySem.W.Frag} {ta tv : TE} {f : Str} {D : Ends} {σ : L2.St} {H : Hp} (h : tv σ H fun y H1 => ta σ H1 fun x H2 => ∃ a C dx fs, x = .ref a ∧ H2 a = some (.ins C dx fs) ∧ Cls K C ∧ NoAttr K C f ∧ fs.length < 1000 ∧ D.nx σ (upd H2 a (.ins C dx (putF f y fs)))) : sFld K ta tv f D σ H := h
/-- a new object, to be made by its __init__ -/
def rMkN (C : Addr) (sp : Sp) (gV : List V → List V → List V) (E : XK) (vs zs : List V) (H : Hp) (Q : VK) : Prop := ∀ x dx, H x = none → H dx = none → dx ≠ x → sp (gV (.ref x :: vs) zs) (upd (upd H dx (.own x)) x (.ins C dx [])) (fun v H3 => v = .non ∧ Q (.ref x) H3) E
def rMk (C : Addr) (sp : Sp) (dvs : List V) (E : XK) (vs : List V) (H : Hp) (Q : VK) : Prop := ∀ x dx, H x = none → H dx = none → dx ≠ x → sp (.ref x :: (vs ++ dvs)) (upd (upd H dx (.own x)) x (.ins C dx [])) (fun v H3 => v = .non ∧ Q (.ref x) H3) E
theorem i_make {C : Addr} {sp : Sp} {dvs : List V} {E : XK} {t : TA} {σ : L2.St} {H : Hp} {Q : VK} (h : t σ H fun vs H1 => rMk C sp dvs E vs H1 Q) : tMake C sp dvs E t σ H Q := h
theorem i_makeN {C : Addr} {n m : Nat} {sp : Sp} {gV : List V → List V → List V} {E : XK} {t tk : TA} {σ : L2.St} {H : Hp} {Q : VK} (h : t σ H fun vs H1 => tk σ H1 fun zs H2 => vs.length = n ∧ zs.length = m ∧ rMkN C sp gV E vs zs H2 Q) : tMakeN C n m sp gV E t tk σ H Q := h
theorem i_meth {C : Addr} {m : Str} {sp : Sp} {dvs : List V} {E : XK} {ta : TE} {t : TA} {σ : L2.St} {H : Hp} {Q : VK} (h : ta σ H fun x H1 => ∃ a dx fs, x = .ref a ∧ H1 a = some (.ins C dx fs) ∧ fs.lookup m = none ∧ t σ H1 fun vs H2 => sp (x :: (vs ++ dvs)) H2 Q E) : tMeth C m sp dvs E ta t σ H Q := h
theorem ixN_last {n : Nat} : ixN (n + 1) (-1) = some n := by
  unfold ixN
  rw [if_neg (by decide), if_pos (by omega)]
  congr 1
  omega
theorem i_ixLast {K : PySem.W.Frag} {H : Hp} {p : Addr} {xs : List V} {v : V} {Q : VK} (h : SqL K H p (xs ++ [v])) (q : Q v H) : rIxL K (.ref p) (.int (-1)) H Q := by
  refine ⟨p, xs ++ [v], -1, v, rfl, rfl, h, ?_, q⟩
  unfold atI
  rw [List.length_append, List.length_singleton, ixN_last]
  simp
theorem i_setLast {H : Hp} {p : Addr} {xs : List V} {v w : V} {Q : Hp → Prop} (h : H p = some (.lst (xs ++ [v]))) (q : Q (upd H p (.lst (xs ++ [w])))) : rSetL (.ref p) (.int (-1)) w H Q := by
  refine ⟨p, xs ++ [v], -1, xs.length, rfl, rfl, h, by rw [List.length_append, List.length_singleton, ixN_last], ?_⟩
  rw [show (xs ++ [v]).set xs.length w = xs ++ [w] by simp]
  exact q
theorem isi_list {K : PySem.W.Frag} {H : Hp} {p : Addr} {xs : List V} {Q : VK} (e : H p = some (.lst xs)) (q : Q (.bl true) H) : rIsi K [.ref p, .ty "list"] H Q := ⟨_, _, _, _, true, rfl, .ty _, .base (.lst e), rfl, q⟩
theorem isi_own {K : PySem.W.Frag} {H : Hp} {x : V} {C : Addr} {Q : VK} (e : TyX K H x (.ref C)) (q : Q (.bl true) H) : rIsi K [x, .ref C] H Q := ⟨_, _, _, _, true, rfl, .own C, e, if_pos (beq_self_eq_true _), q⟩
theorem i_yes {σ : L2.St} {H : Hp} {Q : Bool → Hp → Prop} (h : Q true H) : tYes σ H Q := h
set_option maxHeartbeats 8000000
local macro_rules | `(tactic| walk_at "c") => `(tactic| first | omega | decide | exact ⟨by omega, by omega⟩ | exact ⟨by decide, by decide⟩ | exact .inl ⟨by omega, by omega⟩ | exact .inr ⟨by omega, by omega⟩ | exact ⟨by omega, by omega, by omega⟩ | exact ⟨by decide, by decide, by decide⟩ | exact le_line (Nat.le_of_ble_eq_true rfl))
local macro_rules | `(tactic| walk_at "a") => `(tactic| with_reducible (first | refine i_seq ?_ | refine i_asg ?_ | refine i_cons ?_ | refine i_c ?_ | refine i_nil ?_ | refine i_op ?_ | refine i_call ?_ | refine i_cb ?_ | refine i_name ?_ | refine i_next ?_ | refine i_ret ?_ | refine i_drop ?_ | refine i_if ?_ | refine i_test ?_ | refine i_and ?_ | refine i_or ?_ | refine i_not ?_ | refine i_ite ?_ | refine i_lst ?_ | refine i_tup ?_ | refine i_bm ?_ | refine i_un ?_ | refine i_par ?_ | refine i_gsub ?_ | refine i_chain ?_ | refine i_sl ?_ | refine i_nopart ?_ | refine i_part ?_ | refine i_m1 ?_ | refine i_m0 ?_ | refine i_lc ?_ | refine i_iList ?_ | refine i_iTup ?_ | refine i_iStr ?_ | refine i_r1 ?_ | refine i_set ?_ | refine i_callk ?_ | refine i_callN ?_ | refine i_ckw ?_ | refine i_revL ?_ | refine i_tB ?_ | refine i_fld ?_ | refine i_sfld ?_ | refine i_make ?_ | refine i_makeN ?_ | refine i_meth ?_ | refine i_andV ?_ | refine i_orV ?_ | refine i_notV ?_ | refine iteT ?_ | refine iteF ?_ | refine i_yes ?_))
local macro_rules | `(tactic| walk_at "s") => `(tactic| repeat (first | walk_at "a" | refine i_var rfl ?_ | refine i_aug rfl ?_ | refine And.intro ⟨_, rfl⟩ ?_ | refine ⟨_, rfl, ?_⟩ | refine ⟨_, _, rfl, rfl, ?_⟩ | refine ⟨_, _, rfl, ?_⟩ | refine ⟨rfl, ?_⟩ | refine And.intro (by walk_at "c") ?_))
structure Ev (K : PySem.W.Frag) (mg : Str → Option Value) where
  f_wall : Addr
  fd_wall : FuncData
  F_wall : Fun K "_wall" "_wall" sWall f_wall fd_wall
  b_wall : Binds K fd_wall ["k"] []
  g_wall : mg "_wall" = some (.ref f_wall)
  fis_whole : Addr
  fdis_whole : FuncData
  Fis_whole : Fun K "is_whole" "is_whole" sIsW fis_whole fdis_whole
  bis_whole : Binds K fdis_whole ["thing", "least", "most"] []
  gis_whole : mg "is_whole" = some (.ref fis_whole)
  fis_name : Addr
  fdis_name : FuncData
  Fis_name : Fun K "is_name" "is_name" sIsName fis_name fdis_name
  bis_name : Binds K fdis_name ["thing"] []
  gis_name : mg "is_name" = some (.ref fis_name)
  fhas_only : Addr
  fdhas_only : FuncData
  Fhas_only : Fun K "has_only" "has_only" sHas fhas_only fdhas_only
  bhas_only : Binds K fdhas_only ["word", "signs"] []
  ghas_only : mg "has_only" = some (.ref fhas_only)
  fnumber_of : Addr
  fdnumber_of : FuncData
  Fnumber_of : Fun K "number_of" "number_of" sNumberOf fnumber_of fdnumber_of
  bnumber_of : Binds K fdnumber_of ["word", "most"] []
  gnumber_of : mg "number_of" = some (.ref fnumber_of)
  fhalves : Addr
  fdhalves : FuncData
  Fhalves : Fun K "halves" "halves" sHalves fhalves fdhalves
  bhalves : Binds K fdhalves ["bridge", "load"] []
  ghalves : mg "halves" = some (.ref fhalves)
  fspare : Addr
  fdspare : FuncData
  Fspare : Fun K "spare" "spare" sSpare fspare fdspare
  bspare : Binds K fdspare ["boat", "many"] []
  gspare : mg "spare" = some (.ref fspare)
  fneed_borne : Addr
  fdneed_borne : FuncData
  Fneed_borne : Fun K "need_borne" "need_borne" sNeed fneed_borne fdneed_borne
  bneed_borne : Binds K fdneed_borne ["bridge", "load"] []
  gneed_borne : mg "need_borne" = some (.ref fneed_borne)
  fis_borne : Addr
  fdis_borne : FuncData
  Fis_borne : Fun K "is_borne" "is_borne" sBorne fis_borne fdis_borne
  bis_borne : Binds K fdis_borne ["bridge", "load"] []
  gis_borne : mg "is_borne" = some (.ref fis_borne)
  froom_at : Addr
  fdroom_at : FuncData
  Froom_at : Fun K "room_at" "room_at" sRoom froom_at fdroom_at
  broom_at : Binds K fdroom_at ["bridge", "load", "at"] []
  groom_at : mg "room_at" = some (.ref froom_at)
  fread_bridge : Addr
  fdread_bridge : FuncData
  Fread_bridge : Fun K "read_bridge" "read_bridge" sReadBridge fread_bridge fdread_bridge
  bread_bridge : Binds K fdread_bridge ["text"] []
  gread_bridge : mg "read_bridge" = some (.ref fread_bridge)
  f_are_boats : Addr
  fd_are_boats : FuncData
  F_are_boats : Fun K "_are_boats" "_are_boats" sAreB f_are_boats fd_are_boats
  b_are_boats : Binds K fd_are_boats ["thing"] []
  g_are_boats : mg "_are_boats" = some (.ref f_are_boats)
  f_are_spans : Addr
  fd_are_spans : FuncData
  F_are_spans : Fun K "_are_spans" "_are_spans" sAreS f_are_spans fd_are_spans
  b_are_spans : Binds K fd_are_spans ["thing"] []
  g_are_spans : mg "_are_spans" = some (.ref f_are_spans)
  f_boat_of : Addr
  fd_boat_of : FuncData
  F_boat_of : Fun K "_boat_of" "_boat_of" sBoatOf f_boat_of fd_boat_of
  b_boat_of : Binds K fd_boat_of ["word"] []
  g_boat_of : mg "_boat_of" = some (.ref f_boat_of)
  f_span_of : Addr
  fd_span_of : FuncData
  F_span_of : Fun K "_span_of" "_span_of" sSpanOf f_span_of fd_span_of
  b_span_of : Binds K fd_span_of ["word"] []
  g_span_of : mg "_span_of" = some (.ref f_span_of)
  f_law_tape : Addr
  fd_law_tape : FuncData
  F_law_tape : Fun K "_law_tape" "_law_tape" sTape f_law_tape fd_law_tape
  b_law_tape : Binds K fd_law_tape ["_law_script"] []
  g_law_tape : mg "_law_tape" = some (.ref f_law_tape)
  f_law_draw : Addr
  fd_law_draw : FuncData
  F_law_draw : Fun K "_law_draw" "_law_draw" sDraw f_law_draw fd_law_draw
  b_law_draw : Binds K fd_law_draw ["_law_tape_here", "_law_many"] []
  g_law_draw : mg "_law_draw" = some (.ref f_law_draw)
  f_law_pick : Addr
  fd_law_pick : FuncData
  F_law_pick : Fun K "_law_pick" "_law_pick" sPick f_law_pick fd_law_pick
  b_law_pick : Binds K fd_law_pick ["_law_tape_here", "_law_some"] []
  g_law_pick : mg "_law_pick" = some (.ref f_law_pick)
  f_law_names : Addr
  fd_law_names : FuncData
  F_law_names : Fun K "_law_names" "_law_names" sNames f_law_names fd_law_names
  b_law_names : Binds K fd_law_names ["_law_tape_here", "_law_many"] []
  g_law_names : mg "_law_names" = some (.ref f_law_names)
  f_law_boat_rows : Addr
  fd_law_boat_rows : FuncData
  F_law_boat_rows : Fun K "_law_boat_rows" "_law_boat_rows" sBRows f_law_boat_rows fd_law_boat_rows
  b_law_boat_rows : Binds K fd_law_boat_rows ["_law_tape_here", "_law_names_here"] []
  g_law_boat_rows : mg "_law_boat_rows" = some (.ref f_law_boat_rows)
  f_law_span_row : Addr
  fd_law_span_row : FuncData
  F_law_span_row : Fun K "_law_span_row" "_law_span_row" sSRow f_law_span_row fd_law_span_row
  b_law_span_row : Binds K fd_law_span_row ["_law_tape_here", "_law_many"] []
  g_law_span_row : mg "_law_span_row" = some (.ref f_law_span_row)
  f_law_drawn_parts : Addr
  fd_law_drawn_parts : FuncData
  F_law_drawn_parts : Fun K "_law_drawn_parts" "_law_drawn_parts" sDParts f_law_drawn_parts fd_law_drawn_parts
  b_law_drawn_parts : Binds K fd_law_drawn_parts ["_law_tape_here"] []
  g_law_drawn_parts : mg "_law_drawn_parts" = some (.ref f_law_drawn_parts)
  f_law_made : Addr
  fd_law_made : FuncData
  F_law_made : Fun K "_law_made" "_law_made" sMade f_law_made fd_law_made
  b_law_made : Binds K fd_law_made ["_law_parts"] []
  g_law_made : mg "_law_made" = some (.ref f_law_made)
  f_law_weights : Addr
  fd_law_weights : FuncData
  F_law_weights : Fun K "_law_weights" "_law_weights" sWeights f_law_weights fd_law_weights
  b_law_weights : Binds K fd_law_weights ["_law_tape_here", "_law_parts"] []
  g_law_weights : mg "_law_weights" = some (.ref f_law_weights)
  f_law_fault_told : Addr
  fd_law_fault_told : FuncData
  F_law_fault_told : Fun K "_law_fault_told" "_law_fault_told" sFaultTold f_law_fault_told fd_law_fault_told
  b_law_fault_told : Binds K fd_law_fault_told ["_law_bridge", "_law_load"] []
  g_law_fault_told : mg "_law_fault_told" = some (.ref f_law_fault_told)
  f_law_put : Addr
  fd_law_put : FuncData
  F_law_put : Fun K "_law_put" "_law_put" sPut f_law_put fd_law_put
  b_law_put : Binds K fd_law_put ["_law_load", "_law_at", "_law_more"] []
  g_law_put : mg "_law_put" = some (.ref f_law_put)
  f_law_mended : Addr
  fd_law_mended : FuncData
  F_law_mended : Fun K "_law_mended" "_law_mended" sMended f_law_mended fd_law_mended
  b_law_mended : Binds K fd_law_mended ["_law_tape_here", "_law_bridge", "_law_load"] []
  g_law_mended : mg "_law_mended" = some (.ref f_law_mended)
  f_law_filled : Addr
  fd_law_filled : FuncData
  F_law_filled : Fun K "_law_filled" "_law_filled" sFilled f_law_filled fd_law_filled
  b_law_filled : Binds K fd_law_filled ["_law_tape_here", "_law_bridge", "_law_load"] []
  g_law_filled : mg "_law_filled" = some (.ref f_law_filled)
  flaw : Addr
  fdlaw : FuncData
  Flaw : Fun K "law" "law" sLaw flaw fdlaw
  blaw : Binds K fdlaw ["_law_script"] []
  glaw : mg "law" = some (.ref flaw)
  fBoat___init__ : Addr
  fdBoat___init__ : FuncData
  FBoat___init__ : Fun K "__init__" "Boat.__init__" sBInit fBoat___init__ fdBoat___init__
  bBoat___init__ : Binds K fdBoat___init__ ["self", "name", "bears"] []
  fBoat___eq__ : Addr
  fdBoat___eq__ : FuncData
  FBoat___eq__ : Fun K "__eq__" "Boat.__eq__" sBEq fBoat___eq__ fdBoat___eq__
  bBoat___eq__ : Binds K fdBoat___eq__ ["self", "other"] []
  fBoat___str__ : Addr
  fdBoat___str__ : FuncData
  FBoat___str__ : Fun K "__str__" "Boat.__str__" sBStr fBoat___str__ fdBoat___str__
  bBoat___str__ : Binds K fdBoat___str__ ["self"] []
  fBoat___repr__ : Addr
  fdBoat___repr__ : FuncData
  FBoat___repr__ : Fun K "__repr__" "Boat.__repr__" sBRepr fBoat___repr__ fdBoat___repr__
  bBoat___repr__ : Binds K fdBoat___repr__ ["self"] []
  fBridge___init__ : Addr
  fdBridge___init__ : FuncData
  FBridge___init__ : Fun K "__init__" "Bridge.__init__" sBrInit fBridge___init__ fdBridge___init__
  bBridge___init__ : Binds K fdBridge___init__ ["self", "boats", "spans"] []
  fBridge___eq__ : Addr
  fdBridge___eq__ : FuncData
  FBridge___eq__ : Fun K "__eq__" "Bridge.__eq__" sBridgeEq fBridge___eq__ fdBridge___eq__
  bBridge___eq__ : Binds K fdBridge___eq__ ["self", "other"] []
  fBridge___len__ : Addr
  fdBridge___len__ : FuncData
  FBridge___len__ : Fun K "__len__" "Bridge.__len__" sBrLen fBridge___len__ fdBridge___len__
  bBridge___len__ : Binds K fdBridge___len__ ["self"] []
  fBridge___str__ : Addr
  fdBridge___str__ : FuncData
  FBridge___str__ : Fun K "__str__" "Bridge.__str__" sBridgeStr fBridge___str__ fdBridge___str__
  bBridge___str__ : Binds K fdBridge___str__ ["self"] []
  fBridge_boats : Addr
  fdBridge_boats : FuncData
  FBridge_boats : Fun K "boats" "Bridge.boats" sBrBoats fBridge_boats fdBridge_boats
  bBridge_boats : Binds K fdBridge_boats ["self"] []
  fBridge_spans : Addr
  fdBridge_spans : FuncData
  FBridge_spans : Fun K "spans" "Bridge.spans" sBrSpans fBridge_spans fdBridge_spans
  bBridge_spans : Binds K fdBridge_spans ["self"] []
  fBridge_boat : Addr
  fdBridge_boat : FuncData
  FBridge_boat : Fun K "boat" "Bridge.boat" sBridgeBoat fBridge_boat fdBridge_boat
  bBridge_boat : Binds K fdBridge_boat ["self", "name"] []
  fBridge_with_boat : Addr
  fdBridge_with_boat : FuncData
  FBridge_with_boat : Fun K "with_boat" "Bridge.with_boat" sBridgeWithBoat fBridge_with_boat fdBridge_with_boat
  bBridge_with_boat : Binds K fdBridge_with_boat ["self", "at", "boat"] []
  fOverload___init__ : Addr
  fdOverload___init__ : FuncData
  FOverload___init__ : Fun K "__init__" "Overload.__init__" sOInit fOverload___init__ fdOverload___init__
  bOverload___init__ : Binds K fdOverload___init__ ["self", "part", "at", "over"] []
  fNoSpan___init__ : Addr
  fdNoSpan___init__ : FuncData
  FNoSpan___init__ : Fun K "__init__" "NoSpan.__init__" sNSInit fNoSpan___init__ fdNoSpan___init__
  bNoSpan___init__ : Binds K fdNoSpan___init__ ["self", "at"] []
  tFIGURES : Tok
  mFIGURES : mg "FIGURES" = some (.str "0123456789" tFIGURES)
  tSMALL_LETTERS : Tok
  mSMALL_LETTERS : mg "SMALL_LETTERS" = some (.str "abcdefghijklmnopqrstuvwxyz" tSMALL_LETTERS)
  tLONGEST_NAME : Tok
  mLONGEST_NAME : mg "LONGEST_NAME" = some (.int 8 tLONGEST_NAME)
  tMOST_BOATS : Tok
  mMOST_BOATS : mg "MOST_BOATS" = some (.int 10 tMOST_BOATS)
  tMOST_BORNE : Tok
  mMOST_BORNE : mg "MOST_BORNE" = some (.int 1000000 tMOST_BORNE)
  mIndexError : mg "IndexError" = none
  mKeyError : mg "KeyError" = none
  mOverflowError : mg "OverflowError" = none
  mValueError : mg "ValueError" = none
  mall : mg "all" = none
  mbool : mg "bool" = none
  menumerate : mg "enumerate" = none
  mint : mg "int" = none
  misinstance : mg "isinstance" = none
  mlen : mg "len" = none
  mlist : mg "list" = none
  mmax : mg "max" = none
  mmin : mg "min" = none
  mrange : mg "range" = none
  mstr : mg "str" = none
  mzip : mg "zip" = none
  CBoat : Addr
  CBridge : Addr
  COverload : Addr
  CNoSpan : Addr
  gCOverload : mg "Overload" = some (.ref COverload)
  oxOverload : OexB K COverload
  exOverload : PySem.W.subIn K (.ref COverload) (.type "BaseException") = some true
  hdOverload : PySem.W.hasDictIn K COverload = true
  tyOverload : PySem.W.typeIn K (.ref COverload) = some (.type "type")
  icOverload : PySem.W.isClsIn K COverload = true
  seOverload : PySem.W.subIn K (.ref COverload) (.ref COverload) = some true
  upOverload : PySem.W.subIn K (.ref COverload) (.type "OverflowError") = some true
  gaOverload : PySem.W.findIn K (.ref COverload) "__getattribute__" = some (some (.builtin "BaseException.__getattribute__"))
  ggOverload : PySem.W.findIn K (.ref COverload) "__getattr__" = some none
  haOverload : PySem.W.findIn K (.ref COverload) "__class__" = some (some (.builtin "object.__class__"))
  hnOverload : PySem.W.specialIn K (.builtin "object.__class__") "__get__" = some (some (.builtin "getset_descriptor.__get__"))
  htOverload : PySem.W.takesIn K (.builtin "object.__class__") = some true
  hmOverload : PySem.W.mroIn K COverload (.type "object") = some true
  nOverload_part : PySem.W.findIn K (.ref COverload) "part" = some none
  nOverload_at : PySem.W.findIn K (.ref COverload) "at" = some none
  nOverload_over : PySem.W.findIn K (.ref COverload) "over" = some none
  aOverload___init__ : PySem.W.findIn K (.ref COverload) "__init__" = some (some (.ref fOverload___init__))
  iOverload___init__ : PySem.W.isFn K (.ref fOverload___init__) = true
  kOverload___init__ : PySem.W.keepIn K (.ref fOverload___init__) = true
  gCNoSpan : mg "NoSpan" = some (.ref CNoSpan)
  oxNoSpan : OexB K CNoSpan
  exNoSpan : PySem.W.subIn K (.ref CNoSpan) (.type "BaseException") = some true
  hdNoSpan : PySem.W.hasDictIn K CNoSpan = true
  tyNoSpan : PySem.W.typeIn K (.ref CNoSpan) = some (.type "type")
  icNoSpan : PySem.W.isClsIn K CNoSpan = true
  seNoSpan : PySem.W.subIn K (.ref CNoSpan) (.ref CNoSpan) = some true
  upNoSpan : PySem.W.subIn K (.ref CNoSpan) (.type "IndexError") = some true
  gaNoSpan : PySem.W.findIn K (.ref CNoSpan) "__getattribute__" = some (some (.builtin "BaseException.__getattribute__"))
  ggNoSpan : PySem.W.findIn K (.ref CNoSpan) "__getattr__" = some none
  haNoSpan : PySem.W.findIn K (.ref CNoSpan) "__class__" = some (some (.builtin "object.__class__"))
  hnNoSpan : PySem.W.specialIn K (.builtin "object.__class__") "__get__" = some (some (.builtin "getset_descriptor.__get__"))
  htNoSpan : PySem.W.takesIn K (.builtin "object.__class__") = some true
  hmNoSpan : PySem.W.mroIn K CNoSpan (.type "object") = some true
  nNoSpan_at : PySem.W.findIn K (.ref CNoSpan) "at" = some none
  aNoSpan___init__ : PySem.W.findIn K (.ref CNoSpan) "__init__" = some (some (.ref fNoSpan___init__))
  iNoSpan___init__ : PySem.W.isFn K (.ref fNoSpan___init__) = true
  kNoSpan___init__ : PySem.W.keepIn K (.ref fNoSpan___init__) = true
  gCBoat : mg "Boat" = some (.ref CBoat)
  pgBoat : PySem.W.plainGet K CBoat Str.empty = true
  hdBoat : PySem.W.hasDictIn K CBoat = true
  poBoat : PySem.W.plainOver K CBoat = true
  saBoat : PySem.W.findIn K (.ref CBoat) "__setattr__" = some (some (.builtin "object.__setattr__"))
  mkBoat : PySem.W.makesIn K CBoat = true
  kcBoat : PySem.W.keepIn K (.ref CBoat) = true
  haBoat : PySem.W.findIn K (.ref CBoat) "__class__" = some (some (.builtin "object.__class__"))
  hnBoat : PySem.W.specialIn K (.builtin "object.__class__") "__get__" = some (some (.builtin "getset_descriptor.__get__"))
  htBoat : PySem.W.takesIn K (.builtin "object.__class__") = some true
  hmBoat : PySem.W.mroIn K CBoat (.type "object") = some true
  nfBoat : PySem.W.notFirst K CBoat (.ref CBoat) = true
  nBoat_name : PySem.W.findIn K (.ref CBoat) "name" = some none
  nBoat_bears : PySem.W.findIn K (.ref CBoat) "bears" = some none
  neBoat : PySem.W.findIn K (.ref CBoat) "__ne__" = some (some (.builtin "object.__ne__"))
  icBoat : PySem.W.isClsIn K CBoat = true
  tyBoat : PySem.W.typeIn K (.ref CBoat) = some (.type "type")
  subBoat_NoneType : PySem.W.subIn K (.ref CBoat) (.type "NoneType") = some false
  kitBoat_NoneType : PySem.W.subIn K (.type "NoneType") (.ref CBoat) = some false
  ntBoat_NoneType : PySem.W.notFirst K CBoat (.type "NoneType") = true
  subBoat_int : PySem.W.subIn K (.ref CBoat) (.type "int") = some false
  kitBoat_int : PySem.W.subIn K (.type "int") (.ref CBoat) = some false
  ntBoat_int : PySem.W.notFirst K CBoat (.type "int") = true
  subBoat_str : PySem.W.subIn K (.ref CBoat) (.type "str") = some false
  kitBoat_str : PySem.W.subIn K (.type "str") (.ref CBoat) = some false
  ntBoat_str : PySem.W.notFirst K CBoat (.type "str") = true
  subBoat_list : PySem.W.subIn K (.ref CBoat) (.type "list") = some false
  kitBoat_list : PySem.W.subIn K (.type "list") (.ref CBoat) = some false
  ntBoat_list : PySem.W.notFirst K CBoat (.type "list") = true
  subBoat_tuple : PySem.W.subIn K (.ref CBoat) (.type "tuple") = some false
  kitBoat_tuple : PySem.W.subIn K (.type "tuple") (.ref CBoat) = some false
  ntBoat_tuple : PySem.W.notFirst K CBoat (.type "tuple") = true
  subBoat_dict : PySem.W.subIn K (.ref CBoat) (.type "dict") = some false
  kitBoat_dict : PySem.W.subIn K (.type "dict") (.ref CBoat) = some false
  ntBoat_dict : PySem.W.notFirst K CBoat (.type "dict") = true
  fmBoat : PySem.W.findIn K (.ref CBoat) "__format__" = some (some (.builtin "object.__format__"))
  aBoat___init__ : PySem.W.findIn K (.ref CBoat) "__init__" = some (some (.ref fBoat___init__))
  iBoat___init__ : PySem.W.isFn K (.ref fBoat___init__) = true
  kBoat___init__ : PySem.W.keepIn K (.ref fBoat___init__) = true
  aBoat___eq__ : PySem.W.findIn K (.ref CBoat) "__eq__" = some (some (.ref fBoat___eq__))
  iBoat___eq__ : PySem.W.isFn K (.ref fBoat___eq__) = true
  kBoat___eq__ : PySem.W.keepIn K (.ref fBoat___eq__) = true
  aBoat___str__ : PySem.W.findIn K (.ref CBoat) "__str__" = some (some (.ref fBoat___str__))
  iBoat___str__ : PySem.W.isFn K (.ref fBoat___str__) = true
  kBoat___str__ : PySem.W.keepIn K (.ref fBoat___str__) = true
  aBoat___repr__ : PySem.W.findIn K (.ref CBoat) "__repr__" = some (some (.ref fBoat___repr__))
  iBoat___repr__ : PySem.W.isFn K (.ref fBoat___repr__) = true
  kBoat___repr__ : PySem.W.keepIn K (.ref fBoat___repr__) = true
  gCBridge : mg "Bridge" = some (.ref CBridge)
  pgBridge : PySem.W.plainGet K CBridge Str.empty = true
  hdBridge : PySem.W.hasDictIn K CBridge = true
  poBridge : PySem.W.plainOver K CBridge = true
  saBridge : PySem.W.findIn K (.ref CBridge) "__setattr__" = some (some (.builtin "object.__setattr__"))
  mkBridge : PySem.W.makesIn K CBridge = true
  kcBridge : PySem.W.keepIn K (.ref CBridge) = true
  haBridge : PySem.W.findIn K (.ref CBridge) "__class__" = some (some (.builtin "object.__class__"))
  hnBridge : PySem.W.specialIn K (.builtin "object.__class__") "__get__" = some (some (.builtin "getset_descriptor.__get__"))
  htBridge : PySem.W.takesIn K (.builtin "object.__class__") = some true
  hmBridge : PySem.W.mroIn K CBridge (.type "object") = some true
  nfBridge : PySem.W.notFirst K CBridge (.ref CBridge) = true
  nBridge__boats : PySem.W.findIn K (.ref CBridge) "_boats" = some none
  nBridge__spans : PySem.W.findIn K (.ref CBridge) "_spans" = some none
  neBridge : PySem.W.findIn K (.ref CBridge) "__ne__" = some (some (.builtin "object.__ne__"))
  icBridge : PySem.W.isClsIn K CBridge = true
  tyBridge : PySem.W.typeIn K (.ref CBridge) = some (.type "type")
  subBridge_NoneType : PySem.W.subIn K (.ref CBridge) (.type "NoneType") = some false
  kitBridge_NoneType : PySem.W.subIn K (.type "NoneType") (.ref CBridge) = some false
  ntBridge_NoneType : PySem.W.notFirst K CBridge (.type "NoneType") = true
  subBridge_int : PySem.W.subIn K (.ref CBridge) (.type "int") = some false
  kitBridge_int : PySem.W.subIn K (.type "int") (.ref CBridge) = some false
  ntBridge_int : PySem.W.notFirst K CBridge (.type "int") = true
  subBridge_str : PySem.W.subIn K (.ref CBridge) (.type "str") = some false
  kitBridge_str : PySem.W.subIn K (.type "str") (.ref CBridge) = some false
  ntBridge_str : PySem.W.notFirst K CBridge (.type "str") = true
  subBridge_list : PySem.W.subIn K (.ref CBridge) (.type "list") = some false
  kitBridge_list : PySem.W.subIn K (.type "list") (.ref CBridge) = some false
  ntBridge_list : PySem.W.notFirst K CBridge (.type "list") = true
  subBridge_tuple : PySem.W.subIn K (.ref CBridge) (.type "tuple") = some false
  kitBridge_tuple : PySem.W.subIn K (.type "tuple") (.ref CBridge) = some false
  ntBridge_tuple : PySem.W.notFirst K CBridge (.type "tuple") = true
  subBridge_dict : PySem.W.subIn K (.ref CBridge) (.type "dict") = some false
  kitBridge_dict : PySem.W.subIn K (.type "dict") (.ref CBridge) = some false
  ntBridge_dict : PySem.W.notFirst K CBridge (.type "dict") = true
  blBridge : PySem.W.findIn K (.ref CBridge) "__bool__" = some none
  aBridge___init__ : PySem.W.findIn K (.ref CBridge) "__init__" = some (some (.ref fBridge___init__))
  iBridge___init__ : PySem.W.isFn K (.ref fBridge___init__) = true
  kBridge___init__ : PySem.W.keepIn K (.ref fBridge___init__) = true
  aBridge___eq__ : PySem.W.findIn K (.ref CBridge) "__eq__" = some (some (.ref fBridge___eq__))
  iBridge___eq__ : PySem.W.isFn K (.ref fBridge___eq__) = true
  kBridge___eq__ : PySem.W.keepIn K (.ref fBridge___eq__) = true
  aBridge___len__ : PySem.W.findIn K (.ref CBridge) "__len__" = some (some (.ref fBridge___len__))
  iBridge___len__ : PySem.W.isFn K (.ref fBridge___len__) = true
  kBridge___len__ : PySem.W.keepIn K (.ref fBridge___len__) = true
  aBridge___str__ : PySem.W.findIn K (.ref CBridge) "__str__" = some (some (.ref fBridge___str__))
  iBridge___str__ : PySem.W.isFn K (.ref fBridge___str__) = true
  kBridge___str__ : PySem.W.keepIn K (.ref fBridge___str__) = true
  aBridge_boats : PySem.W.findIn K (.ref CBridge) "boats" = some (some (.ref fBridge_boats))
  iBridge_boats : PySem.W.isFn K (.ref fBridge_boats) = true
  kBridge_boats : PySem.W.keepIn K (.ref fBridge_boats) = true
  aBridge_spans : PySem.W.findIn K (.ref CBridge) "spans" = some (some (.ref fBridge_spans))
  iBridge_spans : PySem.W.isFn K (.ref fBridge_spans) = true
  kBridge_spans : PySem.W.keepIn K (.ref fBridge_spans) = true
  aBridge_boat : PySem.W.findIn K (.ref CBridge) "boat" = some (some (.ref fBridge_boat))
  iBridge_boat : PySem.W.isFn K (.ref fBridge_boat) = true
  kBridge_boat : PySem.W.keepIn K (.ref fBridge_boat) = true
  aBridge_with_boat : PySem.W.findIn K (.ref CBridge) "with_boat" = some (some (.ref fBridge_with_boat))
  iBridge_with_boat : PySem.W.isFn K (.ref fBridge_with_boat) = true
  kBridge_with_boat : PySem.W.keepIn K (.ref fBridge_with_boat) = true
theorem cl_Boat {K : PySem.W.Frag} {mg : Str → Option Value} (T : Ev K mg) : Cls K T.CBoat := ⟨T.pgBoat, T.hdBoat, T.poBoat, T.saBoat⟩
theorem mt_Boat___init__ {K : PySem.W.Frag} {mg : Str → Option Value} (T : Ev K mg) : Meth K T.CBoat "__init__" T.fBoat___init__ := ⟨T.aBoat___init__, T.iBoat___init__, T.kBoat___init__⟩
theorem mk_Boat {K : PySem.W.Frag} {mg : Str → Option Value} (T : Ev K mg) : Mk K T.CBoat T.fBoat___init__ := ⟨T.mkBoat, T.aBoat___init__, T.iBoat___init__, T.kcBoat⟩
theorem mt_Boat___eq__ {K : PySem.W.Frag} {mg : Str → Option Value} (T : Ev K mg) : Meth K T.CBoat "__eq__" T.fBoat___eq__ := ⟨T.aBoat___eq__, T.iBoat___eq__, T.kBoat___eq__⟩
theorem mt_Boat___str__ {K : PySem.W.Frag} {mg : Str → Option Value} (T : Ev K mg) : Meth K T.CBoat "__str__" T.fBoat___str__ := ⟨T.aBoat___str__, T.iBoat___str__, T.kBoat___str__⟩
theorem mt_Boat___repr__ {K : PySem.W.Frag} {mg : Str → Option Value} (T : Ev K mg) : Meth K T.CBoat "__repr__" T.fBoat___repr__ := ⟨T.aBoat___repr__, T.iBoat___repr__, T.kBoat___repr__⟩
theorem cl_Bridge {K : PySem.W.Frag} {mg : Str → Option Value} (T : Ev K mg) : Cls K T.CBridge := ⟨T.pgBridge, T.hdBridge, T.poBridge, T.saBridge⟩
theorem mt_Bridge___init__ {K : PySem.W.Frag} {mg : Str → Option Value} (T : Ev K mg) : Meth K T.CBridge "__init__" T.fBridge___init__ := ⟨T.aBridge___init__, T.iBridge___init__, T.kBridge___init__⟩
theorem mk_Bridge {K : PySem.W.Frag} {mg : Str → Option Value} (T : Ev K mg) : Mk K T.CBridge T.fBridge___init__ := ⟨T.mkBridge, T.aBridge___init__, T.iBridge___init__, T.kcBridge⟩
theorem mt_Bridge___eq__ {K : PySem.W.Frag} {mg : Str → Option Value} (T : Ev K mg) : Meth K T.CBridge "__eq__" T.fBridge___eq__ := ⟨T.aBridge___eq__, T.iBridge___eq__, T.kBridge___eq__⟩
theorem mt_Bridge___len__ {K : PySem.W.Frag} {mg : Str → Option Value} (T : Ev K mg) : Meth K T.CBridge "__len__" T.fBridge___len__ := ⟨T.aBridge___len__, T.iBridge___len__, T.kBridge___len__⟩
theorem mt_Bridge___str__ {K : PySem.W.Frag} {mg : Str → Option Value} (T : Ev K mg) : Meth K T.CBridge "__str__" T.fBridge___str__ := ⟨T.aBridge___str__, T.iBridge___str__, T.kBridge___str__⟩
theorem mt_Bridge_boats {K : PySem.W.Frag} {mg : Str → Option Value} (T : Ev K mg) : Meth K T.CBridge "boats" T.fBridge_boats := ⟨T.aBridge_boats, T.iBridge_boats, T.kBridge_boats⟩
theorem mt_Bridge_spans {K : PySem.W.Frag} {mg : Str → Option Value} (T : Ev K mg) : Meth K T.CBridge "spans" T.fBridge_spans := ⟨T.aBridge_spans, T.iBridge_spans, T.kBridge_spans⟩
theorem mt_Bridge_boat {K : PySem.W.Frag} {mg : Str → Option Value} (T : Ev K mg) : Meth K T.CBridge "boat" T.fBridge_boat := ⟨T.aBridge_boat, T.iBridge_boat, T.kBridge_boat⟩
theorem mt_Bridge_with_boat {K : PySem.W.Frag} {mg : Str → Option Value} (T : Ev K mg) : Meth K T.CBridge "with_boat" T.fBridge_with_boat := ⟨T.aBridge_with_boat, T.iBridge_with_boat, T.kBridge_with_boat⟩
/-! ### the tape, by what is known of the names -/
section
variable {P : Program} {w : World} {K : PySem.W.Frag} {mg : Str → Option Value} {base : Heap} (T : Ev K mg)
theorem ok_law_draw : FnOk P w K mg base CX0 1 T.f_law_draw T.fd_law_draw ["_law_tape_here", "_law_many"] spDraw := ok_draw T.F_law_draw ⟨T.mlen⟩
theorem ok_law_pick : FnOk P w K mg base CX0 2 T.f_law_pick T.fd_law_pick ["_law_tape_here", "_law_some"] spPick := ok_pick T.F_law_pick ⟨T.mlen⟩ T.F_law_draw T.g_law_draw T.b_law_draw
theorem ok_law_tape : FnOk P w K mg base CX0 1 T.f_law_tape T.fd_law_tape ["_law_script"] (spTape K) := ok_tape T.F_law_tape ⟨T.mlen⟩
end
theorem dr {H : Hp} {F c : Addr} (b : Int) {n : Nat} {Q : VK} {E : XK} (hT : Tape H F c n) (b0 : 0 < b) (b1 : b < 1073741824) (hn : n < 1000000)
    (q : ∀ d H', 0 ≤ d → d < b → Tape H' F c (n + 1) → Keep F H H' → Q (.int d) H') : spDraw [.ref F, .int b] H Q E := ⟨F, c, b, n, rfl, b0, b1, hn, hT, q⟩
theorem pk {H : Hp} {F c p : Addr} {xs : List V} {n : Nat} {Q : VK} {E : XK} (hT : Tape H F c n) (hp : H p = some (.lst xs)) (ne : p ≠ F) (l0 : 0 < xs.length) (l1 : xs.length < 1000000) (hn : n < 1000000)
    (q : ∀ x H', x ∈ xs → Tape H' F c (n + 1) → Keep F H H' → Q x H') : spPick [.ref F, .ref p] H Q E := ⟨F, c, p, xs, n, rfl, hp, ne, l0, l1, hn, hT, fun _ x H' e => q x H' (List.mem_of_getElem? e)⟩
/-- of a list that is written there -/
theorem pkn {H : Hp} {F c : Addr} {xs : List V} {n : Nat} {Q : VK} {E : XK} (hT : Tape H F c n) (l0 : 0 < xs.length) (l1 : xs.length < 1000000) (hn : n < 1000000)
    (q : ∀ x H', x ∈ xs → Tape H' F c (n + 1) → Keep F H H' → Q x H') : ∀ p, H p = none → spPick [.ref F, .ref p] (upd H p (.lst xs)) Q E := fun p hp =>
  pk (hT.new hp) upd_same (hT.ne hp) l0 l1 hn fun x H' m t k => q x H' m t ((Keep.refl.new hp).trans k)
theorem Tape.tape {H : Hp} {F c : Addr} {n : Nat} (h : Tape H F c n) : ∃ ys, H F = some (.lst ys) := by
  obtain ⟨t, r, ns, h1, _⟩ := h.ex
  exact ⟨_, h1⟩
/-- a place that was free ahead of all that is kept -/
theorem Keep.free {F : Addr} {H H' : Hp} {p : Addr} (k : Keep F H H') (hp : H' p = none) (ne : p ≠ F) : H p = none := by
  cases e : H p with
  | none => rfl
  | some o => have := k p o ne e; rw [hp] at this; cases this
set_option maxHeartbeats 8000000
local macro_rules | `(tactic| walk_at "c") => `(tactic| first | omega | decide | exact ⟨by omega, by omega⟩ | exact ⟨by decide, by decide⟩ | exact .inl ⟨by omega, by omega⟩ | exact .inr ⟨by omega, by omega⟩ | exact ⟨by omega, by omega, by omega⟩ | exact ⟨by decide, by decide, by decide⟩ | exact le_line (Nat.le_of_ble_eq_true rfl))
local macro_rules | `(tactic| walk_at "a") => `(tactic| with_reducible (first | refine i_seq ?_ | refine i_asg ?_ | refine i_cons ?_ | refine i_c ?_ | refine i_nil ?_ | refine i_op ?_ | refine i_call ?_ | refine i_cb ?_ | refine i_name ?_ | refine i_next ?_ | refine i_ret ?_ | refine i_drop ?_ | refine i_if ?_ | refine i_test ?_ | refine i_and ?_ | refine i_or ?_ | refine i_not ?_ | refine i_ite ?_ | refine i_lst ?_ | refine i_tup ?_ | refine i_bm ?_ | refine i_un ?_ | refine i_par ?_ | refine i_gsub ?_ | refine i_chain ?_ | refine i_sl ?_ | refine i_nopart ?_ | refine i_part ?_ | refine i_m1 ?_ | refine i_m0 ?_ | refine i_lc ?_ | refine i_iList ?_ | refine i_iTup ?_ | refine i_iStr ?_ | refine i_r1 ?_ | refine i_set ?_ | refine i_callk ?_ | refine i_callN ?_ | refine i_ckw ?_ | refine i_revL ?_ | refine i_tB ?_ | refine i_fld ?_ | refine i_sfld ?_ | refine i_make ?_ | refine i_makeN ?_ | refine i_meth ?_ | refine i_andV ?_ | refine i_orV ?_ | refine i_notV ?_ | refine iteT ?_ | refine iteF ?_ | refine i_yes ?_))
local macro_rules | `(tactic| walk_at "s") => `(tactic| repeat (first | walk_at "a" | refine i_var rfl ?_ | refine i_aug rfl ?_ | refine And.intro ⟨_, rfl⟩ ?_ | refine ⟨_, rfl, ?_⟩ | refine ⟨_, _, rfl, rfl, ?_⟩ | refine ⟨_, _, rfl, ?_⟩ | refine ⟨rfl, ?_⟩ | refine And.intro (by walk_at "c") ?_))
section
variable {P : Program} {w : World} {K : PySem.W.Frag} {mg : Str → Option Value} {base : Heap} (T : Ev K mg)
theorem bcl : BCl K mg T.CBoat := ⟨cl_Boat T, T.nBoat_name, T.nBoat_bears, T.gCBoat, T.haBoat, T.hnBoat, T.htBoat, T.hmBoat⟩
theorem brcl : BrCl K mg T.CBridge := ⟨cl_Bridge T, T.nBridge__boats, T.nBridge__spans, T.gCBridge⟩
theorem txb {K : PySem.W.Frag} {mg : Str → Option Value} (T : Ev K mg) : TxtB mg := ⟨T.misinstance, T.mlen, T.mall, T.mlist, T.mint, T.mbool, ⟨_, T.mMOST_BOATS⟩, ⟨_, T.mMOST_BORNE⟩⟩
theorem okBoat___init__ : FnOk P w K mg base CX0 1 T.fBoat___init__ T.fdBoat___init__ ["self", "name", "bears"] (spBInit T.CBoat) := ok_binit T.FBoat___init__ (bcl T)
theorem okis_whole : FnOk P w K mg base CX0 1 T.fis_whole T.fdis_whole ["thing", "least", "most"] (spIsW K) := ok_isw T.Fis_whole (txb T)
theorem okBridge_boats : FnOk P w K mg base CX0 1 T.fBridge_boats T.fdBridge_boats ["self"] (spBrBoats T.CBoat T.CBridge) := ok_brboats T.FBridge_boats (txb T) (brcl T)
theorem okBridge_spans : FnOk P w K mg base CX0 1 T.fBridge_spans T.fdBridge_spans ["self"] (spBrSpans T.CBoat T.CBridge) := ok_brspans T.FBridge_spans (txb T) (brcl T)
theorem okBridge___len__ : FnOk P w K mg base CX0 1 T.fBridge___len__ T.fdBridge___len__ ["self"] (spBrLen T.CBoat T.CBridge) := ok_brlen T.FBridge___len__ (txb T) (brcl T)
theorem okBridge___init__ : FnOk P w K mg base CX0 3 T.fBridge___init__ T.fdBridge___init__ ["self", "boats", "spans"] (spBrInit T.CBoat T.CBridge) := ok_brinit (k := 0) T.FBridge___init__ (txb T) (bcl T) (brcl T) T.F_are_boats T.g_are_boats T.b_are_boats T.F_are_spans T.g_are_spans T.b_are_spans T.Fis_whole T.gis_whole T.bis_whole
/-! ### == of Boats, and of lists of them -/
def spBEq (K : PySem.W.Frag) (C : Addr) : Sp := fun vs H Q _ => ∃ (p : Addr) (y : V) (n : Str) (b : Int), vs = [.ref p, y] ∧ BoatAt C H p n b ∧
  ((∃ q m c, y = .ref q ∧ BoatAt C H q m c ∧ Q (.bl (decide (n = m) && decide (b = c))) H) ∨ (∃ t, TyX K H y t ∧ PySem.W.kitOne K t (.ref C) = some false ∧ Q (.bl false) H))
theorem okBoat___eq__ : FnOk P w K mg base CX0 1 T.fBoat___eq__ T.fdBoat___eq__ ["self", "other"] (spBEq K T.CBoat) := by
  refine T.FBoat___eq__.ok scBEq (fun vs H Q E h => ?_) (fun cdv A outer s H vs Q E hr h => ?_)
  · obtain ⟨p, y, a, b, rfl, _⟩ := h
    rfl
  · obtain ⟨p, y, a, b, rfl, hp, hy⟩ := h
    refine ⟨_,
      (pss_one (ps_ret (pe_and (pe_callB call_isi (by rfl) T.misinstance (by decide +kernel) (pa_cons (pv 1) (pa_cons (pe_glob (v := .ref T.CBoat) (by rfl) T.gCBoat rfl) pa_nil))) (pe_and (pe_cmpR op_eq (pe_fld (pv 0) rfl) (pe_fld (pv 1) rfl) (nomark _)) (pe_one (pe_cmpR op_eq (pe_fld (pv 0) rfl) (pe_fld (pv 1) rfl) (nomark _)))))))
      , ?_⟩
    obtain ⟨dx, ep⟩ := id hp
    rcases hy with ⟨r, c, d, rfl, hr', q⟩ | ⟨t, ty, hk, q⟩
    · obtain ⟨dy, er⟩ := id hr'
      refine ⟨_, rfl, _, _, _, _, true, rfl, .own T.CBoat, isBoat (bcl T) hr', kitC, true, rfl, ?_⟩
      refine ⟨_, rfl, p, T.CBoat, dx, _, _, rfl, ep, cl_Boat T, T.nBoat_name, boatF_name a b, _, rfl, r, T.CBoat, dy, _, _, rfl, er, cl_Boat T, T.nBoat_name, boatF_name c d, rfl, _, rfl, ?_⟩
      refine ite2 (fun c1 => ?_) (fun c1 => ?_)
      · have e1 : a = c := V.str.inj (of_decide_eq_true c1)
        refine ⟨_, rfl, p, T.CBoat, dx, _, _, rfl, ep, cl_Boat T, T.nBoat_bears, boatF_bears a b, _, rfl, r, T.CBoat, dy, _, _, rfl, er, cl_Boat T, T.nBoat_bears, boatF_bears c d, rfl, ?_⟩
        have z : (decide (a = c) && decide (b = d)) = decide (V.int b = V.int d) := by
          rw [decide_eq_true e1, Bool.true_and]
          exact decide_eq_decide.mpr ⟨fun e => congrArg V.int e, fun e => V.int.inj e⟩
        rw [z] at q
        exact q
      · have e1 : ¬ a = c := fun e => c1 (decide_eq_true (congrArg V.str e))
        rw [decide_eq_false e1, Bool.false_and] at q
        exact q
    · exact ⟨_, rfl, _, _, _, _, false, rfl, .own T.CBoat, ty, hk, false, rfl, q⟩
end
section
variable {C : Addr} {K : PySem.W.Frag}
theorem BoatAt.same' {H H' : Hp} {p : Addr} {n : Str} {b : Int} (h : BoatAt C H p n b) (s : Same H H') : BoatAt C H' p n b := by
  obtain ⟨dx, e⟩ := h; exact ⟨dx, s _ _ e⟩
def RBoat (C : Addr) : Addr → Addr → Bool → Hp → Prop := fun p q r H => ∃ a b c d, BoatAt C H p a b ∧ BoatAt C H q c d ∧ r = (decide (a = c) && decide (b = d))
theorem monBoat : MonB (DInsB C (RBoat C)) := monB_ins fun p q r H H' e ⟨a, b, c, d, h1, h2, h3⟩ => ⟨a, b, c, d, h1.same' e, h2.same' e, h3⟩
theorem boatF_inj {a c : Str} {b d : Int} (e : boatF a b = boatF c d) : a = c ∧ b = d := by
  have e1 := boatF_name a b
  have e2 := boatF_bears a b
  rw [e, boatF_name] at e1
  rw [e, boatF_bears] at e2
  cases e1
  cases e2
  exact ⟨rfl, rfl⟩
theorem selfBoat (p : Addr) (r : Bool) (H : Hp) (h : RBoat C p p r H) : r = true := by
  obtain ⟨a, b, c, d, ⟨dx, h1⟩, ⟨dy, h2⟩, h3⟩ := h
  rw [h1] at h2
  have e : boatF a b = boatF c d := by injection h2 with h2; injection h2
  obtain ⟨rfl, rfl⟩ := boatF_inj e
  rw [h3, decide_eq_true rfl, decide_eq_true rfl]; rfl
theorem hspBoat (p q : Addr) (r : Bool) (H : Hp) (Q : VK) (h : RBoat C p q r H) (hq : ∀ H', Ext H H' → Q (.bl r) H') : spBEq K C [.ref p, .ref q] H Q E0 := by
  obtain ⟨a, b, c, d, h1, h2, h3⟩ := h
  exact ⟨p, _, a, b, rfl, h1, .inl ⟨q, c, d, rfl, h2, by rw [← h3]; exact hq H Ext.rfl'⟩⟩
/-- where two lists part -/
theorem parts_at {α : Type} [DecidableEq α] : ∀ (l m : List α), l.length = m.length → ∃ k, k ≤ l.length ∧ decide (l = m) = decide (k = l.length) ∧ ∀ (i : Nat) x y, l[i]? = some x → m[i]? = some y → i ≤ k → (decide (x = y)) = decide (i < k)
  | [], [], _ => ⟨0, Nat.le_refl _, by simp, fun i x y h => by cases h⟩
  | a :: l, b :: m, h => by
    by_cases e : a = b
    · subst e
      obtain ⟨k, k1, k2, k3⟩ := parts_at l m (Nat.succ.inj h)
      refine ⟨k + 1, Nat.succ_le_succ k1, ?_, fun i x y hx hy hi => ?_⟩
      · have : decide (a :: l = a :: m) = decide (l = m) := decide_eq_decide.mpr ⟨fun z => (List.cons.inj z).2, fun z => by rw [z]⟩
        rw [this, k2]
        exact decide_eq_decide.mpr ⟨fun z => congrArg Nat.succ z, fun z => Nat.succ.inj z⟩
      · cases i with
        | zero => cases hx; cases hy; rw [decide_eq_true rfl, decide_eq_true (by omega)]
        | succ i =>
          rw [k3 i x y hx hy (by omega)]
          exact decide_eq_decide.mpr ⟨fun z => by omega, fun z => by omega⟩
    · refine ⟨0, Nat.zero_le _, ?_, fun i x y hx hy hi => ?_⟩
      · rw [decide_eq_false (fun z => e (List.cons.inj z).1), decide_eq_false (by simp)]
      · have : i = 0 := by omega
        subst this
        cases hx; cases hy
        rw [decide_eq_false e]; rfl
/-- lists of Boats: alike just where names and bearings are -/
theorem boats_eqB {H : Hp} {p q : Addr} {xs ys : List V} {rs ss : List (Str × Int)} (hp : H p = some (.lst xs)) (hq : H q = some (.lst ys)) (h1 : Boats C H xs rs) (h2 : Boats C H ys ss) : DListB (DInsB C (RBoat C)) (.ref p) (.ref q) (decide (rs = ss)) H := by
  have l1 := h1.len
  have l2 := h2.len
  refine ⟨p, q, xs, ys, rfl, rfl, hp, hq, ?_⟩
  by_cases hl : xs.length = ys.length
  · obtain ⟨k, k1, k2, k3⟩ := parts_at rs ss (by omega)
    refine .inr ⟨hl, k, by omega, by rw [k2, l1], fun i x y hx hy hi => ?_⟩
    obtain ⟨o, r, rfl, e1, dx, o1⟩ := h1.at hx
    obtain ⟨o', r', rfl, e2, dy, o2⟩ := h2.at hy
    rw [← k3 i r r' e1 e2 hi]
    refine ⟨o, o', dx, dy, _, _, rfl, rfl, o1, o2, r.1, r.2, r'.1, r'.2, ⟨dx, o1⟩, ⟨dy, o2⟩, ?_⟩
    rw [← Bool.decide_and]
    exact decide_eq_decide.mpr ⟨fun z => by rw [z]; exact ⟨rfl, rfl⟩, fun z => Prod.ext z.1 z.2⟩
  · refine .inl ⟨hl, decide_eq_false fun e => hl ?_⟩
    rw [l1, l2, e]
end
/-! ### the law's parts, bridges and looks, by what is known of the names -/
section
variable {P : Program} {w : World} {K : PySem.W.Frag} {mg : Str → Option Value} {base : Heap} (T : Ev K mg)
theorem txp {K : PySem.W.Frag} {mg : Str → Option Value} (T : Ev K mg) : TxtP mg := ⟨T.mlen, T.mrange, T.mlist, T.misinstance, T.mint, T.mbool, T.mstr⟩
theorem ok_law_names : FnOk P w K mg base CX0 2 T.f_law_names T.fd_law_names ["_law_tape_here", "_law_many"] spNames := ok_names T.F_law_names ⟨T.mlen⟩ ⟨T.mlen, T.mrange⟩ T.F_law_draw T.g_law_draw T.b_law_draw
theorem ok_law_drawn_parts : FnOk P w K mg base CX0 5 T.f_law_drawn_parts T.fd_law_drawn_parts ["_law_tape_here"] spDParts :=
  (ok_dparts (k := 1) T.F_law_drawn_parts ⟨T.mlen⟩ ⟨T.mlen, T.mrange⟩ (txp T) T.F_law_draw T.g_law_draw T.b_law_draw T.F_law_pick T.g_law_pick T.b_law_pick T.F_law_names T.g_law_names T.b_law_names T.F_law_boat_rows T.g_law_boat_rows T.b_law_boat_rows T.F_law_span_row T.g_law_span_row T.b_law_span_row)
theorem ok_law_made : FnOk P w K mg base CX0 5 T.f_law_made T.fd_law_made ["_law_parts"] (spMade T.CBoat T.CBridge) :=
  ok_made (k := 0) T.F_law_made (txb T) (bcl T) (brcl T) (txp T) (mk_Boat T) T.FBoat___init__ T.bBoat___init__ (mk_Bridge T) T.FBridge___init__ T.bBridge___init__ T.F_are_boats T.g_are_boats T.b_are_boats T.F_are_spans T.g_are_spans T.b_are_spans T.Fis_whole T.gis_whole T.bis_whole
end
set_option maxHeartbeats 8000000
local macro_rules | `(tactic| walk_at "c") => `(tactic| first | omega | decide | exact ⟨by omega, by omega⟩ | exact ⟨by decide, by decide⟩ | exact .inl ⟨by omega, by omega⟩ | exact .inr ⟨by omega, by omega⟩ | exact ⟨by omega, by omega, by omega⟩ | exact ⟨by decide, by decide, by decide⟩ | exact le_line (Nat.le_of_ble_eq_true rfl))
local macro_rules | `(tactic| walk_at "a") => `(tactic| with_reducible (first | refine i_seq ?_ | refine i_asg ?_ | refine i_cons ?_ | refine i_c ?_ | refine i_nil ?_ | refine i_op ?_ | refine i_call ?_ | refine i_cb ?_ | refine i_name ?_ | refine i_next ?_ | refine i_ret ?_ | refine i_drop ?_ | refine i_if ?_ | refine i_test ?_ | refine i_and ?_ | refine i_or ?_ | refine i_not ?_ | refine i_ite ?_ | refine i_lst ?_ | refine i_tup ?_ | refine i_bm ?_ | refine i_un ?_ | refine i_par ?_ | refine i_gsub ?_ | refine i_chain ?_ | refine i_sl ?_ | refine i_nopart ?_ | refine i_part ?_ | refine i_m1 ?_ | refine i_m0 ?_ | refine i_lc ?_ | refine i_iList ?_ | refine i_iTup ?_ | refine i_iStr ?_ | refine i_r1 ?_ | refine i_set ?_ | refine i_callk ?_ | refine i_callN ?_ | refine i_ckw ?_ | refine i_revL ?_ | refine i_tB ?_ | refine i_fld ?_ | refine i_sfld ?_ | refine i_make ?_ | refine i_makeN ?_ | refine i_meth ?_ | refine i_andV ?_ | refine i_orV ?_ | refine i_notV ?_ | refine iteT ?_ | refine iteF ?_ | refine i_yes ?_))
local macro_rules | `(tactic| walk_at "s") => `(tactic| repeat (first | walk_at "a" | refine i_var rfl ?_ | refine i_aug rfl ?_ | refine And.intro ⟨_, rfl⟩ ?_ | refine ⟨_, rfl, ?_⟩ | refine ⟨_, _, rfl, rfl, ?_⟩ | refine ⟨_, _, rfl, ?_⟩ | refine ⟨rfl, ?_⟩ | refine And.intro (by walk_at "c") ?_))
/-! ### texts of numbers and names, read -/
def numS (i : Int) : Str := Str.ofString (toString i)
theorem num_facts {i : Int} (h0 : 0 ≤ i) (h1 : i ≤ 1000000) : (∀ c ∈ tl (numS i), 48 ≤ c ∧ c ≤ 57) ∧ tl (numS i) ≠ [] ∧ PySem.intText? (numS i) = some i ∧ (numS i).length ≤ 7 := by
  obtain ⟨n, rfl⟩ := Int.eq_ofNat_of_zero_le h0
  have e : tl (numS n) = TL.numL n := TL.tl_num n
  have l : (TL.numL n).length ≤ 7 := TL.numL_len (by decide) (by omega)
  refine ⟨?_, ?_, TL.int_num (by omega), ?_⟩
  · rw [e]; exact TL.numL_digits n
  · rw [e]; exact TL.numL_ne n
  · rw [TL.len_tl, e]; exact l
theorem num_no (s : Nat) (hs : s < 48 ∨ 57 < s) {i : Int} (h0 : 0 ≤ i) (h1 : i ≤ 1000000) : s ∉ tl (numS i) := fun h => by
  have := (num_facts h0 h1).1 s h
  omega
theorem ifF {c : Bool} {a b : Prop} (h : c = false) (q : b) : if c = true then a else b := by subst h; exact q
theorem ifT {c : Bool} {a b : Prop} (h : c = true) (q : a) : if c = true then a else b := by subst h; exact q
theorem isi_str {K : PySem.W.Frag} {H : Hp} {z : Str} {Q : VK} (q : Q (.bl true) H) : rIsi K [.str z, .ty "str"] H Q := ⟨_, _, _, _, true, rfl, .ty _, .base (.str z), rfl, q⟩
theorem log_small {i : Int} (h : i.natAbs < 2 ^ 64) : i.natAbs.log2 < 1920 := by
  by_cases z : i.natAbs = 0
  · rw [z]; decide
  · have := (Nat.log2_lt z).mpr (Nat.lt_of_lt_of_le h (Nat.pow_le_pow_right (by decide) (by decide : 64 ≤ 1920)))
    exact this
theorem eqvA_ints : ∀ l m : List Int, PyData.eqvAll (l.map PyData.int) (m.map PyData.int) = decide (l = m)
  | [], [] => rfl
  | [], _ :: _ => rfl
  | _ :: _, [] => rfl
  | a :: l, b :: m => by
    rw [List.map_cons, List.map_cons, PyData.eqvAll, eqvA_ints l m]
    by_cases e : a = b
    · subst e
      simp [PyData.eqv]
    · simp [PyData.eqv, e]
theorem eqv_ints (l m : List Int) : PyData.eqv (.list (l.map PyData.int)) (.list (m.map PyData.int)) = decide (l = m) := by
  rw [PyData.eqv, eqvA_ints]
def rowD (r : Str × Int) : PyData := .tuple [.str r.1, .int r.2]
theorem eqvA_rows : ∀ l m : List (Str × Int), PyData.eqvAll (l.map rowD) (m.map rowD) = decide (l = m)
  | [], [] => rfl
  | [], _ :: _ => rfl
  | _ :: _, [] => rfl
  | a :: l, b :: m => by
    rw [List.map_cons, List.map_cons, PyData.eqvAll, eqvA_rows l m]
    obtain ⟨a1, a2⟩ := a
    obtain ⟨b1, b2⟩ := b
    by_cases e : a1 = b1
    · subst e
      by_cases e2 : a2 = b2
      · subst e2
        simp [rowD, PyData.eqv, PyData.eqvAll]
      · simp [rowD, PyData.eqv, PyData.eqvAll, e2]
    · simp [rowD, PyData.eqv, PyData.eqvAll, e]
def spHasO : Sp := fun vs H Q _ => ∃ (x sg : Str), vs = [.str x, .str sg] ∧ x.length ≤ 100 ∧ sg.length ≤ 100 ∧ (∀ c ∈ tl x, c ∈ tl sg) ∧ ∀ H', Same H H' → Q (.bl true) H'
def spIsName : Sp := fun vs H Q _ => ∃ (z : Str), vs = [.str z] ∧ LowN 8 z ∧ 1 ≤ z.length ∧ ∀ H', Same H H' → Q (.bl true) H'
def spNumOf : Sp := fun vs H Q _ => ∃ (i : Int), vs = [.str (numS i), .int 1000000] ∧ 0 ≤ i ∧ i ≤ 1000000 ∧ ∀ H', Same H H' → Q (.int i) H'
def boatS (n : Str) (b : Int) : Str := ((Str.empty ++ n) ++ ":") ++ numS b
def spBoatOf (C : Addr) : Sp := fun vs H Q _ => ∃ (z : Str) (i : Int), vs = [.str (boatS z i)] ∧ LowN 8 z ∧ 1 ≤ z.length ∧ 1 ≤ i ∧ i ≤ 1000000 ∧ ∀ p H', Same H H' → H p = none → BoatAt C H' p z i → Q (.ref p) H'
def spSpanOf : Sp := fun vs H Q _ => ∃ (i : Int), vs = [.str (numS i)] ∧ 0 ≤ i ∧ i ≤ 1000000 ∧ ∀ H', Same H H' → Q (.int i) H'
theorem figs_mem {c : Nat} (h : 48 ≤ c ∧ c ≤ 57) : c ∈ tl "0123456789" := by
  have e : tl "0123456789" = [48, 49, 50, 51, 52, 53, 54, 55, 56, 57] := by decide +kernel
  rw [e]
  simp only [List.mem_cons, List.not_mem_nil, or_false]
  omega
theorem low_mem {c : Nat} (h : 97 ≤ c ∧ c ≤ 122) : c ∈ tl "abcdefghijklmnopqrstuvwxyz" := by
  have all : ∀ j : Nat, j < 26 → 97 + j ∈ tl "abcdefghijklmnopqrstuvwxyz" := by decide +kernel
  have := all (c - 97) (by omega)
  rwa [show 97 + (c - 97) = c by omega] at this
section
variable {P : Program} {w : World} {K : PySem.W.Frag} {mg : Str → Option Value} {base : Heap} (T : Ev K mg)
theorem okhas_only : FnOk P w K mg base CX0 1 T.fhas_only T.fdhas_only ["word", "signs"] spHasO := by
  refine T.Fhas_only.ok scHas (fun vs H Q E h => ?_) (fun cdv A outer s H vs Q E hr h => ?_)
  · obtain ⟨x, sg, rfl, _⟩ := h
    rfl
  · obtain ⟨x, sg, rfl, hx, hsg, ha, q⟩ := h
    refine ⟨_,
      (pss_one (ps_ret (pe_callB (cr_all rfl) (by rfl) T.mall (by decide +kernel) (pa_cons (pe_lc (own := [("sign", 2)]) (g := gName 2) (tt := tYes) rfl scHas.nd (pi_str (pv 0)) (blkOk_by (N := NHas) (own := [("sign", 2)]) (sc := defScope sHas) (by decide +kernel)) (fun _ _ _ _ _ => pg_name (i := 2) scHas.nd rfl (Or.inl rfl)) (fun _ _ _ _ _ => pts_nil) (fun _ _ _ _ _ => (pe_cmpR op_in_sign (pv 2) (pv 1) (by rfl)))) pa_nil))))
      , ?_⟩
    refine ⟨_, rfl, x, rfl, fun D hD => ?_⟩
    refine lc_str (z := x) (fun i H' => H' D = some (.lst ((List.replicate i true).map V.bl)) ∧ Same H H') ⟨upd_same, same_upd hD⟩ ?_ ?_
    · rintro i c H' hc ⟨eD, si⟩
      have hi : i < x.cps.size := (Array.getElem?_eq_some_iff.mp hc).1
      have hc2 : c ∈ x.cps.toList := by
        obtain ⟨h1, h2⟩ := Array.getElem?_eq_some_iff.mp hc
        rw [← h2]; exact Array.getElem_mem_toList h1
      have hx' : x.cps.size ≤ 100 := hx
      refine ⟨rfl, _, rfl, _, rfl, c, sg, rfl, rfl, _, eD, ?_, ?_, fun z o e => by rw [upd_ne (ne_of_none e hD)]; exact si _ _ e⟩
      · rw [List.length_map, List.length_replicate]; exact Nat.lt_of_lt_of_le (show i < 100 by omega) (small_line (by decide))
      · rw [upd_same, List.replicate_succ', List.map_append, decide_eq_true (ha c hc2)]; rfl
    · rintro H' ⟨eD, si⟩
      refine ⟨D, _, rfl, SqL.of eD, ?_⟩
      rw [show (List.replicate x.cps.size true).all id = true by simp]
      exact q _ si
theorem okis_name : FnOk P w K mg base CX0 2 T.fis_name T.fdis_name ["thing"] spIsName := by
  refine T.Fis_name.ok scIsName (fun vs H Q E h => ?_) (fun cdv A outer s H vs Q E hr h => ?_)
  · obtain ⟨z, rfl, _⟩ := h
    rfl
  · obtain ⟨z, rfl, hz, hz1, q⟩ := h
    refine ⟨_,
      (pss_one (ps_ret (pe_and (pe_callB call_isi (by rfl) T.misinstance (by decide +kernel) (pa_cons (pv 0) (pa_cons (pe_bltn (v := .ty "str") (u := .type "str") (by rfl) T.mstr (by decide +kernel) rfl) pa_nil))) (pe_and (pe_chain op_le op_le pe_int (pe_callB call_len_str (by rfl) T.mlen PySem.boot_len (pa_cons (pv 0) pa_nil)) (pe_glob (v := .int 8) (by rfl) T.mLONGEST_NAME ⟨_, rfl⟩)) (pe_one (pe_call (okhas_only T) (hr.mono (by decide)) (by rfl) T.ghas_only T.Fhas_only.kp T.bhas_only .nil pass0 (pa_cons (pv 0) (pa_cons (pe_glob (v := .str "abcdefghijklmnopqrstuvwxyz") (by rfl) T.mSMALL_LETTERS ⟨_, rfl⟩) pa_nil))))))))
      , ?_⟩
    have hz8 := hz.1
    walk_at "s"
    refine isi_str ?_
    refine ⟨_, rfl, ?_⟩
    refine ifT rfl ?_
    walk_at "s"
    refine ⟨small_line (by omega), ?_⟩
    walk_at "s"
    rw [decide_eq_true (show (1 : Int) ≤ ((z.length : Nat) : Int) by omega)]
    walk_at "s"
    rw [decide_eq_true (show ((z.length : Nat) : Int) ≤ 8 by omega)]
    walk_at "s"
    refine ⟨fun c hc => low_mem (hz.2 c hc), fun H1 s1 => ?_⟩
    exact q H1 s1
theorem oknumber_of : FnOk P w K mg base CX0 2 T.fnumber_of T.fdnumber_of ["word", "most"] spNumOf := by
  refine T.Fnumber_of.ok scNumberOf (fun vs H Q E h => ?_) (fun cdv A outer s H vs Q E hr h => ?_)
  · obtain ⟨i, rfl, _⟩ := h
    rfl
  · obtain ⟨i, rfl, h0, h1, q⟩ := h
    refine ⟨_,
      (pss_cons (ps_if (PW.pt (pw_or (pt_cmpR op_eq (pv 0) pe_str (nomark _)) (pw_or (pt_cmpR op_gt (pe_callB call_len_str (by rfl) T.mlen PySem.boot_len (pa_cons (pv 0) pa_nil)) (pe_callB call_len_str (by rfl) T.mlen PySem.boot_len (pa_cons (pe_callTy call_str_int (by rfl) T.mstr (by decide +kernel) (pa_cons (pv 1) pa_nil)) pa_nil)) (nomark _)) (pw_or1 (pt_not (pt_val (pe_call (okhas_only T) (hr.mono (by decide)) (by rfl) T.ghas_only T.Fhas_only.kp T.bhas_only .nil pass0 (pa_cons (pv 0) (pa_cons (pe_glob (v := .str "0123456789") (by rfl) T.mFIGURES ⟨_, rfl⟩) pa_nil)))))))))
      (pss_one (ps_ret pe_non))
      pss_nil)
      (pss_cons (ps_set (i := 2) scNumberOf.nd rfl (.inl rfl) (pe_callTy call_int_str (by rfl) T.mint (by decide +kernel) (pa_cons (pv 0) pa_nil)))
      (pss_cons (ps_if (PW.pt (pw_or (pt_cmpR op_gt (pv 2) (pv 1) (nomark _)) (pw_or1 (pt_cmpR op_ne (pe_callTy call_str_int (by rfl) T.mstr (by decide +kernel) (pa_cons (pv 2) pa_nil)) (pv 0) (nomark _)))))
      (pss_one (ps_ret pe_non))
      pss_nil)
      (pss_one (ps_ret (pv 2))))))
      , ?_⟩
    obtain ⟨d1, d2, d3, d4⟩ := num_facts h0 h1
    have hne : numS i ≠ "" := fun e => d2 (by rw [e]; rfl)
    walk_at "s"
    rw [decide_eq_false (fun e => hne (V.str.inj e))]
    refine ifF rfl ?_
    walk_at "s"
    refine ⟨small_line (by omega), ?_⟩
    walk_at "s"
    have e7 : (Str.ofString (toString (1000000 : Int))).length = 7 := by decide +kernel
    rw [e7]
    walk_at "s"
    rw [decide_eq_false (show ¬ ((7 : Nat) : Int) < (((numS i).length : Nat) : Int) by omega)]
    refine ifF rfl ?_
    walk_at "s"
    refine ⟨fun c hc => figs_mem (d1 c hc), fun H1 s1 => ?_⟩
    refine ⟨_, rfl, ?_⟩
    refine ifF rfl ?_
    walk_at "s"
    refine ⟨numS i, i, rfl, d3, by omega, ?_⟩
    walk_at "s"
    rw [decide_eq_false (show ¬ (1000000 : Int) < i by omega)]
    refine ifF rfl ?_
    walk_at "s"
    refine ⟨log_small (by omega), ?_⟩
    walk_at "s"
    rw [show Str.ofString (toString i) = numS i from rfl, decide_eq_true rfl]
    refine ifF rfl ?_
    walk_at "s"
    exact q H1 s1
theorem ok_span_of : FnOk P w K mg base CX0 3 T.f_span_of T.fd_span_of ["word"] spSpanOf := by
  refine T.F_span_of.ok scSpanOf (fun vs H Q E h => ?_) (fun cdv A outer s H vs Q E hr h => ?_)
  · obtain ⟨i, rfl, _⟩ := h
    rfl
  · obtain ⟨i, rfl, h0, h1, q⟩ := h
    refine ⟨_,
      (pss_one (ps_ret (pe_call (oknumber_of T) (hr.mono (by decide)) (by rfl) T.gnumber_of T.Fnumber_of.kp T.bnumber_of .nil pass0 (pa_cons (pv 0) (pa_cons (pe_glob (v := .int 1000000) (by rfl) T.mMOST_BORNE ⟨_, rfl⟩) pa_nil)))))
      , ?_⟩
    walk_at "s"
    exact q
theorem ok_boat_of : FnOk P w K mg base CX0 3 T.f_boat_of T.fd_boat_of ["word"] (spBoatOf T.CBoat) := by
  refine T.F_boat_of.ok scBoatOf (fun vs H Q E h => ?_) (fun cdv A outer s H vs Q E hr h => ?_)
  · obtain ⟨z, i, rfl, _⟩ := h
    rfl
  · obtain ⟨z, i, rfl, hz, hz1, h0, h1, q⟩ := h
    refine ⟨_,
      (pss_cons (ps_asg (pe_partition (pv 0) pe_str) (pg_tup rfl (pgs_cons (pg_name (i := 1) scBoatOf.nd rfl (.inl rfl)) (pgs_cons (pg_name (i := 2) scBoatOf.nd rfl (.inl rfl)) (pgs_cons (pg_name (i := 3) scBoatOf.nd rfl (.inl rfl)) pgs_nil)))))
      (pss_cons (ps_set (i := 4) scBoatOf.nd rfl (.inl rfl) (pe_call (oknumber_of T) (hr.mono (by decide)) (by rfl) T.gnumber_of T.Fnumber_of.kp T.bnumber_of .nil pass0 (pa_cons (pv 3) (pa_cons (pe_glob (v := .int 1000000) (by rfl) T.mMOST_BORNE ⟨_, rfl⟩) pa_nil))))
      (pss_cons (ps_if (PW.pt (pw_and (pt_val (pe_call (okis_name T) (hr.mono (by decide)) (by rfl) T.gis_name T.Fis_name.kp T.bis_name .nil pass0 (pa_cons (pv 1) pa_nil))) (pw_and1 (pt_val (pe_call (okis_whole T) (hr.mono (by decide)) (by rfl) T.gis_whole T.Fis_whole.kp T.bis_whole .nil pass0 (pa_cons (pv 4) (pa_cons pe_int (pa_cons (pe_glob (v := .int 1000000) (by rfl) T.mMOST_BORNE ⟨_, rfl⟩) pa_nil))))))))
      (pss_one (ps_ret (pe_make (mk_Boat T) (okBoat___init__ T) (hr.mono (by decide)) (by rfl) T.gCBoat T.bBoat___init__ .nil pass0 (pa_cons (pv 1) (pa_cons (pv 4) pa_nil)))))
      pss_nil)
      (pss_one (ps_ret pe_non)))))
      , ?_⟩
    have hz8 := hz.1
    obtain ⟨d1, d2, d3, d4⟩ := num_facts (i := i) (by omega) h1
    have hpt : Txt.partition (boatS z i) (":" : Str) = (Str.empty ++ z, (":" : Str), numS i) := TL.partition_app (y := (":" : Str)) (a := Str.empty ++ z) (s := 58) (S := []) (by decide +kernel) (fun hm => by
      rw [emp] at hm
      have := hz.2 58 hm
      omega)
    have hbl : (boatS z i).length ≤ 100 := by
      unfold boatS
      rw [Str.length_append, Str.length_append, Str.length_append]
      show 0 + z.length + 1 + (numS i).length ≤ 100
      omega
    walk_at "s"
    refine ⟨small_line hbl, fun t ht => ?_⟩
    rw [hpt, emp]
    have st := same_upd (o := .tup [.str z, .str ":", .str (numS i)]) ht
    have et : (upd H t (.tup [.str z, .str ":", .str (numS i)])) t = some (.tup [.str z, .str ":", .str (numS i)]) := upd_same
    generalize upd H t (.tup [.str z, .str ":", .str (numS i)]) = H1 at st et ⊢
    refine ⟨t, _, rfl, SqT.of et, rfl, ?_⟩
    walk_at "s"
    intro H2 s2
    walk_at "s"
    intro H3 s3
    refine ⟨_, rfl, ?_⟩
    refine ifT rfl ?_
    walk_at "s"
    refine ⟨.int i, 1, 1000000, rfl, .inl ⟨i, rfl, ?_⟩⟩
    rw [decide_eq_true h0, decide_eq_true h1]
    refine ⟨_, rfl, ?_⟩
    refine ifT rfl ?_
    walk_at "s"
    intro x dx hx hdx ne
    exact ⟨x, dx, z, i, rfl, upd_same, fun H' hb k => ⟨rfl, q x H' (((st.trans s2).trans s3).trans (made_same hx hdx k)) (((st.trans s2).trans s3).free hx) hb⟩⟩
end
/-! ### Bridges as texts, and == -/
section
variable {P : Program} {w : World} {K : PySem.W.Frag} {mg : Str → Option Value} {base : Heap} (T : Ev K mg)
def spBStr (C : Addr) : Sp := fun vs H Q _ => ∃ (p : Addr) (n : Str) (b : Int), vs = [.ref p] ∧ BoatAt C H p n b ∧ n.length ≤ 20 ∧ 0 ≤ b ∧ b ≤ 1000000 ∧ Q (.str (boatS n b)) H
theorem okBoat___str__ : FnOk P w K mg base CX0 1 T.fBoat___str__ T.fdBoat___str__ ["self"] (spBStr T.CBoat) := by
  refine T.FBoat___str__.ok scBStr (fun vs H Q E h => ?_) (fun cdv A outer s H vs Q E hr h => ?_)
  · obtain ⟨p, n, b, rfl, _⟩ := h
    rfl
  · obtain ⟨p, n, b, rfl, hp, hn, h0, h1, q⟩ := h
    refine ⟨_,
      (pss_one (ps_ret (pe_joined (.cons (pe_fmt (pe_fld (pv 0) rfl)) (.cons pe_str (.cons (pe_fmt (pe_fld (pv 0) rfl)) .nil))))))
      , ?_⟩
    obtain ⟨dx, ep⟩ := id hp
    obtain ⟨d1, d2, d3, d4⟩ := num_facts h0 h1
    refine ⟨_, rfl, p, T.CBoat, dx, _, _, rfl, ep, cl_Boat T, T.nBoat_name, boatF_name n b, .inl ⟨n, rfl, small_line (by omega), _, rfl, small_line (by rw [Str.length_append]; show 0 + n.length ≤ 100; omega), _, rfl, small_line (by rw [Str.length_append, Str.length_append]; show 0 + n.length + 1 ≤ 100; omega), ?_⟩⟩
    exact ⟨_, rfl, p, T.CBoat, dx, _, _, rfl, ep, cl_Boat T, T.nBoat_bears, boatF_bears n b, .inr ⟨b, rfl, log_small (by omega), _, rfl, small_line (by rw [Str.length_append, Str.length_append, Str.length_append]; show 0 + n.length + 1 + (numS b).length ≤ 100; omega), q⟩⟩
def spBrEq (K : PySem.W.Frag) (C CB : Addr) : Sp := fun vs H Q _ => ∃ (p bl sl q bl2 sl2 : Addr) (rows rows2 : List (Str × Int)) (spans spans2 : List Int), vs = [.ref p, .ref q] ∧ BrAt C CB H p bl sl rows spans ∧ BrAt C CB H q bl2 sl2 rows2 spans2 ∧ spans.length ≤ 1000 ∧ spans2.length ≤ 1000 ∧ ∀ H', Same H H' → Q (.bl (decide (rows = rows2) && decide (spans = spans2))) H'
theorem okBridge___eq__ : FnOk P w K mg base CX0 4 T.fBridge___eq__ T.fdBridge___eq__ ["self", "other"] (spBrEq K T.CBoat T.CBridge) := by
  refine T.FBridge___eq__.ok scBridgeEq (fun vs H Q E h => ?_) (fun cdv A outer s H vs Q E hr h => ?_)
  · obtain ⟨p, bl, sl, q, bl2, sl2, rows, rows2, spans, spans2, rfl, _⟩ := h
    rfl
  · obtain ⟨p, bl, sl, r, bl2, sl2, rows, rows2, spans, spans2, rfl, hp, hr2, hl1, hl2, q⟩ := h
    refine ⟨_,
      (pss_one (ps_ret (pe_and (pe_callB call_isi (by rfl) T.misinstance (by decide +kernel) (pa_cons (pv 1) (pa_cons (pe_glob (v := .ref T.CBridge) (by rfl) T.gCBridge rfl) pa_nil))) (pe_and (pe_cmpR (op_dqB false monBoat (dqB_ins (okBoat___eq__ T) hspBoat (mt_Boat___eq__ T).at_ (mt_Boat___eq__ T).fn T.bBoat___eq__ pass0 selfBoat) (hr.mono (by decide))) (pe_fld (pv 0) rfl) (pe_fld (pv 1) rfl) (nomark _)) (pe_one (pe_cmpR (op_eqD hr.units) (pe_fld (pv 0) rfl) (pe_fld (pv 1) rfl) (nomark _)))))))
      , ?_⟩
    obtain ⟨dx, bs, e1, e2, e3⟩ := hp.ex
    obtain ⟨dy, bs2, g1, g2, g3⟩ := hr2.ex
    walk_at "s"
    refine isi_own (.base (.ins g1 (cl_Bridge T) T.haBridge T.hnBridge T.htBridge T.hmBridge)) ?_
    refine ⟨_, rfl, ?_⟩
    refine ifT rfl ?_
    walk_at "s"
    refine ⟨p, _, dx, _, _, rfl, e1, cl_Bridge T, T.nBridge__boats, brF_boats _ _, ?_⟩
    walk_at "s"
    refine ⟨r, _, dy, _, _, rfl, g1, cl_Bridge T, T.nBridge__boats, brF_boats _ _, ?_⟩
    refine ⟨_, boats_eqB e2 g2 e3 g3, fun H1 s1 => ?_⟩
    by_cases er : rows = rows2
    · rw [decide_eq_true er]
      walk_at "s"
      refine ⟨p, _, dx, _, _, rfl, s1 _ _ e1, cl_Bridge T, T.nBridge__spans, brF_spans _ _, ?_⟩
      walk_at "s"
      refine ⟨r, _, dy, _, _, rfl, s1 _ _ g1, cl_Bridge T, T.nBridge__spans, brF_spans _ _, ?_⟩
      refine ⟨.list (spans.map PyData.int), .list (spans2.map PyData.int), .lst (SqL.of (s1 _ _ hp.sp)) (dp_ints _), .lst (SqL.of (s1 _ _ hr2.sp)) (dp_ints _), ke_shaped_ints _, ke_shaped_ints _, ?_⟩
      have q1 := q H1 s1
      rw [decide_eq_true er, Bool.true_and] at q1
      rw [eqv_ints]
      exact q1
    · rw [decide_eq_false er]
      walk_at "s"
      have q1 := q H1 s1
      rw [decide_eq_false er, Bool.false_and] at q1
      exact q1
end
set_option maxHeartbeats 8000000
local macro_rules | `(tactic| walk_at "c") => `(tactic| first | omega | decide | exact ⟨by omega, by omega⟩ | exact ⟨by decide, by decide⟩ | exact .inl ⟨by omega, by omega⟩ | exact .inr ⟨by omega, by omega⟩ | exact ⟨by omega, by omega, by omega⟩ | exact ⟨by decide, by decide, by decide⟩ | exact le_line (Nat.le_of_ble_eq_true rfl))
local macro_rules | `(tactic| walk_at "a") => `(tactic| with_reducible (first | refine i_seq ?_ | refine i_asg ?_ | refine i_cons ?_ | refine i_c ?_ | refine i_nil ?_ | refine i_op ?_ | refine i_call ?_ | refine i_cb ?_ | refine i_name ?_ | refine i_next ?_ | refine i_ret ?_ | refine i_drop ?_ | refine i_if ?_ | refine i_test ?_ | refine i_and ?_ | refine i_or ?_ | refine i_not ?_ | refine i_ite ?_ | refine i_lst ?_ | refine i_tup ?_ | refine i_bm ?_ | refine i_un ?_ | refine i_par ?_ | refine i_gsub ?_ | refine i_chain ?_ | refine i_sl ?_ | refine i_nopart ?_ | refine i_part ?_ | refine i_m1 ?_ | refine i_m0 ?_ | refine i_lc ?_ | refine i_iList ?_ | refine i_iTup ?_ | refine i_iStr ?_ | refine i_r1 ?_ | refine i_set ?_ | refine i_callk ?_ | refine i_callN ?_ | refine i_ckw ?_ | refine i_revL ?_ | refine i_tB ?_ | refine i_fld ?_ | refine i_sfld ?_ | refine i_make ?_ | refine i_makeN ?_ | refine i_meth ?_ | refine i_andV ?_ | refine i_orV ?_ | refine i_notV ?_ | refine iteT ?_ | refine iteF ?_ | refine i_yes ?_))
local macro_rules | `(tactic| walk_at "s") => `(tactic| repeat (first | walk_at "a" | refine i_var rfl ?_ | refine i_aug rfl ?_ | refine And.intro ⟨_, rfl⟩ ?_ | refine ⟨_, rfl, ?_⟩ | refine ⟨_, _, rfl, rfl, ?_⟩ | refine ⟨_, _, rfl, ?_⟩ | refine ⟨rfl, ?_⟩ | refine And.intro (by walk_at "c") ?_))
/-! ### bridges as texts -/
theorem i_starW {K : PySem.W.Frag} {te : TE} {t : TA} {σ : L2.St} {H : Hp} {Q : List V → Hp → Prop} (h : te σ H fun x H1 => ∃ p xs, x = V.ref p ∧ (SqT K H1 p xs ∨ SqL K H1 p xs) ∧ t σ H1 fun ys H2 => Q (xs ++ ys) H2) : StX.tStar K te t σ H Q := h
theorem i_stepL {K : PySem.W.Frag} {te : TE} {tl : TO} {k : Int} {σ : L2.St} {H : Hp} {Q : VK} (h : te σ H fun x H1 => tl σ H1 fun lo H2 => ∃ a xs, x = .ref a ∧ SqL K H2 a xs ∧ (stepV xs lo k).length ≤ sizeLine ∧ ∀ p, H2 p = none → Q (.ref p) (upd H2 p (.lst (stepV xs lo k)))) : tStepL K te tl k σ H Q := h
theorem app_assoc (x y z : Str) : (x ++ y) ++ z = x ++ (y ++ z) := ext_tl (by rw [tl_app, tl_app, tl_app, tl_app, List.append_assoc])
theorem cut_from1 {xs : List V} (h : 1 ≤ xs.length) : cutV xs (some 1) none = xs.drop 1 := cut_from (t := 1) h
/-- boats and spans that are written -/
structure Nice (rows : List (Str × Int)) (s0 : Int) (ss : List Int) : Prop where
  good : Good rows (s0 :: ss)
  nm : ∀ r ∈ rows, LowN 8 r.1 ∧ 1 ≤ r.1.length
  br : ∀ r ∈ rows, 1 ≤ r.2 ∧ r.2 ≤ 1000000
theorem Nice.ss {rows : List (Str × Int)} {s0 : Int} {ss : List Int} (h : Nice rows s0 ss) : ss.length = rows.length := by
  have := h.good.sl
  rw [List.length_cons] at this
  omega
def boatW (r : Str × Int) : Str := boatS r.1 r.2
def rowS (r : Str × Int) (s : Int) : Str := ((Str.empty ++ boatW r) ++ " ") ++ numS s
def brWds (rows : List (Str × Int)) (s0 : Int) (ss : List Int) : List Str := numS s0 :: weave (rows.map boatW) (ss.map numS)
def brS (rows : List (Str × Int)) (s0 : Int) (ss : List Int) : Str := Txt.join (" " : Str) (brWds rows s0 ss)
theorem join2 (x y : Str) (t : List Str) : Str.join (" " : Str) (((x ++ " ") ++ y) :: t) = (x ++ " ") ++ Str.join (" " : Str) (y :: t) := by
  cases t with
  | nil => rfl
  | cons z t =>
    show (((x ++ " ") ++ y) ++ " ") ++ Str.join (" " : Str) (z :: t) = (x ++ " ") ++ ((y ++ " ") ++ Str.join (" " : Str) (z :: t))
    rw [app_assoc (x ++ " ") y, app_assoc (x ++ " ") (y ++ " ")]
theorem join_rows : ∀ (rows : List (Str × Int)) (ss : List Int) (a : Str), rows.length = ss.length → Str.join (" " : Str) (a :: (rows.zip ss).map fun p => rowS p.1 p.2) = Str.join (" " : Str) (a :: weave (rows.map boatW) (ss.map numS))
  | [], [], a, _ => rfl
  | r :: rows, s :: ss, a, h => by
    have ih := join_rows rows ss (numS s) (Nat.succ.inj h)
    show (a ++ " ") ++ Str.join (" " : Str) (rowS r s :: (rows.zip ss).map fun p => rowS p.1 p.2) = (a ++ " ") ++ ((boatW r ++ " ") ++ Str.join (" " : Str) (numS s :: weave (rows.map boatW) (ss.map numS)))
    unfold rowS
    rw [emp, join2]
    rw [← ih]
    rfl
theorem join_sum : ∀ ts : List Str, (Str.join (" " : Str) ts).length ≤ (ts.map fun t => t.length + 1).sum
  | [] => Nat.zero_le _
  | [x] => by show x.length ≤ _; simp
  | x :: y :: r => by
    have ih := join_sum (y :: r)
    show ((x ++ " ") ++ Str.join (" " : Str) (y :: r)).length ≤ _
    rw [Str.length_append, Str.length_append, List.map_cons, List.sum_cons]
    show x.length + 1 + _ ≤ _
    omega
theorem sum_bd {n : Nat} : ∀ (ts : List Str), (∀ t ∈ ts, t.length ≤ n) → (ts.map fun t => t.length + 1).sum ≤ (n + 1) * ts.length ∧ (ts.map (·.length)).sum ≤ n * ts.length
  | [], _ => ⟨Nat.le_refl _, Nat.le_refl _⟩
  | t :: r, h => by
    obtain ⟨h1, h3⟩ := sum_bd r fun x hx => h x (List.mem_cons_of_mem _ hx)
    have h2 := h t List.mem_cons_self
    rw [List.map_cons, List.map_cons, List.sum_cons, List.sum_cons, List.length_cons, Nat.mul_succ, Nat.mul_succ]
    omega
theorem weave_mem {α : Type} : ∀ {bs ss : List α} {x : α}, x ∈ weave bs ss → x ∈ bs ∨ x ∈ ss
  | [], _, _, h => by simp [weave] at h
  | _ :: _, [], _, h => by simp [weave] at h
  | b :: bs, s :: ss, x, h => by
    rcases List.mem_cons.mp h with rfl | h
    · exact .inl List.mem_cons_self
    · rcases List.mem_cons.mp h with rfl | h
      · exact .inr List.mem_cons_self
      · rcases weave_mem h with h | h
        · exact .inl (List.mem_cons_of_mem _ h)
        · exact .inr (List.mem_cons_of_mem _ h)
theorem weave_map {α β : Type} (f : α → β) : ∀ (bs ss : List α), (weave bs ss).map f = weave (bs.map f) (ss.map f)
  | [], _ => rfl
  | _ :: _, [] => rfl
  | b :: bs, s :: ss => by
    show f b :: f s :: (weave bs ss).map f = f b :: f s :: weave (bs.map f) (ss.map f)
    rw [weave_map f bs ss]
theorem weave_snoc {α : Type} : ∀ (bs ss : List α) (b s : α), bs.length = ss.length → weave (bs ++ [b]) (ss ++ [s]) = weave bs ss ++ [b, s]
  | [], [], _, _, _ => rfl
  | x :: bs, y :: ss, b, s, h => by
    show x :: y :: weave (bs ++ [b]) (ss ++ [s]) = x :: y :: (weave bs ss ++ [b, s])
    rw [weave_snoc bs ss b s (Nat.succ.inj h)]
theorem boatW_len {r : Str × Int} (h : LowN 8 r.1) (b : 1 ≤ r.2 ∧ r.2 ≤ 1000000) : (boatW r).length ≤ 16 := by
  obtain ⟨_, _, _, d4⟩ := num_facts (i := r.2) (by omega) b.2
  have := h.1
  unfold boatW boatS
  rw [Str.length_append, Str.length_append, Str.length_append]
  show 0 + _ + 1 + _ ≤ 16
  omega
theorem boatW_no {r : Str × Int} (h : LowN 8 r.1) (b : 1 ≤ r.2 ∧ r.2 ≤ 1000000) : 32 ∉ tl (boatW r) := fun hm => by
  unfold boatW boatS at hm
  rw [tl_app, tl_app, emp] at hm
  rcases List.mem_append.mp hm with hm | hm
  · rcases List.mem_append.mp hm with hm | hm
    · have := h.2 32 hm; omega
    · have e : tl (":" : Str) = [58] := by decide +kernel
      rw [e] at hm
      simp at hm
  · exact num_no 32 (by omega) (by omega) b.2 hm
theorem wds_facts {rows : List (Str × Int)} {s0 : Int} {ss : List Int} (h : Nice rows s0 ss) : ∀ t ∈ brWds rows s0 ss, t.length ≤ 16 ∧ 32 ∉ tl t := by
  have sp : ∀ z ∈ s0 :: ss, (numS z).length ≤ 16 ∧ 32 ∉ tl (numS z) := fun z hz => by
    have := h.good.sb z hz
    obtain ⟨_, _, _, d4⟩ := num_facts (i := z) (by omega) this.2
    exact ⟨by omega, num_no 32 (by omega) (by omega) this.2⟩
  intro t ht
  rcases List.mem_cons.mp ht with rfl | ht
  · exact sp s0 List.mem_cons_self
  · rcases weave_mem ht with ht | ht
    · obtain ⟨r, hr, rfl⟩ := List.mem_map.mp ht
      exact ⟨boatW_len (h.nm r hr).1 (h.br r hr), boatW_no (h.nm r hr).1 (h.br r hr)⟩
    · obtain ⟨z, hz, rfl⟩ := List.mem_map.mp ht
      exact sp z (List.mem_cons_of_mem _ hz)
theorem wds_len {rows : List (Str × Int)} {s0 : Int} {ss : List Int} (h : Nice rows s0 ss) : (brWds rows s0 ss).length = 2 * rows.length + 1 := by
  unfold brWds
  rw [List.length_cons, weave_len _ _ (by rw [List.length_map, List.length_map, h.ss]), List.length_map]
theorem brS_len {rows : List (Str × Int)} {s0 : Int} {ss : List Int} (h : Nice rows s0 ss) : (brS rows s0 ss).length ≤ 400 := by
  have h1 := join_sum (brWds rows s0 ss)
  have h2 := (sum_bd (n := 16) (brWds rows s0 ss) fun t ht => (wds_facts h t ht).1).1
  rw [wds_len h] at h2
  have := h.good.l1
  unfold brS
  rw [TL.join_eq]
  omega
theorem brS_split {rows : List (Str × Int)} {s0 : Int} {ss : List Int} (h : Nice rows s0 ss) : Txt.split (brS rows s0 ss) (" " : Str) = brWds rows s0 ss :=
  TL.split_join (s := 32) (S := []) (by decide +kernel) (by decide +kernel) (by unfold brWds; simp) fun p hp => (wds_facts h p hp).2
section
variable {P : Program} {w : World} {K : PySem.W.Frag} {mg : Str → Option Value} {base : Heap} (T : Ev K mg)
def spBrStr (C CB : Addr) : Sp := fun vs H Q _ => ∃ (p bl sl : Addr) (rows : List (Str × Int)) (s0 : Int) (ss : List Int), vs = [.ref p] ∧ BrAt C CB H p bl sl rows (s0 :: ss) ∧ Nice rows s0 ss ∧ ∀ H', Same H H' → Q (.str (brS rows s0 ss)) H'
theorem okBridge___str__ : FnOk P w K mg base CX0 3 T.fBridge___str__ T.fdBridge___str__ ["self"] (spBrStr T.CBoat T.CBridge) := by
  refine T.FBridge___str__.ok scBridgeStr (fun vs H Q E h => ?_) (fun cdv A outer s H vs Q E hr h => ?_)
  · obtain ⟨p, bl, sl, rows, s0, ss, rfl, _⟩ := h
    rfl
  · obtain ⟨p, bl, sl, rows, s0, ss, rfl, hp, hn, q⟩ := h
    refine ⟨_,
      (pss_cons (ps_setLc (i := 1) (own := [("boat", 2), ("span", 3)]) (g := gTup K 2 (gCons (gName 2) (gCons (gName 3) gNil))) (tt := tYes) rfl scBridgeStr.nd rfl rfl (sw_true rfl rfl rfl (by decide +kernel)) (RZ.pi_zipA (by rfl) T.mzip (pa_cons (pe_fld (pv 0) rfl) (pa_cons (pe_slice sl_list (pe_fld (pv 0) rfl) (po_some pe_int) po_none) pa_nil))) (blkOk_by (N := NBridgeStr) (own := [("boat", 2), ("span", 3)]) (sc := defScope sBridgeStr) (by decide +kernel)) (fun _ _ _ _ _ => pg_tup rfl (pgs_cons (pg_name (i := 2) scBridgeStr.nd rfl (Or.inl rfl)) (pgs_cons (pg_name (i := 3) scBridgeStr.nd rfl (Or.inl rfl)) pgs_nil))) (fun _ _ _ _ _ => pts_nil) (fun _ _ _ _ _ => (pe_joinedN (.cons (pe_fmtO (pv 2) T.fmBoat T.hmBoat (mt_Boat___str__ T).at_ (mt_Boat___str__ T).fn (okBoat___str__ T) T.bBoat___str__ (hr.mono (by decide)) pass0) (.cons pe_str (.cons (pe_fmt (pv 3)) .nil))))))
      (pss_one (ps_ret (pe_join pe_str (pe_lst (pa_cons (pe_callTy call_str_int (by rfl) T.mstr (by decide +kernel) (pa_cons (pe_ix ix_list (pe_fld (pv 0) rfl) pe_int (fun _ _ => rfl)) pa_nil)) (StX.pa_star (pv 1) pa_nil)))))))
      , ?_⟩
    obtain ⟨dx, bs, e1, e2, e3⟩ := hp.ex
    have hsl := hn.ss
    have hbl := e3.len
    have hl1 := hn.good.l1
    walk_at "s"
    refine ⟨p, _, dx, _, _, rfl, e1, cl_Bridge T, T.nBridge__boats, brF_boats _ _, ?_⟩
    walk_at "s"
    refine ⟨p, _, dx, _, _, rfl, e1, cl_Bridge T, T.nBridge__spans, brF_spans _ _, ?_⟩
    walk_at "s"
    refine ⟨sl, _, rfl, SqL.of hp.sp, fun l1 hl1 => ?_⟩
    rw [cut_from1 (by rw [List.length_map]; show 1 ≤ _ + 1; omega)]
    have s1 := same_upd (o := .lst (((s0 :: ss).map V.int).drop 1)) hl1
    have el1 : (upd H l1 (.lst (((s0 :: ss).map V.int).drop 1))) l1 = some (.lst (ss.map V.int)) := upd_same
    generalize upd H l1 (.lst (((s0 :: ss).map V.int).drop 1)) = H1 at s1 el1 ⊢
    walk_at "s"
    refine ⟨bl, l1, bs, ss.map V.int, rfl, .inl ⟨SqL.of (s1 _ _ e2), SqL.of el1, fun D hD => ?_⟩⟩
    refine lc_zip (K := K) (a := bl) (b := l1) (xs := bs) (ys := ss.map V.int) (by rw [List.length_map]; omega) (fun i H' => H' D = some (.lst ((((rows.zip ss).take i).map fun p => rowS p.1 p.2).map V.str)) ∧ Same H1 H') ⟨upd_same, same_upd hD⟩ (fun i H' _ ⟨_, z⟩ => ⟨SqL.of (z _ _ (s1 _ _ e2)), SqL.of (z _ _ el1)⟩) ?_ ?_
    · rintro i x y Tt H' hx hy ⟨eD, si⟩ hT
      obtain ⟨a, r, rfl, hr2, dxa, ha⟩ := e3.at hx
      have hi : i < bs.length := (List.getElem?_eq_some_iff.mp hx).1
      obtain ⟨z, hz, rfl⟩ : ∃ z, ss[i]? = some z ∧ y = .int z := by
        rw [List.getElem?_map] at hy
        cases e : ss[i]? with
        | none => rw [e] at hy; cases hy
        | some z => rw [e] at hy; cases hy; exact ⟨z, rfl, rfl⟩
      have hzip : (rows.zip ss)[i]? = some (r, z) := by
        rw [List.getElem?_zip_eq_some]
        exact ⟨hr2, hz⟩
      have st := same_upd (o := .tup [.ref a, .int z]) hT
      have eD2 := st _ _ eD
      have ha2 : BoatAt T.CBoat (upd H' Tt (.tup [.ref a, .int z])) a r.1 r.2 := ⟨dxa, st _ _ (si _ _ (s1 _ _ ha))⟩
      have ha3 := st _ _ (si _ _ (s1 _ _ ha))
      obtain ⟨n1, n2⟩ := hn.nm r (List.mem_of_getElem? hr2)
      have n3 := hn.br r (List.mem_of_getElem? hr2)
      have n4 := hn.good.sb z (List.mem_cons_of_mem _ (List.mem_of_getElem? hz))
      obtain ⟨_, _, _, z4⟩ := num_facts (i := z) (by omega) n4.2
      have bl16 := boatW_len n1 n3
      have n18 := n1.1
      refine ⟨Tt, _, rfl, SqT.of upd_same, rfl, ?_⟩
      walk_at "s"
      have l0 : (Str.empty ++ boatS r.1 r.2).length ≤ 16 := by rw [Str.length_append]; show 0 + (boatW r).length ≤ 16; omega
      have l1' : ((Str.empty ++ boatS r.1 r.2) ++ (" " : Str)).length ≤ 17 := by rw [Str.length_append]; show _ + 1 ≤ 17; omega
      refine ⟨a, dxa, _, rfl, ha3, a, r.1, r.2, rfl, ha2, by omega, by omega, n3.2, _, rfl, _, rfl, small_line (by omega), _, rfl, small_line (by omega), _, rfl, .inr ⟨z, rfl, log_small (by omega), _, rfl, small_line (by rw [Str.length_append]; show _ + (numS z).length ≤ 100; omega), ?_⟩⟩
      refine ⟨_, eD2, lt_line (by rw [List.length_map, List.length_map, List.length_take]; omega), ?_, fun y o e => by rw [upd_ne (ne_of_none e hD)]; exact st _ _ (si _ _ e)⟩
      rw [upd_same, List.take_succ, hzip, Option.toList_some, List.map_append, List.map_append]
      rfl
    · rintro H' ⟨eD, si⟩
      rw [List.take_of_length_le (by rw [List.length_zip]; omega)] at eD
      have s1i := s1.trans si
      walk_at "s"
      refine ⟨p, _, dx, _, _, rfl, s1i _ _ e1, cl_Bridge T, T.nBridge__spans, brF_spans _ _, ?_⟩
      walk_at "s"
      refine i_ixLe 0 (SqL.of (s1i _ _ hp.sp)) rfl rfl ?_
      walk_at "s"
      have b0 := hn.good.sb s0 List.mem_cons_self
      refine ⟨log_small (by omega), i_starW ?_⟩
      refine ⟨_, rfl, D, _, rfl, .inr (SqL.of eD), ?_⟩
      walk_at "s"
      have hzl : ((rows.zip ss).map fun p => rowS p.1 p.2).length = rows.length := by rw [List.length_map, List.length_zip]; omega
      refine ⟨le_line (by rw [List.length_cons, List.length_append, List.length_map, hzl]; show rows.length + 0 + 1 ≤ _; omega), fun l2 hl2 => ?_⟩
      have el2 : (upd H' l2 (.lst (V.str (Str.ofString (toString s0)) :: ((((rows.zip ss).map fun p => rowS p.1 p.2).map V.str) ++ [])))) l2 = some (.lst ((numS s0 :: (rows.zip ss).map fun p => rowS p.1 p.2).map V.str)) := by
        rw [upd_same, List.append_nil]; rfl
      have hw : ∀ t ∈ numS s0 :: (rows.zip ss).map (fun p => rowS p.1 p.2), t.length ≤ 25 := fun t ht => by
        rcases List.mem_cons.mp ht with rfl | ht
        · obtain ⟨_, _, _, z4⟩ := num_facts (i := s0) (by omega) b0.2
          omega
        · obtain ⟨⟨r, z⟩, hrz, rfl⟩ := List.mem_map.mp ht
          obtain ⟨m1, m2⟩ := List.of_mem_zip hrz
          have n4 := hn.good.sb z (List.mem_cons_of_mem _ m2)
          obtain ⟨_, _, _, z4⟩ := num_facts (i := z) (by omega) n4.2
          have := boatW_len (hn.nm r m1).1 (hn.br r m1)
          show (rowS r z).length ≤ 25
          unfold rowS
          rw [Str.length_append, Str.length_append, Str.length_append]
          show 0 + _ + 1 + _ ≤ 25
          omega
      have h3 := (sum_bd (n := 25) _ hw).2
      rw [List.length_cons, hzl] at h3
      refine ⟨_, l2, _, rfl, rfl, .inl (SqL.of el2), ?_, ?_⟩
      · rw [List.length_cons, hzl]
        show _ + (rows.length + 1) * 1 ≤ _
        omega
      · have ej : Txt.join (" " : Str) (numS s0 :: (rows.zip ss).map fun p => rowS p.1 p.2) = brS rows s0 ss := by
          unfold brS brWds
          rw [TL.join_eq, TL.join_eq, join_rows _ _ _ hsl.symm]
        rw [ej]
        exact q _ (s1i.trans (same_upd hl2))
def spReadB (C CB : Addr) : Sp := fun vs H Q _ => ∃ (rows : List (Str × Int)) (s0 : Int) (ss : List Int), vs = [.str (brS rows s0 ss)] ∧ Nice rows s0 ss ∧ ∀ p bl sl H', H p = none → H bl = none → H sl = none → Same H H' → BrAt C CB H' p bl sl rows (s0 :: ss) → Q (.ref p) H'
theorem okread_bridge : FnOk P w K mg base CX0 5 T.fread_bridge T.fdread_bridge ["text"] (spReadB T.CBoat T.CBridge) := by
  refine T.Fread_bridge.ok scReadBridge (fun vs H Q E h => ?_) (fun cdv A outer s H vs Q E hr h => ?_)
  · obtain ⟨rows, s0, ss, rfl, _⟩ := h
    rfl
  · obtain ⟨rows, s0, ss, rfl, hn, q⟩ := h
    refine ⟨_,
      (pss_cons (ps_if (pt_not (pt_val (pe_callB call_isi (by rfl) T.misinstance (by decide +kernel) (pa_cons (pv 0) (pa_cons (pe_bltn (v := .ty "str") (u := .type "str") (by rfl) T.mstr (by decide +kernel) rfl) pa_nil)))))
      (pss_one ps_never)
      pss_nil)
      (pss_cons (ps_set (i := 1) scReadBridge.nd rfl (.inl rfl) (pe_split (pv 0) pe_str))
      (pss_one (ps_ret (pe_make (mk_Bridge T) (okBridge___init__ T) (hr.mono (by decide)) (by rfl) T.gCBridge T.bBridge___init__ .nil pass0 (pa_cons (pe_lc (own := [("word", 2)]) (g := gName 2) (tt := tYes) rfl scReadBridge.nd (pi_list (pe_stepL (pv 1) (po_some pe_int) (by decide))) (blkOk_by (N := NReadBridge) (own := [("word", 2)]) (sc := defScope sReadBridge) (by decide +kernel)) (fun _ _ _ _ _ => pg_name (i := 2) scReadBridge.nd rfl (Or.inl rfl)) (fun _ _ _ _ _ => pts_nil) (fun _ _ _ _ _ => (pe_call (ok_boat_of T) (hr.mono (by decide)) (by rfl) T.g_boat_of T.F_boat_of.kp T.b_boat_of .nil pass0 (pa_cons (pv 2) pa_nil)))) (pa_cons (pe_lc (own := [("word", 2)]) (g := gName 2) (tt := tYes) rfl scReadBridge.nd (pi_list (pe_stepL (pv 1) po_none (by decide))) (blkOk_by (N := NReadBridge) (own := [("word", 2)]) (sc := defScope sReadBridge) (by decide +kernel)) (fun _ _ _ _ _ => pg_name (i := 2) scReadBridge.nd rfl (Or.inl rfl)) (fun _ _ _ _ _ => pts_nil) (fun _ _ _ _ _ => (pe_call (ok_span_of T) (hr.mono (by decide)) (by rfl) T.g_span_of T.F_span_of.kp T.b_span_of .nil pass0 (pa_cons (pv 2) pa_nil)))) pa_nil)))))))
      , ?_⟩
    have hsl := hn.ss
    have hl1 := hn.good.l1
    have htl := brS_len hn
    walk_at "s"
    refine isi_str ?_
    refine ⟨_, rfl, ?_⟩
    refine ifF rfl ?_
    walk_at "s"
    refine ⟨le_line (by omega), ?_⟩
    rw [brS_split hn]
    have eW : (brWds rows s0 ss).map V.str = V.str (numS s0) :: weave ((rows.map boatW).map V.str) ((ss.map numS).map V.str) := by unfold brWds; rw [List.map_cons, weave_map]
    have hwl : ((rows.map boatW).map V.str).length = ((ss.map numS).map V.str).length := by simp only [List.length_map]; omega
    intro lw hlw
    have s1 := same_upd (o := .lst ((brWds rows s0 ss).map V.str)) hlw
    have el1 : (upd H lw (.lst ((brWds rows s0 ss).map V.str))) lw = some (.lst (V.str (numS s0) :: weave ((rows.map boatW).map V.str) ((ss.map numS).map V.str))) := by rw [upd_same, eW]
    generalize upd H lw (.lst ((brWds rows s0 ss).map V.str)) = H1 at s1 el1 ⊢
    walk_at "s"
    refine ⟨lw, _, rfl, SqL.of el1, ?_⟩
    rw [step_odd hwl]
    refine ⟨le_line (by simp only [List.length_map]; omega), fun l2 hl2 => ?_⟩
    have s2 := same_upd (o := .lst ((rows.map boatW).map V.str)) hl2
    have el2 : (upd H1 l2 (.lst ((rows.map boatW).map V.str))) l2 = some (.lst ((rows.map boatW).map V.str)) := upd_same
    generalize upd H1 l2 (.lst ((rows.map boatW).map V.str)) = H2 at s2 el2 ⊢
    walk_at "s"
    refine ⟨⟨_, SqL.of el2⟩, fun D hD => ?_⟩
    refine lc_list (K := K) (a := l2) (xs := (rows.map boatW).map V.str) (fun k H' => ∃ bs, H' D = some (.lst bs) ∧ Boats T.CBoat H' bs (rows.take k) ∧ bs.length = k ∧ Same H2 H') ⟨[], upd_same, .nil, rfl, same_upd hD⟩ (fun k H' _ z => SqL.of (z.choose_spec.2.2.2 _ _ el2)) ?_ ?_
    · rintro k y H' hy ⟨bs, eD, hbs, hbl, si⟩
      obtain ⟨r, hrk, rfl⟩ : ∃ r, rows[k]? = some r ∧ y = .str (boatS r.1 r.2) := by
        rw [List.getElem?_map, List.getElem?_map] at hy
        cases e : rows[k]? with
        | none => rw [e] at hy; cases hy
        | some r => rw [e] at hy; cases hy; exact ⟨r, rfl, rfl⟩
      have hk := (List.getElem?_eq_some_iff.mp hrk).1
      obtain ⟨n1, n2⟩ := hn.nm r (List.mem_of_getElem? hrk)
      have n3 := hn.br r (List.mem_of_getElem? hrk)
      walk_at "s"
      intro x H3 s3 hx hb
      have eD3 := s3 _ _ eD
      obtain ⟨dx2, eb2⟩ := id hb
      have nxD : x ≠ D := ne_of eb2 eD3 (by intro z; cases z)
      refine ⟨bs, eD3, lt_line (by omega), bs ++ [.ref x], upd_same, ?_, by rw [List.length_append, hbl]; rfl, app_same hD (si.trans s3)⟩
      have h3 : Boats T.CBoat (upd H3 D (.lst (bs ++ [.ref x]))) bs (rows.take k) := (hbs.same s3).mono fun a dx n b e => by rw [upd_ne (ne_of e eD3 (by intro z; cases z))]; exact e
      rw [List.take_succ, hrk]
      exact h3.app (.cons ⟨dx2, by rw [upd_ne nxD]; exact eb2⟩ .nil)
    rintro H3 ⟨bs, eD, hbs, hbl, s3⟩
    rw [List.take_of_length_le (by simp only [List.length_map]; omega)] at hbs
    have s23 := s2.trans s3
    walk_at "s"
    refine ⟨lw, _, rfl, SqL.of (s23 _ _ el1), ?_⟩
    rw [step_even hwl]
    refine ⟨le_line (by simp only [List.length_cons, List.length_map]; omega), fun l4 hl4 => ?_⟩
    have eS : V.str (numS s0) :: (ss.map numS).map V.str = ((s0 :: ss).map numS).map V.str := rfl
    rw [eS]
    have s4 := same_upd (o := .lst (((s0 :: ss).map numS).map V.str)) hl4
    have el4 : (upd H3 l4 (.lst (((s0 :: ss).map numS).map V.str))) l4 = some (.lst (((s0 :: ss).map numS).map V.str)) := upd_same
    generalize upd H3 l4 (.lst (((s0 :: ss).map numS).map V.str)) = H4 at s4 el4 ⊢
    walk_at "s"
    refine ⟨⟨_, SqL.of el4⟩, fun G hG => ?_⟩
    refine lc_list (K := K) (a := l4) (xs := ((s0 :: ss).map numS).map V.str) (fun k H' => H' G = some (.lst (((s0 :: ss).take k).map V.int)) ∧ Same H4 H') ⟨upd_same, same_upd hG⟩ (fun k H' _ z => SqL.of (z.2 _ _ el4)) ?_ ?_
    · rintro k y H' hy ⟨eG, si⟩
      obtain ⟨z, hzk, rfl⟩ : ∃ z, (s0 :: ss)[k]? = some z ∧ y = .str (numS z) := by
        rw [List.getElem?_map, List.getElem?_map] at hy
        cases e : (s0 :: ss)[k]? with
        | none => rw [e] at hy; cases hy
        | some r => rw [e] at hy; cases hy; exact ⟨r, rfl, rfl⟩
      have hk := (List.getElem?_eq_some_iff.mp hzk).1
      rw [List.length_cons] at hk
      have hb := hn.good.sb z (List.mem_of_getElem? hzk)
      walk_at "s"
      intro H5 s5
      have eG5 := s5 _ _ eG
      refine ⟨_, eG5, lt_line (by rw [List.length_map, List.length_take]; omega), ?_, app_same hG (si.trans s5)⟩
      rw [upd_same, List.take_succ, hzk, Option.toList_some, List.map_append]
      rfl
    rintro H5 ⟨eG, s5⟩
    rw [List.take_of_length_le (by simp only [List.length_map]; omega)] at eG
    have s45 := s4.trans s5
    have sAll := (s1.trans s23).trans s45
    walk_at "s"
    intro x dx hx hdx ne
    have s6 : Same H5 (upd (upd H5 dx (.own x)) x (.ins T.CBridge dx [])) := fun b o e => by
      rw [upd_ne (ne_of_none e hx), upd_ne (ne_of_none e hdx)]; exact e
    refine ⟨x, dx, D, G, bs, rows, s0 :: ss, rfl, upd_same, s6 _ _ (s45 _ _ eD), hbs.same (s45.trans s6), s6 _ _ eG, hn.good, fun bl sl H7 hbl7 hsl7 hbr k7 => ⟨rfl, ?_⟩⟩
    have back : ∀ z, (upd (upd H5 dx (.own x)) x (.ins T.CBridge dx [])) z = none → H z = none := fun z e => (sAll.trans s6).free e
    have sF : Same H H7 := fun b o e => k7 b o (ne_of_none (sAll _ _ e) hx) (s6 _ _ (sAll _ _ e))
    exact q x bl sl H7 (sAll.free hx) (back _ hbl7) (back _ hsl7) sF hbr
end
/-! ### loads put on and taken off -/
def putL (ld : List Int) (k : Nat) (m : Int) : List Int := ld.set k (gD ld k + m)
theorem putL_len (ld : List Int) (k : Nat) (m : Int) : (putL ld k m).length = ld.length := List.length_set
theorem putL_gD {ld : List Int} {k : Nat} {m : Int} (h : k < ld.length) (j : Nat) : gD (putL ld k m) j = if j = k then gD ld k + m else gD ld j := by
  show (ld.set k (gD ld k + m)).getD j 0 = _
  rw [List.getD_eq_getElem?_getD, List.getElem?_set]
  by_cases e : k = j
  · subst e
    rw [if_pos rfl, if_pos h, if_pos rfl]; rfl
  · rw [if_neg e, if_neg (fun z => e z.symm), ← List.getD_eq_getElem?_getD]; rfl
theorem putL_app {ld : List Int} {k : Nat} {m : Int} (h : k < ld.length) : ld.take k ++ [gD ld k + m] ++ ld.drop (k + 1) = putL ld k m := by
  unfold putL
  rw [List.set_eq_take_append_cons_drop, if_pos h, List.append_assoc]
  rfl
/-- what is borne -/
structure Brn (rows : List (Str × Int)) (spans ld : List Int) : Prop where
  s : ∀ j, j < spans.length → gD ld j ≤ gD spans j
  b : ∀ j, j < rows.length → hv ld j ≤ 2 * brs rows j
theorem brn_iff {rows : List (Str × Int)} {spans ld : List Int} : FaultIs rows spans ld none ↔ Brn rows spans ld := by
  constructor
  · intro h
    cases h with
    | none a b => exact ⟨fun j hj => by have := a j hj; omega, fun j hj => by have := b j hj; omega⟩
  · intro h
    exact .none (fun j hj => by have := h.s j hj; omega) fun j hj => by have := h.b j hj; omega
theorem brn_fault {rows : List (Str × Int)} {spans ld : List Int} {x : Option (Bool × Nat × Int)} (h : Brn rows spans ld) (hx : FaultIs rows spans ld x) : x = none := fault_one hx (brn_iff.mpr h)
theorem brn_less {rows : List (Str × Int)} {spans ld ld' : List Int} (h : Brn rows spans ld) (l : ∀ j, gD ld' j ≤ gD ld j) : Brn rows spans ld' := by
  refine ⟨fun j hj => Int.le_trans (l j) (h.s j hj), fun j hj => ?_⟩
  have h1 := h.b j hj
  have h2 := l j
  have h3 := l (j + 1)
  unfold hv at h1 ⊢
  omega
/-! #### how much is to be mended -/
def wS (spans ld : List Int) (j : Nat) : Nat := if gD ld j > gD spans j then 1 else 0
def wB (rows : List (Str × Int)) (ld : List Int) (j : Nat) : Nat := if hv ld j ≤ 2 * brs rows j then 0 else if gD ld j = 0 ∨ gD ld (j + 1) = 0 then 1 else 2
def mu (rows : List (Str × Int)) (spans ld : List Int) : Nat := ((List.range spans.length).map (wS spans ld)).sum + ((List.range rows.length).map (wB rows ld)).sum
theorem sum_le {f g : Nat → Nat} : ∀ l : List Nat, (∀ x ∈ l, f x ≤ g x) → (l.map f).sum ≤ (l.map g).sum
  | [], _ => Nat.le_refl _
  | x :: l, h => by
    have h1 := sum_le l fun y hy => h y (List.mem_cons_of_mem _ hy)
    have h2 := h x List.mem_cons_self
    rw [List.map_cons, List.map_cons, List.sum_cons, List.sum_cons]
    omega
theorem sum_lt {f g : Nat → Nat} {z : Nat} : ∀ l : List Nat, (∀ x ∈ l, f x ≤ g x) → z ∈ l → f z < g z → (l.map f).sum < (l.map g).sum
  | [], _, hz, _ => by cases hz
  | x :: l, h, hz, hlt => by
    have h2 := h x List.mem_cons_self
    rw [List.map_cons, List.map_cons, List.sum_cons, List.sum_cons]
    rcases List.mem_cons.mp hz with rfl | hz
    · have h1 := sum_le l fun y hy => h y (List.mem_cons_of_mem _ hy)
      omega
    · have h1 := sum_lt l (fun y hy => h y (List.mem_cons_of_mem _ hy)) hz hlt
      omega
theorem sum_const {f : Nat → Nat} {c : Nat} : ∀ l : List Nat, (∀ x ∈ l, f x ≤ c) → (l.map f).sum ≤ c * l.length
  | [], _ => Nat.le_refl _
  | x :: l, h => by
    have h1 := sum_const l fun y hy => h y (List.mem_cons_of_mem _ hy)
    have h2 := h x List.mem_cons_self
    rw [List.map_cons, List.sum_cons, List.length_cons, Nat.mul_succ]
    omega
theorem mu_le (rows : List (Str × Int)) (spans ld : List Int) : mu rows spans ld ≤ spans.length + 2 * rows.length := by
  have h1 := sum_const (f := wS spans ld) (c := 1) (List.range spans.length) fun x _ => by unfold wS; split <;> omega
  have h2 := sum_const (f := wB rows ld) (c := 2) (List.range rows.length) fun x _ => by unfold wB; split <;> (try split) <;> omega
  rw [List.length_range] at h1 h2
  unfold mu
  omega
theorem wS_less {spans ld ld' : List Int} (l : ∀ j, gD ld' j ≤ gD ld j) (j : Nat) : wS spans ld' j ≤ wS spans ld j := by
  have := l j
  unfold wS
  split <;> split <;> omega
theorem wB_less {rows : List (Str × Int)} {ld ld' : List Int} (l : ∀ j, gD ld' j ≤ gD ld j) (n : ∀ j, 0 ≤ gD ld' j) (j : Nat) : wB rows ld' j ≤ wB rows ld j := by
  have h1 := l j
  have h2 := l (j + 1)
  have h3 := n j
  have h4 := n (j + 1)
  unfold wB hv
  split
  · omega
  · split
    · rw [if_neg (by omega)]
      split <;> omega
    · rw [if_neg (by omega), if_neg (by omega)]
      omega
/-- what a turn takes off -/
def tookL (ld : List Int) (k : Nat) (o : Int) : List Int := putL ld k (-(if gD ld k < o then gD ld k else o))
theorem took_less {ld : List Int} {k : Nat} {o : Int} (h : k < ld.length) (n : ∀ j, 0 ≤ gD ld j) (ho : 0 < o) : (∀ j, gD (tookL ld k o) j ≤ gD ld j) ∧ (∀ j, 0 ≤ gD (tookL ld k o) j) := by
  have hk := n k
  refine ⟨fun j => ?_, fun j => ?_⟩
  · unfold tookL
    rw [putL_gD h]
    split
    · next e => subst e; split <;> omega
    · exact Int.le_refl _
  · have hj := n j
    unfold tookL
    rw [putL_gD h]
    split
    · split <;> omega
    · exact hj
/-- the place that a turn may choose -/
def Chosen (ld : List Int) (b : Bool) (kf : Nat) (o : Int) (k : Nat) : Prop := (b = true ∧ k = kf) ∨ (b = false ∧ ((k = kf ∧ o ≤ gD ld kf) ∨ (k = kf + 1 ∧ (o ≤ gD ld (kf + 1) ∨ gD ld kf < o))))
theorem mended_step {rows : List (Str × Int)} {spans ld : List Int} {b : Bool} {kf k : Nat} {o : Int} (hf : FaultIs rows spans ld (some (b, kf, o))) (hc : Chosen ld b kf o k) (n : ∀ j, 0 ≤ gD ld j) (hl : ld.length = rows.length + 1) (hsl : spans.length = rows.length + 1) (sp : ∀ j, j < spans.length → 0 ≤ gD spans j) (br : ∀ j, j < rows.length → 0 ≤ brs rows j) :
    k < ld.length ∧ 0 < o ∧ mu rows spans (tookL ld k o) < mu rows spans ld := by
  cases hf with
  | span _ h1 h2 h3 =>
    rcases hc with ⟨_, rfl⟩ | ⟨h, _⟩
    · have hk : k < ld.length := by omega
      have ho : 0 < gD ld k - gD spans k := by omega
      obtain ⟨l, n'⟩ := took_less hk n ho
      refine ⟨hk, ho, ?_⟩
      have s1 := sum_lt (z := k) (List.range spans.length) (fun x _ => wS_less (spans := spans) l x) (List.mem_range.mpr h1) (by
        have e : gD (tookL ld k (gD ld k - gD spans k)) k = gD spans k := by
          have := sp k h1
          unfold tookL
          rw [putL_gD hk, if_pos rfl, if_neg (by omega)]
          omega
        unfold wS
        rw [e, if_neg (by omega), if_pos h2]
        omega)
      have s2 := sum_le (List.range rows.length) (fun x _ => wB_less (rows := rows) l n' x)
      unfold mu
      omega
    · cases h
  | boat _ h1 h2 h3 h4 =>
    rcases hc with ⟨h, _⟩ | ⟨_, hc⟩
    · cases h
    · have hb := br kf h2
      have n0 := n kf
      have n1 := n (kf + 1)
      have hov : hv ld kf = gD ld kf + gD ld (kf + 1) := rfl
      have hk : k < ld.length := by rcases hc with ⟨rfl, _⟩ | ⟨rfl, _⟩ <;> omega
      have ho : 0 < -(2 * brs rows kf - hv ld kf) := by omega
      generalize ho2 : -(2 * brs rows kf - hv ld kf) = o at *
      obtain ⟨l, n'⟩ := took_less hk n ho
      refine ⟨hk, ho, ?_⟩
      have s1 := sum_le (List.range spans.length) (fun x _ => wS_less (spans := spans) l x)
      have s2 := sum_lt (z := kf) (List.range rows.length) (fun x _ => wB_less (rows := rows) l n' x) (List.mem_range.mpr h2) (by
        have e0 : gD (tookL ld k o) kf = if kf = k then gD ld k + -(if gD ld k < o then gD ld k else o) else gD ld kf := putL_gD hk kf
        have e1 : gD (tookL ld k o) (kf + 1) = if kf + 1 = k then gD ld k + -(if gD ld k < o then gD ld k else o) else gD ld (kf + 1) := putL_gD hk (kf + 1)
        have hv' : hv (tookL ld k o) kf = gD (tookL ld k o) kf + gD (tookL ld k o) (kf + 1) := rfl
        unfold wB
        rw [if_neg (show ¬ hv ld kf ≤ 2 * brs rows kf by omega)]
        rcases hc with ⟨rfl, hc⟩ | ⟨rfl, hc⟩
        · rw [if_pos rfl, if_neg (show ¬ gD ld k < o by omega)] at e0
          rw [if_neg (by omega)] at e1
          rw [if_pos (show hv (tookL ld k o) k ≤ 2 * brs rows k by omega)]
          split <;> omega
        · rw [if_neg (by omega)] at e0
          rw [if_pos rfl] at e1
          by_cases c : gD ld (kf + 1) < o
          · rw [if_pos c] at e1
            by_cases z : gD ld kf = 0 ∨ gD ld (kf + 1) = 0
            · rw [if_pos z, if_pos (show hv (tookL ld (kf + 1) o) kf ≤ 2 * brs rows kf by omega)]
              omega
            · rw [if_neg z]
              split
              · omega
              · rw [if_pos (.inr (by omega))]; omega
          · rw [if_neg c] at e1
            rw [if_pos (show hv (tookL ld (kf + 1) o) kf ≤ 2 * brs rows kf by omega)]
            split <;> omega)
      unfold mu
      omega
/-! #### room -/
theorem brn_room {rows : List (Str × Int)} {spans ld : List Int} (h : Brn rows spans ld) (hsl : spans.length = rows.length + 1) {k : Nat} (hk : k ≤ rows.length) : ∀ y ∈ roomL rows spans ld k, 0 ≤ y := by
  intro y hy
  unfold roomL at hy
  rcases List.mem_cons.mp hy with rfl | hy
  · have := h.s k (by omega); omega
  · rcases List.mem_append.mp hy with hy | hy
    · split at hy
      · rw [List.mem_singleton.mp hy]
        have := h.b (k - 1) (by omega); omega
      · cases hy
    · split at hy
      · rw [List.mem_singleton.mp hy]
        have := h.b k (by omega); omega
      · cases hy
theorem room_put {rows : List (Str × Int)} {spans ld : List Int} (h : Brn rows spans ld) (hl : ld.length = rows.length + 1) (hsl : spans.length = rows.length + 1) {k : Nat} (hk : k ≤ rows.length) {m x : Int} (hm : RoomIs rows spans ld k m) (hx : x ≤ m) : Brn rows spans (putL ld k x) := by
  have hk2 : k < ld.length := by omega
  have r0 := hm.2 (gD spans k - gD ld k) List.mem_cons_self
  refine ⟨fun j hj => ?_, fun j hj => ?_⟩
  · rw [putL_gD hk2]
    split
    · next e => subst e; omega
    · exact h.s j hj
  · have hj2 := h.b j hj
    unfold hv at hj2 ⊢
    rw [putL_gD hk2, putL_gD hk2]
    by_cases e : j = k
    · subst e
      rw [if_pos rfl, if_neg (by omega)]
      have := hm.2 (2 * brs rows j - hv ld j) (List.mem_cons_of_mem _ (List.mem_append_right _ (by rw [if_pos hj]; exact List.mem_cons_self)))
      unfold hv at this
      omega
    · rw [if_neg e]
      by_cases e2 : j + 1 = k
      · subst e2
        rw [if_pos rfl]
        have := hm.2 (2 * brs rows j - hv ld j) (List.mem_cons_of_mem _ (List.mem_append_left _ (by rw [if_pos (by omega)]; exact List.mem_cons_self)))
        unfold hv at this
        omega
      · rw [if_neg e2]; exact hj2
/-- a room that is used up stays so -/
theorem room_zero {rows : List (Str × Int)} {spans ld ld' : List Int} (h : Brn rows spans ld') (hsl : spans.length = rows.length + 1) {k : Nat} (hk : k ≤ rows.length) (hz : RoomIs rows spans ld k 0) (l : ∀ j, gD ld j ≤ gD ld' j) : RoomIs rows spans ld' k 0 := by
  have nn := brn_room h hsl hk
  refine ⟨?_, nn⟩
  have hz1 := hz.1
  have l0 := l k
  unfold roomL at hz1 nn ⊢
  rcases List.mem_cons.mp hz1 with e | hz1
  · have := nn _ List.mem_cons_self
    rw [show gD spans k - gD ld' k = 0 by omega]
    exact List.mem_cons_self
  · refine List.mem_cons_of_mem _ ?_
    rcases List.mem_append.mp hz1 with hz1 | hz1
    · refine List.mem_append_left _ ?_
      split at hz1
      · next c =>
        rw [if_pos c]
        have e := List.mem_singleton.mp hz1
        have := nn (2 * brs rows (k - 1) - hv ld' (k - 1)) (List.mem_cons_of_mem _ (List.mem_append_left _ (by rw [if_pos c]; exact List.mem_cons_self)))
        have a1 := l (k - 1)
        have a2 := l (k - 1 + 1)
        unfold hv at *
        rw [show 2 * brs rows (k - 1) - (gD ld' (k - 1) + gD ld' (k - 1 + 1)) = 0 by omega]
        exact List.mem_cons_self
      · cases hz1
    · refine List.mem_append_right _ ?_
      split at hz1
      · next c =>
        rw [if_pos c]
        have e := List.mem_singleton.mp hz1
        have := nn (2 * brs rows k - hv ld' k) (List.mem_cons_of_mem _ (List.mem_append_right _ (by rw [if_pos c]; exact List.mem_cons_self)))
        have a1 := l k
        have a2 := l (k + 1)
        unfold hv at *
        rw [show 2 * brs rows k - (gD ld' k + gD ld' (k + 1)) = 0 by omega]
        exact List.mem_cons_self
      · cases hz1
/-- what is in the room of a load with m more on the span itself -/
theorem room_shift {rows : List (Str × Int)} {spans ld : List Int} (hl : ld.length = rows.length + 1) {k : Nat} (hk : k ≤ rows.length) (m : Int) : roomL rows spans (putL ld k m) k = (roomL rows spans ld k).map fun y => y - m := by
  have hk2 : k < ld.length := by omega
  unfold roomL hv
  rw [List.map_cons, List.map_append, putL_gD hk2, if_pos rfl]
  congr 1
  · omega
  · congr 1
    · split
      · rw [List.map_cons, List.map_nil, putL_gD hk2, putL_gD hk2, if_neg (by omega), if_pos (by omega)]
        congr 1
        rw [show k - 1 + 1 = k by omega]
        omega
      · rfl
    · split
      · rw [List.map_cons, List.map_nil, putL_gD hk2, if_neg (by omega)]
        congr 1
        omega
      · rfl
theorem room_full {rows : List (Str × Int)} {spans ld : List Int} (hl : ld.length = rows.length + 1) {k : Nat} (hk : k ≤ rows.length) {m : Int} (hm : RoomIs rows spans ld k m) : RoomIs rows spans (putL ld k m) k 0 := by
  unfold RoomIs
  rw [room_shift hl hk]
  refine ⟨List.mem_map.mpr ⟨m, hm.1, by omega⟩, fun y hy => ?_⟩
  obtain ⟨z, hz, rfl⟩ := List.mem_map.mp hy
  have := hm.2 z hz
  omega
/-- one more is too much then -/
theorem room_more {rows : List (Str × Int)} {spans ld : List Int} (hl : ld.length = rows.length + 1) (hsl : spans.length = rows.length + 1) {k : Nat} (hk : k ≤ rows.length) (hz : RoomIs rows spans ld k 0) : ¬ Brn rows spans (putL ld k 1) := fun h => by
  have nn := brn_room h hsl hk
  rw [room_shift hl hk] at nn
  have := nn (0 - 1) (List.mem_map.mpr ⟨0, hz.1, rfl⟩)
  omega
theorem put_more {ld : List Int} {k : Nat} {m : Int} (h : k < ld.length) (hm : 0 ≤ m) : ∀ j, gD ld j ≤ gD (putL ld k m) j := fun j => by
  rw [putL_gD h]
  split
  · next e => subst e; omega
  · exact Int.le_refl _
theorem put_nn {ld : List Int} {k : Nat} {m : Int} (h : k < ld.length) (n : ∀ j, 0 ≤ gD ld j) (hm : 0 ≤ m) : ∀ j, 0 ≤ gD (putL ld k m) j := fun j => Int.le_trans (n j) (put_more h hm j)
theorem gD_nn {ld : List Int} (h : ∀ z ∈ ld, 0 ≤ z) (j : Nat) : 0 ≤ gD ld j := by
  unfold gD
  rw [List.getD_eq_getElem?_getD]
  cases e : ld[j]? with
  | none => exact Int.le_refl _
  | some z => exact h z (List.mem_of_getElem? e)
/-! ### exceptions with no fields; a clause of two classes; calls whose exceptions go out, or are caught -/
theorem flyingZ_grow {base h h' : Heap} {l : List Env} {e : Addr} {Z : Obj → Prop} (x : HandSPX.FlyingZ base l e Z h) (k : ∀ b o, h.get? b = some o → h'.get? b = some o) : HandSPX.FlyingZ base l e Z h' := by
  obtain ⟨a, b, c, oe, vs, T, oT, ts, t1, t2, t3, t4, t5, t6, t7, t8, t9⟩ := x
  exact ⟨fun p o q => k _ _ (a p o q), b, c.of_keeps fun p o q _ => ⟨o, k _ _ q, rfl⟩, oe, vs, T, oT, ts, k _ _ t1, t2, t3, t4, t5, t6, k _ _ t7, t8, t9⟩
def wKeep2 (K : PySem.W.Frag) (c c2 : Value) (i : Nat) (ts : Addr → Value → Option Addr → TS) (D : Ends) : WX := fun cls d σ H =>
  PySem.W.exmAny K cls [c, c2] = some true ∧ ∀ a, H a = none → ts a cls d (goneE i D) (σ.set i (some (.ref a))) (upd H a (keptX cls d a))
section
variable {X : Cx} {x x2 n : Str} {c c2 : Value} {i : Nat} {body suite : List Stmt} {b₀ : Stmt} {np np2 tpos pos pos' : Pos} {kk : Nat} {tb : WX → TS} {ts : Addr → Value → Option Addr → TS}
theorem ps_try_keep2 (hs : X.stack = X.env :: X.outer) (hf : X.env.frame = some X.env.locals) (hex : X.ex = []) (hN : X.N.Nodup) (hi : X.N[i]? = some n) (hln : X.env.kindOf n = some .local) (hc : Names X x c) (hc2 : Names X x2 c2)
    (hb : ∀ (W : WX) (pn : List (Addr × Obj)) (xe : Value → Shared → Prop), Takes (X.tr pn xe) W → PassesOwn (model X.prog X.w) X.A X.env xe → PSs (X.tr pn xe) body (tb W))
    (hsu : ∀ (a : Addr) (cls : Value) (d : Option Addr) (pn : List (Addr × Obj)), PSs (X.suite a pn) (b₀ :: suite) (ts a cls d)) :
    PS X (.Try body [.ExceptHandler (some (.Tuple [.Name x np, .Name x2 np2] kk tpos)) (some n) (b₀ :: suite) pos'] [] [] pos) (fun D σ H => tb (wKeep2 X.K c c2 i ts D) D σ H) := by
  constructor
  intro pins s σ H D I h
  have ok := I.ok
  have fr0 : X.A.frames = some (X.env :: X.outer) := by
    rw [ok.frames, hs]
  refine wpAny_Try_except ?_
  let xe' : Value → Shared → Prop := fun e s₁ => wpAny (model X.prog X.w) X.A (noteFrame e X.env) (fun _ s₂ => wpAny (model X.prog X.w) X.A (setFlight e none) (fun _ s₃ =>
    wpAny (model X.prog X.w) X.A (handleBy e X.env [.ExceptHandler (some (.Tuple [.Name x np, .Name x2 np2] kk tpos)) (some n) (b₀ :: suite) pos']) (SP X pins D) X.xe s₃) X.xe s₂) X.xe s₁
  have catches : Takes (X.tr (X.pn ++ pins) xe') (wKeep2 X.K c c2 i ts D) := by
    rintro u s' ⟨a, B, sI, pins', σ', H', cls, d, rfl, J', nb, up, sky, na, os, ag, hm, hyes⟩
    have J : Inv X pins σ' H' sI := J'.ofTry ok
    rw [show (X.tr (X.pn ++ pins) xe').stack = X.env :: X.outer from hs] at sky
    show wpAny (model X.prog X.w) X.A (noteFrame (.ref a) X.env) _ _ _
    refine Sky.land Zc.steady fr0 hf sky ?_
    intro h3 fl3 up3
    have J3 : Inv X pins σ' H' { s' with heap := h3 } := J.landed nb fl3.1 (up.trans up3) os ag
    refine wpAny_handleBy_cons (codeAny_handlers_test ?_) (fun q => nomatch q)
    -- the class is looked up and held against
    have look : PySem.W.Looks (model X.prog X.w) h3 (typeOf (.ref a)) cls := by
      obtain ⟨o3, v3, e3, z3, d3⟩ := fl3.there
      intro A Q E s k q
      refine wpAny_typeOf_ref (k _ _ e3) ?_
      rw [z3.1]
      exact q
    have named : ∀ {y : Str} {d : Value} {npy : Pos} {Q : Value → Shared → Prop} {E : Value → Shared → Prop}, Names X y d → Q d { s' with heap := h3 } → wpAny (model X.prog X.w) (X.A.mark (some (.ref a))) (eval (.Name y npy) X.env) Q E { s' with heap := h3 } := by
      intro y d npy Q E hy q
      have S3 := inv_into J3 a
      obtain ⟨hg, hdb, hv⟩ := hy
      rcases hv with hv | ⟨hv, hw, hn⟩
      · exact ld_glob (X := X.suite a (X.pn ++ pins)) S3 hg hv q hdb
      · exact ld_blt (X := X.suite a (X.pn ++ pins)) S3 hg hv hw q hn hdb
    refine wpAny_Tuple ?_
    refine wpAny_items_cons (named hc ?_)
    refine wpAny_items_cons (named hc2 ?_)
    refine wpAny_items_nil ⟨by size_fits, ?_⟩
    have kp : ∀ b o, h3.get? b = some o → (h3.push { cls := .type "tuple", data := .seq [c, c2].toArray }).get? b = some o := fun _ _ z => Heap.get?_push_of_some _ z
    have fl5 := flyingZ_grow fl3 kp
    have up5 : h3.UpToSlots (h3.push { cls := .type "tuple", data := .seq [c, c2].toArray }) := Heap.UpToSlots.of_keeps kp
    refine (PySem.W.exm_tup2 (M := model X.prog X.w) (J3.kIn.keeps kp) (look.keeps kp) (Heap.get?_push_size h3 rfl) hm).here (codeAny_handlers_suite_as (HandSPX.lands_againZ fl5 ?_))
    intro h4 fl4 up4
    have J4 : Inv X pins σ' H' { s' with heap := h4 } := J.landed nb fl4.1 (((up.trans up3).trans up5).trans up4) os ag
    obtain ⟨o4, v4, e4, z4, d4⟩ := fl4.there
    have ge : sI.heap.get? a = none := by
      cases q : sI.heap.get? a with
      | none => rfl
      | some o =>
        exfalso
        by_cases hm' : a ∈ frs (X.env :: X.outer)
        · obtain ⟨_, o', q', nf⟩ := fl4.2.2.1.mem hm'
          rw [e4] at q'
          cases q'
          exact nf _ d4
        · have z := nb a o q (by rw [show (X.tr (X.pn ++ pins) xe').stack = X.env :: X.outer from hs]; exact hm')
          rw [fl4.2.1] at z
          cases z
    have S4 := inv_into (inv_keep J ge J4 hex e4 z4 d4 na) a
    refine store_ok (X := X.suite a (X.pn ++ pins)) (v := .ref a) S4 hN hi (.inl hln) rfl ?_ (.inr hln)
    intro s5 S5
    refine wpAny_mono ((hsu a cls d (X.pn ++ pins)).run [] s5 _ _ (goneE i D) S5 (hyes a na)) ?_ (fun _ _ z => False.elim z)
    intro f s6 sp
    have out : ∀ {σ6 : L2.St} {H6 : Hp} {Q : Shared → Prop}, Inv (X.suite a (X.pn ++ pins)) [] σ6 H6 s6 → (∀ s7, Inv X pins (σ6.set i none) H6 s7 → Q s7) →
        wpAny (model X.prog X.w) X.A (do bindName X.env n .none; unbindBehindTheSuite X.env n pos') (fun _ s7 => Q s7) X.xe s6 := by
      intro σ6 H6 Q S6 hq
      exact gone_ok (inv_outof S6 ok) hN hi hln hq
    match f, sp with
    | .next, ⟨_, _, S6, q⟩ => exact out S6 fun s7 J7 => ⟨_, _, J7, q⟩
    | .brk, ⟨_, _, S6, q⟩ => exact out S6 fun s7 J7 => ⟨_, _, J7, q⟩
    | .cont, ⟨_, _, S6, q⟩ => exact out S6 fun s7 J7 => ⟨_, _, J7, q⟩
    | .ret u, ⟨_, _, _, S6, r, q⟩ => exact out S6 fun s7 J7 => ⟨_, _, _, J7, r, q⟩
  refine wpAny_mono ((hb (wKeep2 X.K c c2 i ts D) (X.pn ++ pins) xe' catches PassesOwn.looking).run [] s σ H D (I.toTry _) h) ?_ (fun _ _ z => z)
  intro f s1 sp
  match f, sp with
  | .next, ⟨σ', H', J, q⟩ => exact wpAny_execs_nil ⟨σ', H', J.ofTry ok, q⟩
  | .brk, ⟨σ', H', J, q⟩ => exact ⟨σ', H', J.ofTry ok, q⟩
  | .cont, ⟨σ', H', J, q⟩ => exact ⟨σ', H', J.ofTry ok, q⟩
  | .ret u, ⟨v, σ', H', J, r, q⟩ => exact ⟨v, σ', H', J.ofTry ok, r, q⟩
end
section
variable {X : Cx} {C : Addr} {B : String}
def tMk0 (C : Addr) : L2.St → Hp → XK → Prop := fun _ H Q => Q (.ref C) none H
/-- X() -/
theorem pmk_own0 {x : Str} {p pos : Pos} (hF : ∃ (bm : List Value) (ni ii : String), PySem.ExcBaseFacts B ni ii bm ∧ PySem.W.excIn X.K C bm ni = true) (ex : PySem.W.subIn X.K (.ref C) (.type "BaseException") = some true) (ty : PySem.W.typeIn X.K (.ref C) = some (.type "type"))
    (gC : X.mg x = some (.ref C)) (kC : PySem.W.keepIn X.K (.ref C) = true) (hg : Gl X x) (hdb : (x == ("__debug__" : Str)) = false := by decide) : PMk X (.Call (.Name x p) [] [] pos) (tMk0 C) := by
  intro pins s σ H Q I h
  obtain ⟨bm0, ni, ii, F, q⟩ := hF
  refine wpAny_Call_Name_kw (ld_glob I hg gC ?_ hdb)
  refine PySem.W.callWith_K0 (I.kIn) kC ?_
  show wpAny _ _ (call (.ref C) []) _ _ _
  obtain ⟨bm, N, nm, qn, bs, hdct, sn, sub, ab, col, dd, k0, k1, k2, k3, k5, mN, hC, hN, hni, T⟩ := exc_obj I.kIn q
  refine wpAny_call_exc_subT F T hC hN hni (fun h' e hm => ?_) (by show 0 ≤ sizeLine; rw [sizeLine_eq]; omega)
  exact mk_of I hm (raises_own ex ty) h (I.hok.gone hm.new)
/-- what a callee lets out goes out of the def -/
theorem passOut {E : XK} (hs : X.stack = X.env :: X.outer) (hf : X.env.frame = some X.env.locals) (hex : X.ex = []) {E₁ : Value → Shared → Prop}
    (hx : X.xe = fun e s' => wpAny (model X.prog X.w) X.A (leaving X.env e) (fun _ s'' => L2.CX X.prog X.w X.outer X.H_0 X.s_0 E e s'') E₁ s') : Passes (L2.CX X.prog X.w) X E := fun pins σ H s e s' I c =>
  takes_of (E := E) hs hf hex hx e s' (XE.of_call I (fun _ _ _ h => h) c)
end
section
variable {X : Cx} {CX : CXT} {k : Nat} {f C : Addr} {fd : FuncData} {ps : List Str} {sp : Sp} {E : L2.St → XK} {m : Str} {apos pos : Pos} {e o : Expr} {es : List Expr} {ta : TE} {t : TA}
def tMethSd (C : Addr) (m : Str) (sp : Sp) (E : L2.St → XK) (ta : TE) (t : TA) : TE := fun σ H Q => ta σ H fun x H1 => ∃ a dx fs, x = .ref a ∧ H1 a = some (.ins C dx fs) ∧ fs.lookup m = none ∧ t σ H1 fun vs H2 => sp (x :: vs) H2 Q (E σ)
/-- o.m(..) within a try -/
theorem pe_methSd {pl : Sem Bool} (he : PE X o ta) (c : Cls X.K C) (hm : Meth X.K C m f) (F : FnOk X.prog X.w X.K X.mg X.base CX k f fd ps sp) (hr : Room k X.A) (hb : Binds X.K fd ps []) (hx : ∀ σ, PassesAt CX X σ (E σ)) (ha : PA X (e :: es) t)
    (hst : starEach (e :: es) X.env = (false, eval e X.env) :: starEach es X.env := by rfl) (hpl : (backTo pos (starEach es X.env)).any (·.1) = false := by rfl)
    (ht : eval (.Call (.Attribute o m apos) (e :: es) [] pos) X.env = (do
      let ov ← eval o X.env
      standAt apos.atName
      let (f, first) ← holding [ov] (getMethod ov m pl)
      callWith pos f first (backTo pos (starEach (e :: es) X.env)) (backToKw pos (keywordEach [] X.env))) := by rfl) :
    PE X (.Call (.Attribute o m apos) (e :: es) [] pos) (tMethSd C m sp E ta t) := by
  refine ⟨fun pins s σ H Q I h => ?_⟩
  refine PySem.W.methodCall_KW (pl := pl) (thn (he.run pins s σ H _ I h) fun u s1 ⟨x, H1, I1, rx, a, dx, fs, ex, ea, l, q⟩ => ?_) ht
  subst ex
  obtain rfl : u = Value.ref a := rx
  refine getmeth_ok I1 ea c hm l ?_
  refine PySem.W.callWith_K (first := [.ref a]) (h₀ := X.base) I.ok.mod.kin hm.kp (thn (ha.run pos pins s1 σ H1 _ I1 q) fun us s2 ⟨vs, H2, I2, r, q2⟩ => ⟨I2.kIn, ?_⟩) hst hpl
  exact run_fnS (us := .ref a :: us) (vs := .ref a :: vs) F hr hb (hx σ) I2 (.cons rfl r) q2
end
theorem i_methSd {C : Addr} {m : Str} {sp : Sp} {E : L2.St → XK} {ta : TE} {t : TA} {σ : L2.St} {H : Hp} {Q : VK} (h : ta σ H fun x H1 => ∃ a dx fs, x = .ref a ∧ H1 a = some (.ins C dx fs) ∧ fs.lookup m = none ∧ t σ H1 fun vs H2 => sp (x :: vs) H2 Q (E σ)) : tMethSd C m sp E ta t σ H Q := h
/-- try: x = o.m(..) -/
def tbSetM (C : Addr) (m : Str) (sp : Sp) (ta : TE) (t : TA) (j : Nat) : WX → TS := fun W => tAsg (tMethSd C m sp (fun σ cls d H' => W cls d σ H') ta t) (gName j)
/-! ### a kept exception with no fields -/
def KeptN (H : Hp) (a C : Addr) : Prop := H a = some (keptX (.ref C) none a)
theorem keptN_inst {X : Cx} {pins : List (Addr × Obj)} {σ : L2.St} {H : Hp} {s : Shared} {a C : Addr} (I : Inv X pins σ H s) (h : KeptN H a C) : ∃ ox : Obj, PySem.W.InstAt s.heap a ox C none := by
  obtain ⟨oe, vs, ho, hz, hd⟩ := keptX_at I.hok h
  refine ⟨oe, ho, hz.1, ?_, ?_⟩
  · unfold PySem.W.notCls
    rw [hd] <;> rfl
  · rw [hz.2]
    trivial
def rIsN (K : PySem.W.Frag) : List V → Hp → VK → Prop := fun xs H Q => rIsO K xs H Q ∨ ∃ (a C : Addr) (c : V) (u : Value) (b : Bool), xs = [.ref a, c] ∧ KeptN H a C ∧ ExcC K C ∧ ClsV c u ∧ PySem.W.kitOne K (.ref C) u = some b ∧ Q (.bl b) H
theorem call_isN {X : Cx} : CallR X (.builtin "isinstance") (rIsN X.K) := by
  intro pins s σ H xs us Q I r h
  rcases h with h | ⟨a, C, c, u, b, rfl, hk, T, k, e, q⟩
  · exact call_isO pins s σ H xs us Q I r h
  obtain ⟨u1, u2, rfl, r1, r2⟩ := vals2 r
  obtain rfl : u1 = Value.ref a := r1
  have e2 := k.eq r2
  subst e2
  obtain ⟨ox, J⟩ := keptN_inst I hk
  exact PySem.W.kia_one (keptE_kit T) I.kIn J e (fun z => nomatch z) fun tk => ⟨.bl b, H, I.tok tk, rfl, q⟩
def rIsNT (K : PySem.W.Frag) : List V → Hp → VK → Prop := fun xs H Q => rIsOT K xs H Q ∨ ∃ (a C : Addr) (tp : Addr) (cs : List V) (us : List Value) (b : Bool), xs = [.ref a, .ref tp] ∧ KeptN H a C ∧ ExcC K C ∧ H tp = some (.tup cs) ∧ Paired ClsV cs us ∧
  PySem.W.kitAny K (.ref C) us = some b ∧ Q (.bl b) H
theorem call_isNT {X : Cx} : CallR X (.builtin "isinstance") (rIsNT X.K) := by
  intro pins s σ H xs us Q I r h
  rcases h with h | ⟨a, C, tp, cs, ws, b, rfl, hk, T, hT, k, e, q⟩
  · exact call_isOT pins s σ H xs us Q I r h
  obtain ⟨u1, u2, rfl, r1, r2⟩ := vals2 r
  obtain rfl : u1 = Value.ref a := r1
  obtain rfl : u2 = Value.ref tp := r2
  obtain ⟨ox, J⟩ := keptN_inst I hk
  have ht : ObjOk X.prog X.w H s.heap tp (.tup cs) := I.hok tp _ hT
  obtain ⟨_, its, rv, o, h1, h2, n, h3⟩ := ht
  have e3 := ClsV.all k rv
  subst e3
  obtain ⟨oc, od', dt, sl⟩ := o
  simp only at h2 h3
  subst h2 h3
  exact PySem.W.kia_tup (keptE_kit T) I.kIn J h1 e (fun z => nomatch z) fun tk => ⟨.bl b, H, I.tok tk, rfl, q⟩
set_option maxHeartbeats 8000000
local macro_rules | `(tactic| walk_at "c") => `(tactic| first | omega | decide | exact ⟨by omega, by omega⟩ | exact ⟨by decide, by decide⟩ | exact .inl ⟨by omega, by omega⟩ | exact .inr ⟨by omega, by omega⟩ | exact ⟨by omega, by omega, by omega⟩ | exact ⟨by decide, by decide, by decide⟩ | exact le_line (Nat.le_of_ble_eq_true rfl))
local macro_rules | `(tactic| walk_at "a") => `(tactic| with_reducible (first | refine i_seq ?_ | refine i_asg ?_ | refine i_cons ?_ | refine i_c ?_ | refine i_nil ?_ | refine i_op ?_ | refine i_call ?_ | refine i_cb ?_ | refine i_name ?_ | refine i_next ?_ | refine i_ret ?_ | refine i_drop ?_ | refine i_if ?_ | refine i_test ?_ | refine i_and ?_ | refine i_or ?_ | refine i_not ?_ | refine i_ite ?_ | refine i_lst ?_ | refine i_tup ?_ | refine i_bm ?_ | refine i_un ?_ | refine i_par ?_ | refine i_gsub ?_ | refine i_chain ?_ | refine i_sl ?_ | refine i_nopart ?_ | refine i_part ?_ | refine i_m1 ?_ | refine i_m0 ?_ | refine i_lc ?_ | refine i_iList ?_ | refine i_iTup ?_ | refine i_iStr ?_ | refine i_r1 ?_ | refine i_set ?_ | refine i_callk ?_ | refine i_callN ?_ | refine i_ckw ?_ | refine i_revL ?_ | refine i_tB ?_ | refine i_fld ?_ | refine i_sfld ?_ | refine i_make ?_ | refine i_makeN ?_ | refine i_meth ?_ | refine i_andV ?_ | refine i_orV ?_ | refine i_notV ?_ | refine iteT ?_ | refine iteF ?_ | refine i_yes ?_))
local macro_rules | `(tactic| walk_at "s") => `(tactic| repeat (first | walk_at "a" | refine i_var rfl ?_ | refine i_aug rfl ?_ | refine And.intro ⟨_, rfl⟩ ?_ | refine ⟨_, rfl, ?_⟩ | refine ⟨_, _, rfl, rfl, ?_⟩ | refine ⟨_, _, rfl, ?_⟩ | refine ⟨rfl, ?_⟩ | refine And.intro (by walk_at "c") ?_))
section
variable {P : Program} {w : World} {K : PySem.W.Frag} {mg : Str → Option Value} {base : Heap} (T : Ev K mg)
theorem txo {K : PySem.W.Frag} {mg : Str → Option Value} (T : Ev K mg) : TxtO mg := ⟨T.mrange, T.menumerate⟩
theorem txm {K : PySem.W.Frag} {mg : Str → Option Value} (T : Ev K mg) : TxtM mg := ⟨T.mlen, T.mzip, T.mmin, T.mmax⟩
theorem ocl : OCl K mg T.COverload := ⟨T.gCOverload, T.oxOverload, T.nOverload_part, T.nOverload_at, T.nOverload_over, exm_hit T.exOverload T.icOverload T.tyOverload T.seOverload⟩
theorem nscl : SCl K mg T.CNoSpan := ⟨T.gCNoSpan, T.oxNoSpan, T.nNoSpan_at, exm_hit T.exNoSpan T.icNoSpan T.tyNoSpan T.seNoSpan⟩
theorem okhalves : FnOk P w K mg base CX0 4 T.fhalves T.fdhalves ["bridge", "load"] (spHalves T.CBoat T.CBridge) := ok_halves (k := 0) T.Fhalves (txb T) (brcl T) (txo T) (mt_Bridge___len__ T) T.FBridge___len__ T.bBridge___len__
theorem okneed_borne : FnOk P w K mg base (L2.CX P w) 5 T.fneed_borne T.fdneed_borne ["bridge", "load"] (spNeed T.CBoat T.CBridge T.COverload) :=
  ok_need (k := 0) T.Fneed_borne (txb T) (txo T) (bcl T) (brcl T) (ocl T) T.aOverload___init__ (beq_iff_eq.mp T.iOverload___init__) T.FOverload___init__ T.bOverload___init__ (mt_Bridge_boats T) T.FBridge_boats T.bBridge_boats (mt_Bridge_spans T) T.FBridge_spans T.bBridge_spans (mt_Bridge___len__ T) T.FBridge___len__ T.bBridge___len__ T.Fhalves T.ghalves T.bhalves T.Fspare T.gspare T.bspare
theorem okis_borne : FnOk P w K mg base CX0 6 T.fis_borne T.fdis_borne ["bridge", "load"] (spBorne T.CBoat T.CBridge) :=
  ok_borne (k := 0) T.Fis_borne (txb T) (txo T) (bcl T) (brcl T) (ocl T) T.aOverload___init__ (beq_iff_eq.mp T.iOverload___init__) T.FOverload___init__ T.bOverload___init__ (mt_Bridge_boats T) T.FBridge_boats T.bBridge_boats (mt_Bridge_spans T) T.FBridge_spans T.bBridge_spans (mt_Bridge___len__ T) T.FBridge___len__ T.bBridge___len__ T.Fhalves T.ghalves T.bhalves T.Fspare T.gspare T.bspare T.Fneed_borne T.gneed_borne T.bneed_borne
theorem okroom_at : FnOk P w K mg base (L2.CX P w) 5 T.froom_at T.fdroom_at ["bridge", "load", "at"] (spRoom K T.CBoat T.CBridge T.CNoSpan) :=
  ok_room (k := 0) T.Froom_at (txb T) (txo T) (txm T) (bcl T) (brcl T) (nscl T) T.aNoSpan___init__ (beq_iff_eq.mp T.iNoSpan___init__) T.FNoSpan___init__ T.bNoSpan___init__ (mt_Bridge_boats T) T.FBridge_boats T.bBridge_boats (mt_Bridge_spans T) T.FBridge_spans T.bBridge_spans (mt_Bridge___len__ T) T.FBridge___len__ T.bBridge___len__ T.Fis_whole T.gis_whole T.bis_whole T.Fhalves T.ghalves T.bhalves T.Fspare T.gspare T.bspare
theorem ok_law_weights : FnOk P w K mg base CX0 3 T.f_law_weights T.fd_law_weights ["_law_tape_here", "_law_parts"] spWeights := ok_weights (k := 0) T.F_law_weights ⟨T.mlen⟩ ⟨T.mlen, T.mrange, T.mmin⟩ T.F_law_draw T.g_law_draw T.b_law_draw T.F_law_pick T.g_law_pick T.b_law_pick
theorem xcOverload : ExcC K T.COverload := ⟨T.gaOverload, T.ggOverload, T.exOverload, T.hdOverload, T.haOverload, T.hnOverload, T.htOverload, T.hmOverload⟩
/-- try: need_borne(bridge, load) -/
def tbNeed (C CB CO : Addr) : WX → TS := fun W => tDrop (tCallSD (spNeed C CB CO) [] (fun σ cls d H' => W cls d σ H') (tCons (tVar 0) (tCons (tVar 1) tNil)))
def spFaultT : Sp := fun vs H Q _ => ∃ (p bl sl l : Addr) (rows : List (Str × Int)) (spans ld : List Int), vs = [.ref p, .ref l] ∧ BrAt T.CBoat T.CBridge H p bl sl rows spans ∧ rows.length ≤ 10 ∧ H l = some (.lst (ld.map V.int)) ∧ ld.length = rows.length + 1 ∧ spans.length = rows.length + 1 ∧
  (∀ H', Same H H' → FaultIs rows spans ld none → Q .non H') ∧ ∀ b (k : Nat) o t H', Same H H' → FaultIs rows spans ld (some (b, k, o)) → H t = none → H' t = some (.tup [.str (partS b), .int (k : Nat), .int o]) → Q (.ref t) H'
theorem ok_law_fault_told : FnOk P w K mg base CX0 7 T.f_law_fault_told T.fd_law_fault_told ["_law_bridge", "_law_load"] (spFaultT T) := by
  refine T.F_law_fault_told.ok scFaultTold (fun vs H Q E h => ?_) (fun cdv A outer s H vs Q E hr h => ?_)
  · obtain ⟨p, bl, sl, l, rows, spans, ld, rfl, _⟩ := h
    rfl
  · obtain ⟨p, bl, sl, l, rows, spans, ld, rfl, hp, hr10, hl, hld, hsl, q1, q2⟩ := h
    refine ⟨_,
      (pss_cons (ps_set (i := 2) scFaultTold.nd rfl (.inl rfl) pe_non)
      (pss_cons (ps_try_keep (i := 3) (tb := (tbNeed T.CBoat T.CBridge T.COverload)) (ts := fun _ _ _ => tAsg (tVar 3) (gName 2)) rfl rfl rfl scFaultTold.nd rfl rfl ⟨rfl, by decide, .inl T.gCOverload⟩
      (fun W pn xe tk _ => pss_imp (pss_one (ps_expr (pe_callSD (okneed_borne T) (hr.mono (by decide)) (by rfl) T.gneed_borne T.Fneed_borne.kp T.bneed_borne .nil (fun σ => passAt tk σ) (by exact (pa_cons (pv 0) (pa_cons (pv 1) pa_nil)))))) ?imp)
      (fun a cls d pn => pss_one (ps_set (i := 2) scFaultTold.nd rfl (Or.inl rfl) (pv 3))))
      (pss_one (ps_ret (pe_ifExp (pt_cmpR op_isN (pv 2) pe_non (nomark _)) pe_non (pe_tup (pa_cons (pe_fldX (pv 2) rfl) (pa_cons (pe_fldX (pv 2) rfl) (pa_cons (pe_fldX (pv 2) rfl) pa_nil)))))))))
      , ?main⟩
    case imp => exact fun D σ H h => h
    case main =>
      walk_at "s"
      refine ⟨p, bl, sl, l, rows, spans, ld, rfl, hp, hr10, hl, hld, hsl, fun H1 s1 ft => ?_, fun b k o d H1 s1 ft ed => ⟨exm_hit T.exOverload T.icOverload T.tyOverload T.seOverload, fun e hne => ?_⟩⟩
      · walk_at "s"
        exact q1 H1 s1 ft
      · have kp : KeptE (upd H1 e (keptX (.ref T.COverload) (some d) e)) e T.COverload (ovF (.str (partS b)) (.int (k : Nat)) (.int o)) := ⟨d, upd_same, upd_at hne ed⟩
        have s3 := s1.trans (same_upd (o := keptX (.ref T.COverload) (some d) e) hne)
        generalize upd H1 e (keptX (.ref T.COverload) (some d) e) = H2 at kp s3 ⊢
        have xf : XfC K T.COverload := ⟨T.gaOverload, T.ggOverload, T.exOverload, T.hdOverload⟩
        walk_at "s"
        refine ⟨e, T.COverload, _, .str (partS b), rfl, xf, T.nOverload_part, kp, rfl, ?_⟩
        walk_at "s"
        refine ⟨e, T.COverload, _, .int (k : Nat), rfl, xf, T.nOverload_at, kp, rfl, ?_⟩
        walk_at "s"
        refine ⟨e, T.COverload, _, .int o, rfl, xf, T.nOverload_over, kp, rfl, ?_⟩
        walk_at "s"
        intro t ht
        exact q2 b k o t _ (s3.trans (same_upd ht)) ft (s3.free ht) upd_same
def spPut : Sp := fun vs H Q _ => ∃ (l : Addr) (k : Nat) (m : Int) (ld : List Int), vs = [.ref l, .int (k : Int), .int m] ∧ H l = some (.lst (ld.map V.int)) ∧ k < ld.length ∧ ld.length ≤ 1000 ∧ ∀ p H', Same H H' → H p = none → H' p = some (.lst ((putL ld k m).map V.int)) → Q (.ref p) H'
theorem ok_law_put : FnOk P w K mg base CX0 1 T.f_law_put T.fd_law_put ["_law_load", "_law_at", "_law_more"] spPut := by
  refine T.F_law_put.ok scPut (fun vs H Q E h => ?_) (fun cdv A outer s H vs Q E hr h => ?_)
  · obtain ⟨l, k, m, ld, rfl, _⟩ := h
    rfl
  · obtain ⟨l, k, m, ld, rfl, hl, hk, hle, q⟩ := h
    refine ⟨_,
      (pss_one (ps_ret (pe_op op_cat (pe_op op_cat (pe_slice sl_list (pv 0) po_none (po_some (pv 1))) (pe_lst (pa_cons (pe_op op_add (pe_ix ix_list (pv 0) (pv 1) (fun _ _ => rfl)) (pv 2)) pa_nil))) (pe_slice sl_list (pv 0) (po_some (pe_op op_add (pv 1) pe_int)) po_none))))
      , ?_⟩
    walk_at "s"
    refine ⟨l, _, rfl, SqL.of hl, fun l1 hl1 => ?_⟩
    rw [cut_to (t := k) (by rw [List.length_map]; omega)]
    have s1 := same_upd (o := .lst ((ld.map V.int).take k)) hl1
    have el1 : (upd H l1 (.lst ((ld.map V.int).take k))) l1 = some (.lst ((ld.map V.int).take k)) := upd_same
    generalize upd H l1 (.lst ((ld.map V.int).take k)) = H1 at s1 el1 ⊢
    walk_at "s"
    refine i_ixLe k (SqL.of (s1 _ _ hl)) rfl (gD_v hk) ?_
    walk_at "s"
    intro l2 hl2
    refine ⟨l1, l2, _, _, rfl, rfl, upd_at hl2 el1, upd_same, le_line (by rw [List.length_take, List.length_map]; show _ + 1 ≤ _; omega), fun l3 hl3 => ?_⟩
    have s3 := s1.trans ((same_upd (o := .lst [.int (gD ld k + m)]) hl2).trans (same_upd (o := .lst ((ld.map V.int).take k ++ [.int (gD ld k + m)])) hl3))
    have el3 : (upd (upd H1 l2 (.lst [.int (gD ld k + m)])) l3 (.lst ((ld.map V.int).take k ++ [.int (gD ld k + m)]))) l3 = some (.lst ((ld.map V.int).take k ++ [.int (gD ld k + m)])) := upd_same
    generalize upd (upd H1 l2 (.lst [.int (gD ld k + m)])) l3 (.lst ((ld.map V.int).take k ++ [.int (gD ld k + m)])) = H3 at s3 el3 ⊢
    walk_at "s"
    refine ⟨l, _, rfl, SqL.of (s3 _ _ hl), fun l4 hl4 => ?_⟩
    rw [show cutV (ld.map V.int) (some ((k : Int) + 1)) none = (ld.map V.int).drop (k + 1) from cut_from (t := k + 1) (by rw [List.length_map]; omega)]
    refine ⟨l3, l4, _, _, rfl, rfl, upd_at hl4 el3, upd_same, le_line (by simp only [List.length_append, List.length_take, List.length_map, List.length_drop, List.length_cons, List.length_nil]; omega), fun l5 hl5 => ?_⟩
    have s4 := s3.trans (same_upd (o := .lst ((ld.map V.int).drop (k + 1))) hl4)
    refine q l5 _ (s4.trans (same_upd hl5)) (s4.free hl5) ?_
    rw [upd_same, ← putL_app hk, List.map_append, List.map_append, List.map_take, List.map_drop]
    rfl
end
set_option maxHeartbeats 8000000
local macro_rules | `(tactic| walk_at "c") => `(tactic| first | omega | decide | exact ⟨by omega, by omega⟩ | exact ⟨by decide, by decide⟩ | exact .inl ⟨by omega, by omega⟩ | exact .inr ⟨by omega, by omega⟩ | exact ⟨by omega, by omega, by omega⟩ | exact ⟨by decide, by decide, by decide⟩ | exact le_line (Nat.le_of_ble_eq_true rfl))
local macro_rules | `(tactic| walk_at "a") => `(tactic| with_reducible (first | refine i_seq ?_ | refine i_asg ?_ | refine i_cons ?_ | refine i_c ?_ | refine i_nil ?_ | refine i_op ?_ | refine i_call ?_ | refine i_cb ?_ | refine i_name ?_ | refine i_next ?_ | refine i_ret ?_ | refine i_drop ?_ | refine i_if ?_ | refine i_test ?_ | refine i_and ?_ | refine i_or ?_ | refine i_not ?_ | refine i_ite ?_ | refine i_lst ?_ | refine i_tup ?_ | refine i_bm ?_ | refine i_un ?_ | refine i_par ?_ | refine i_gsub ?_ | refine i_chain ?_ | refine i_sl ?_ | refine i_nopart ?_ | refine i_part ?_ | refine i_m1 ?_ | refine i_m0 ?_ | refine i_lc ?_ | refine i_iList ?_ | refine i_iTup ?_ | refine i_iStr ?_ | refine i_r1 ?_ | refine i_set ?_ | refine i_callk ?_ | refine i_callN ?_ | refine i_ckw ?_ | refine i_revL ?_ | refine i_tB ?_ | refine i_fld ?_ | refine i_sfld ?_ | refine i_make ?_ | refine i_makeN ?_ | refine i_meth ?_ | refine i_andV ?_ | refine i_orV ?_ | refine i_notV ?_ | refine iteT ?_ | refine iteF ?_ | refine i_yes ?_))
local macro_rules | `(tactic| walk_at "s") => `(tactic| repeat (first | walk_at "a" | refine i_var rfl ?_ | refine i_aug rfl ?_ | refine And.intro ⟨_, rfl⟩ ?_ | refine ⟨_, rfl, ?_⟩ | refine ⟨_, _, rfl, rfl, ?_⟩ | refine ⟨_, _, rfl, ?_⟩ | refine ⟨rfl, ?_⟩ | refine And.intro (by walk_at "c") ?_))
section
variable {P : Program} {w : World} {K : PySem.W.Frag} {mg : Str → Option Value} {base : Heap} (T : Ev K mg)
/-- a bridge and a load, as the mending needs them -/
structure Ld (rows : List (Str × Int)) (spans ld : List Int) : Prop where
  r1 : 1 ≤ rows.length
  r10 : rows.length ≤ 10
  sl : spans.length = rows.length + 1
  ll : ld.length = rows.length + 1
  sp : ∀ j, j < spans.length → 0 ≤ gD spans j
  br : ∀ j, j < rows.length → 0 ≤ brs rows j
  nn : ∀ j, 0 ≤ gD ld j
theorem Ld.put {rows : List (Str × Int)} {spans ld : List Int} (h : Ld rows spans ld) {k : Nat} {m : Int} (n : ∀ j, 0 ≤ gD (putL ld k m) j) : Ld rows spans (putL ld k m) := ⟨h.r1, h.r10, h.sl, by rw [putL_len]; exact h.ll, h.sp, h.br, n⟩
def spMended : Sp := fun vs H Q _ => ∃ (tp c p bl sl l : Addr) (rows : List (Str × Int)) (spans ld : List Int) (n : Nat), vs = [.ref tp, .ref p, .ref l] ∧ n < 900000 ∧ Tape H tp c n ∧ BrAt T.CBoat T.CBridge H p bl sl rows spans ∧ bl ≠ tp ∧ sl ≠ tp ∧ H l = some (.lst (ld.map V.int)) ∧ l ≠ tp ∧ Ld rows spans ld ∧
  ∀ l' ld' H', H' l' = some (.lst (ld'.map V.int)) → l' ≠ tp → Ld rows spans ld' → Brn rows spans ld' → Tape H' tp c (n + 100) → Keep tp H H' → Q (.ref l') H'
theorem ok_law_mended : FnOk P w K mg base CX0 9 T.f_law_mended T.fd_law_mended ["_law_tape_here", "_law_bridge", "_law_load"] (spMended T) := by
  refine T.F_law_mended.ok scMended (fun vs H Q E h => ?_) (fun cdv A outer s H vs Q E hr h => ?_)
  · obtain ⟨tp, c, p, bl, sl, l, rows, spans, ld, n, rfl, _⟩ := h
    rfl
  · obtain ⟨tp, c, p, bl, sl, l, rows, spans, ld, n, rfl, hn, hT, hb, nbl, nsl, hl, nl, hld, q⟩ := h
    refine ⟨_,
      (pss_cons (ps_for PassesOwn.never rfl (pi_range1 (by rfl) T.mrange (pa_cons (pe_op op_add (pe_op op_mul pe_int (pe_callB call_len_seq (by rfl) T.mlen PySem.boot_len (pa_cons (pv 2) pa_nil))) pe_int) pa_nil)) (pg_name (i := 3) scMended.nd rfl (.inl rfl))
      (pss_cons (ps_set (i := 4) scMended.nd rfl (.inl rfl) (pe_call (ok_law_fault_told T) (hr.mono (by decide)) (by rfl) T.g_law_fault_told T.F_law_fault_told.kp T.b_law_fault_told .nil pass0 (pa_cons (pv 1) (pa_cons (pv 2) pa_nil))))
      (pss_cons (ps_if (pt_cmpR op_isN (pv 4) pe_non (nomark _))
      (pss_one (ps_ret (pv 2)))
      pss_nil)
      (pss_cons (ps_asg (pv 4) (pg_tup rfl (pgs_cons (pg_name (i := 5) scMended.nd rfl (.inl rfl)) (pgs_cons (pg_name (i := 6) scMended.nd rfl (.inl rfl)) (pgs_cons (pg_name (i := 7) scMended.nd rfl (.inl rfl)) pgs_nil)))))
      (pss_cons (ps_set (i := 8) scMended.nd rfl (.inl rfl) (pv 6))
      (pss_cut (ps_set (i := 9) scMended.nd rfl (.inl rfl) (pe_and (pe_cmpR op_eq (pv 5) pe_str (nomark _)) (pe_and (pe_cmpR op_eq (pe_call (ok_law_draw T) (hr.mono (by decide)) (by rfl) T.g_law_draw T.F_law_draw.kp T.b_law_draw .nil pass0 (pa_cons (pv 0) (pa_cons pe_int pa_nil))) pe_int (nomark _)) (pe_one (pe_cmpR op_ge (pe_ix ix_list (pv 2) (pe_op op_add (pv 6) pe_int) (fun _ _ => rfl)) (pv 7) (nomark _))))))
      (pss_cut (ps_if (PW.pt (pw_or (pt_val (pv 9)) (pw_or1 (PW.pt (pw_and (pt_cmpR op_eq (pv 5) pe_str (nomark _)) (pw_and1 (pt_cmpR op_lt (pe_ix ix_list (pv 2) (pv 6) (fun _ _ => rfl)) (pv 7) (nomark _))))))))
      (pss_one (ps_set (i := 8) scMended.nd rfl (.inl rfl) (pe_op op_add (pv 6) pe_int)))
      pss_nil)
      (pss_one (ps_set (i := 2) scMended.nd rfl (.inl rfl) (pe_call (ok_law_put T) (hr.mono (by decide)) (by rfl) T.g_law_put T.F_law_put.kp T.b_law_put .nil pass0 (pa_cons (pv 2) (pa_cons (pv 8) (pa_cons (pe_un un_neg (pe_callB (call_min2 rfl) (by rfl) T.mmin (by decide +kernel) (pa_cons (pv 7) (pa_cons (pe_ix ix_list (pv 2) (pv 8) (fun _ _ => rfl)) pa_nil)))) pa_nil)))))))))))))
      (pss_one (ps_ret pe_non)))
      , ?_⟩
    have hll := hld.ll
    have hsl := hld.sl
    have hr10 := hld.r10
    obtain ⟨ty, ety⟩ := hT.tape
    walk_at "s"
    refine ⟨l, _, rfl, .inl (SqL.of hl), ?_⟩
    walk_at "s"
    rw [List.length_map, hll]
    refine ⟨by omega, ?_⟩
    refine for_range (lo := 0) (n := (4 * ((rows.length + 1 : Nat) : Int) + 4).toNat) (fun i σ H' => ∃ (lc : Addr) (ldc : List Int) (w3 w4 w5 w6 w7 w8 w9 : Option V), σ = [some (.ref tp), some (.ref p), some (.ref lc), w3, w4, w5, w6, w7, w8, w9] ∧ H' lc = some (.lst (ldc.map V.int)) ∧ lc ≠ tp ∧ Ld rows spans ldc ∧ mu rows spans ldc + i ≤ spans.length + 2 * rows.length ∧ Tape H' tp c (n + i) ∧ Keep tp H H')
      ⟨l, ld, _, _, _, _, _, _, _, rfl, hl, nl, hld, mu_le rows spans ld, hT, Keep.refl⟩ ?_ ?_
    · rintro i σ H2 hi ⟨lc, ldc, w3, w4, w5, w6, w7, w8, w9, rfl, hlc, nlc, hldc, hmu, T2, k2⟩
      have hb2 := hb.keep ety k2 nbl nsl
      have hi48 : i < 48 := by omega
      have hll2 := hldc.ll
      walk_at "s"
      refine ⟨p, bl, sl, lc, rows, spans, ldc, rfl, hb2, hr10, hlc, hll2, hsl, fun H3 s3 ft => ?_, fun b kf o t H3 s3 ft ht0 ht => ?_⟩
      · walk_at "s"
        exact q lc ldc H3 (s3 _ _ hlc) nlc hldc (brn_iff.mp ft) ((T2.same s3).mono (by omega)) (k2.same s3)
      · walk_at "s"
        have hlc3 := s3 _ _ hlc
        have hboat : b = false → kf < rows.length := fun e => by
          subst e
          cases ft with
          | boat _ _ h2 _ _ => exact h2
        have T3 := T2.same s3
        have k3 := k2.same s3
        refine ⟨t, _, rfl, SqT.of ht, rfl, ?_⟩
        walk_at "s"
        refine ⟨fun σ H' => ∃ ot : Bool, σ = [some (.ref tp), some (.ref p), some (.ref lc), some (.int (0 + (i : Int))), some (.ref t), some (.str (partS b)), some (.int (kf : Int)), some (.int o), some (.int (kf : Int)), some (.bl ot)] ∧ (ot = true → b = false ∧ o ≤ gD ldc (kf + 1)) ∧ H' lc = some (.lst (ldc.map V.int)) ∧ Tape H' tp c (n + i + 1) ∧ Keep tp H H', ?_, ?_⟩
        · cases b with
          | true =>
            walk_at "s"
            exact ⟨fun z => (by cases z), hlc3, T3.mono (by omega), k3⟩
          | false =>
            walk_at "s"
            refine dr 2 T3 (by omega) (by omega) (by omega) fun d H4 d0 d1 T4 k4 => ?_
            have hlc4 := k4 _ _ nlc hlc3
            have hkf := hboat rfl
            walk_at "s"
            refine ite2 (fun cd => ?_) (fun cd => ?_)
            · walk_at "s"
              refine i_ixLe (kf + 1) (SqL.of hlc4) (by omega) (gD_v (by omega)) ?_
              walk_at "s"
              exact ⟨fun z => ⟨rfl, by have := of_decide_eq_true z; omega⟩, hlc4, T4, k3.trans k4⟩
            · walk_at "s"
              exact ⟨fun z => (by cases z), hlc4, T4, k3.trans k4⟩
        rintro σ H4 ⟨ot, rfl, hot, hlc4, T4, k4⟩
        refine ⟨fun σ H' => ∃ k : Nat, σ = [some (.ref tp), some (.ref p), some (.ref lc), some (.int (0 + (i : Int))), some (.ref t), some (.str (partS b)), some (.int (kf : Int)), some (.int o), some (.int (k : Int)), some (.bl ot)] ∧ Chosen ldc b kf o k ∧ H' = H4, ?_, ?_⟩
        · cases ot with
          | true =>
            obtain ⟨rfl, ho⟩ := hot rfl
            walk_at "s"
            exact ⟨.inr ⟨rfl, .inr ⟨rfl, .inl ho⟩⟩, rfl⟩
          | false =>
            cases b with
            | true =>
              walk_at "s"
              exact ⟨.inl ⟨rfl, rfl⟩, rfl⟩
            | false =>
              have hkf := hboat rfl
              walk_at "s"
              refine i_ixLe kf (SqL.of hlc4) rfl (gD_v (by omega)) ?_
              walk_at "s"
              refine ite2 (fun cd => ?_) (fun cd => ?_)
              · walk_at "s"
                exact ⟨.inr ⟨rfl, .inr ⟨rfl, .inr (of_decide_eq_true cd)⟩⟩, rfl⟩
              · have : ¬ gD ldc kf < o := fun z => cd (decide_eq_true z)
                exact ⟨kf, rfl, .inr ⟨rfl, .inl ⟨rfl, by omega⟩⟩, rfl⟩
        rintro σ H5 ⟨k, rfl, hch, rfl⟩
        obtain ⟨hk, ho, hmu2⟩ := mended_step ft hch hldc.nn hll2 hsl hldc.sp hldc.br
        obtain ⟨_, hnn2⟩ := took_less hk hldc.nn ho
        walk_at "s"
        refine i_ixLe k (SqL.of hlc4) rfl (gD_v hk) ?_
        walk_at "s"
        refine ⟨lc, k, _, ldc, rfl, hlc4, hk, by omega, fun p2 H6 s6 hp20 hp2 => ?_⟩
        exact ⟨p2, tookL ldc k o, _, _, _, _, _, _, _, rfl, hp2, T4.ne hp20, hldc.put hnn2, by omega, (T4.same s6).mono (by omega), k4.same s6⟩
    · rintro σ H2 ⟨lc, ldc, w3, w4, w5, w6, w7, w8, w9, rfl, hlc, nlc, hldc, hmu, T2, k2⟩
      exfalso
      omega
end
set_option maxHeartbeats 8000000
local macro_rules | `(tactic| walk_at "c") => `(tactic| first | omega | decide | exact ⟨by omega, by omega⟩ | exact ⟨by decide, by decide⟩ | exact .inl ⟨by omega, by omega⟩ | exact .inr ⟨by omega, by omega⟩ | exact ⟨by omega, by omega, by omega⟩ | exact ⟨by decide, by decide, by decide⟩ | exact le_line (Nat.le_of_ble_eq_true rfl))
local macro_rules | `(tactic| walk_at "a") => `(tactic| with_reducible (first | refine i_seq ?_ | refine i_asg ?_ | refine i_cons ?_ | refine i_c ?_ | refine i_nil ?_ | refine i_op ?_ | refine i_call ?_ | refine i_cb ?_ | refine i_name ?_ | refine i_next ?_ | refine i_ret ?_ | refine i_drop ?_ | refine i_if ?_ | refine i_test ?_ | refine i_and ?_ | refine i_or ?_ | refine i_not ?_ | refine i_ite ?_ | refine i_lst ?_ | refine i_tup ?_ | refine i_bm ?_ | refine i_un ?_ | refine i_par ?_ | refine i_gsub ?_ | refine i_chain ?_ | refine i_sl ?_ | refine i_nopart ?_ | refine i_part ?_ | refine i_m1 ?_ | refine i_m0 ?_ | refine i_lc ?_ | refine i_iList ?_ | refine i_iTup ?_ | refine i_iStr ?_ | refine i_r1 ?_ | refine i_set ?_ | refine i_callk ?_ | refine i_callN ?_ | refine i_ckw ?_ | refine i_revL ?_ | refine i_tB ?_ | refine i_fld ?_ | refine i_sfld ?_ | refine i_make ?_ | refine i_makeN ?_ | refine i_meth ?_ | refine i_andV ?_ | refine i_orV ?_ | refine i_notV ?_ | refine iteT ?_ | refine iteF ?_ | refine i_yes ?_))
local macro_rules | `(tactic| walk_at "s") => `(tactic| repeat (first | walk_at "a" | refine i_var rfl ?_ | refine i_aug rfl ?_ | refine And.intro ⟨_, rfl⟩ ?_ | refine ⟨_, rfl, ?_⟩ | refine ⟨_, _, rfl, rfl, ?_⟩ | refine ⟨_, _, rfl, ?_⟩ | refine ⟨rfl, ?_⟩ | refine And.intro (by walk_at "c") ?_))
section
variable {P : Program} {w : World} {K : PySem.W.Frag} {mg : Str → Option Value} {base : Heap} (T : Ev K mg)
theorem rgV_at {m j : Nat} {x : V} (h : (rgV 0 (m : Int))[j]? = some x) : x = .int (j : Int) ∧ j < m := by
  unfold rgV at h
  rw [List.getElem?_map] at h
  cases e : (List.range (((m : Int) - 0).toNat))[j]? with
  | none => rw [e] at h; cases h
  | some y =>
    rw [e] at h
    obtain ⟨h1, h2⟩ := List.getElem?_eq_some_iff.mp e
    rw [List.length_range] at h1
    rw [List.getElem_range] at h2
    subst h2
    cases h
    exact ⟨congrArg V.int (by omega), by omega⟩
theorem rgV_mem {m : Nat} {x : V} (h : x ∈ rgV 0 (m : Int)) : ∃ j : Nat, x = .int (j : Int) ∧ j < m := by
  obtain ⟨j, hj⟩ := List.getElem?_of_mem h
  exact ⟨j, rgV_at hj⟩
theorem room_nn {rows : List (Str × Int)} {spans ld : List Int} (h : Brn rows spans ld) (hsl : spans.length = rows.length + 1) {k : Nat} (hk : k ≤ rows.length) {m : Int} (hm : RoomIs rows spans ld k m) : 0 ≤ m := brn_room h hsl hk m hm.1
def spFilled : Sp := fun vs H Q _ => ∃ (tp c p bl sl l : Addr) (rows : List (Str × Int)) (spans ld : List Int) (n : Nat), vs = [.ref tp, .ref p, .ref l] ∧ n < 900000 ∧ Tape H tp c n ∧ BrAt T.CBoat T.CBridge H p bl sl rows spans ∧ bl ≠ tp ∧ sl ≠ tp ∧ H l = some (.lst (ld.map V.int)) ∧ l ≠ tp ∧ Ld rows spans ld ∧ Brn rows spans ld ∧
  ∀ l' ld' H', H' l' = some (.lst (ld'.map V.int)) → l' ≠ tp → Ld rows spans ld' → Brn rows spans ld' → (∀ k, k ≤ rows.length → RoomIs rows spans ld' k 0) → Tape H' tp c (n + 100) → Keep tp H H' → Q (.ref l') H'
theorem ok_law_filled : FnOk P w K mg base CX0 9 T.f_law_filled T.fd_law_filled ["_law_tape_here", "_law_bridge", "_law_load"] (spFilled T) := by
  refine T.F_law_filled.ok scFilled (fun vs H Q E h => ?_) (fun cdv A outer s H vs Q E hr h => ?_)
  · obtain ⟨tp, c, p, bl, sl, l, rows, spans, ld, n, rfl, _⟩ := h
    rfl
  · obtain ⟨tp, c, p, bl, sl, l, rows, spans, ld, n, rfl, hn, hT, hb, nbl, nsl, hl, nl, hld, hbr, q⟩ := h
    refine ⟨_,
      (pss_cons (ps_set (i := 3) scFilled.nd rfl (.inl rfl) (pe_listRg rfl (by rfl) T.mlist (prg_1 (by rfl) T.mrange (pe_callB call_len_seq (by rfl) T.mlen PySem.boot_len (pa_cons (pv 2) pa_nil)))))
      (pss_cons (ps_set (i := 4) scFilled.nd rfl (.inl rfl) (pe_call (ok_law_draw T) (hr.mono (by decide)) (by rfl) T.g_law_draw T.F_law_draw.kp T.b_law_draw .nil pass0 (pa_cons (pv 0) (pa_cons (pe_callB call_len_seq (by rfl) T.mlen PySem.boot_len (pa_cons (pv 3) pa_nil)) pa_nil))))
      (pss_cons (ps_for PassesOwn.never rfl (pi_list (pe_op op_cat (pe_op op_cat (pe_slice sl_list (pv 3) (po_some (pv 4)) po_none) (pe_slice sl_list (pv 3) po_none (po_some (pv 4)))) (pv 3))) (pg_name (i := 5) scFilled.nd rfl (.inl rfl))
      (pss_cons (ps_set (i := 6) scFilled.nd rfl (.inl rfl) (pe_callSD (okroom_at T) (hr.mono (by decide)) (by rfl) T.groom_at T.Froom_at.kp T.broom_at .nil (fun _ => passNo rfl rfl) (by exact (pa_cons (pv 1) (pa_cons (pv 2) (pa_cons (pv 5) pa_nil))))))
      (pss_cons (ps_if (PW.pt (pw_or (pt_cmpR op_lt (pv 6) pe_int (nomark _)) (pw_or1 (pt_not (pt_val (pe_call (okis_borne T) (hr.mono (by decide)) (by rfl) T.gis_borne T.Fis_borne.kp T.bis_borne .nil pass0 (pa_cons (pv 1) (pa_cons (pe_call (ok_law_put T) (hr.mono (by decide)) (by rfl) T.g_law_put T.F_law_put.kp T.b_law_put .nil pass0 (pa_cons (pv 2) (pa_cons (pv 5) (pa_cons (pv 6) pa_nil)))) pa_nil))))))))
      (pss_one (ps_ret pe_non))
      pss_nil)
      (pss_one (ps_set (i := 2) scFilled.nd rfl (.inl rfl) (pe_call (ok_law_put T) (hr.mono (by decide)) (by rfl) T.g_law_put T.F_law_put.kp T.b_law_put .nil pass0 (pa_cons (pv 2) (pa_cons (pv 5) (pa_cons (pe_call (ok_law_pick T) (hr.mono (by decide)) (by rfl) T.g_law_pick T.F_law_pick.kp T.b_law_pick .nil pass0 (pa_cons (pv 0) (pa_cons (pe_lst (pa_cons (pv 6) (pa_cons (pv 6) (pa_cons (pe_op op_fdivN (pv 6) pe_int) pa_nil)))) pa_nil))) pa_nil)))))))))
      (pss_cons (ps_for PassesOwn.never rfl (pi_list (pv 3)) (pg_name (i := 5) scFilled.nd rfl (.inl rfl))
      (pss_one (ps_set (i := 2) scFilled.nd rfl (.inl rfl) (pe_call (ok_law_put T) (hr.mono (by decide)) (by rfl) T.g_law_put T.F_law_put.kp T.b_law_put .nil pass0 (pa_cons (pv 2) (pa_cons (pv 5) (pa_cons (pe_callSD (okroom_at T) (hr.mono (by decide)) (by rfl) T.groom_at T.Froom_at.kp T.broom_at .nil (fun _ => passNo rfl rfl) (by exact (pa_cons (pv 1) (pa_cons (pv 2) (pa_cons (pv 5) pa_nil))))) pa_nil)))))))
      (pss_one (ps_ret (pv 2)))))))
      , ?_⟩
    have hll := hld.ll
    have hsl := hld.sl
    have hr10 := hld.r10
    have hr1 := hld.r1
    obtain ⟨ty, ety⟩ := hT.tape
    walk_at "s"
    refine ⟨l, _, rfl, .inl (SqL.of hl), ?_⟩
    walk_at "s"
    rw [List.length_map, hll]
    refine ⟨RgOk.of_le (by omega) (by omega) (by omega) (by omega), fun lr hlr => ?_⟩
    have nlr := hT.ne hlr
    have s1 := same_upd (o := .lst (rgV 0 ((rows.length + 1 : Nat) : Int))) hlr
    have elr : (upd H lr (.lst (rgV 0 ((rows.length + 1 : Nat) : Int)))) lr = some (.lst (rgV 0 ((rows.length + 1 : Nat) : Int))) := upd_same
    have T1 := hT.new (o := .lst (rgV 0 ((rows.length + 1 : Nat) : Int))) hlr
    generalize upd H lr (.lst (rgV 0 ((rows.length + 1 : Nat) : Int))) = H1 at s1 elr T1 ⊢
    have hrl : (rgV 0 ((rows.length + 1 : Nat) : Int)).length = rows.length + 1 := by rw [rgV_length]; omega
    walk_at "s"
    refine ⟨lr, _, rfl, .inl (SqL.of elr), ?_⟩
    rw [hrl]
    walk_at "s"
    refine dr ((rows.length + 1 : Nat) : Int) T1 (by omega) (by omega) (by omega) fun d H2 d0 d1 T2 k2 => ?_
    obtain ⟨dn, rfl⟩ := Int.eq_ofNat_of_zero_le d0
    have elr2 := k2 _ _ nlr elr
    walk_at "s"
    refine ⟨lr, _, rfl, SqL.of elr2, fun l1 hl1 => ?_⟩
    rw [show cutV (rgV 0 ((rows.length + 1 : Nat) : Int)) (some ((dn : Nat) : Int)) none = (rgV 0 ((rows.length + 1 : Nat) : Int)).drop dn from cut_from (by omega)]
    have s3 := same_upd (o := .lst ((rgV 0 ((rows.length + 1 : Nat) : Int)).drop dn)) hl1
    have el1 : (upd H2 l1 (.lst ((rgV 0 ((rows.length + 1 : Nat) : Int)).drop dn))) l1 = some (.lst ((rgV 0 ((rows.length + 1 : Nat) : Int)).drop dn)) := upd_same
    generalize upd H2 l1 (.lst ((rgV 0 ((rows.length + 1 : Nat) : Int)).drop dn)) = H3 at s3 el1 ⊢
    walk_at "s"
    refine ⟨lr, _, rfl, SqL.of (s3 _ _ elr2), fun l2 hl2 => ?_⟩
    rw [show cutV (rgV 0 ((rows.length + 1 : Nat) : Int)) none (some ((dn : Nat) : Int)) = (rgV 0 ((rows.length + 1 : Nat) : Int)).take dn from cut_to (by omega)]
    refine ⟨l1, l2, _, _, rfl, rfl, upd_at hl2 el1, upd_same, le_line (by rw [List.length_drop, List.length_take]; omega), fun l3 hl3 => ?_⟩
    have s4 := s3.trans ((same_upd (o := .lst ((rgV 0 ((rows.length + 1 : Nat) : Int)).take dn)) hl2).trans (same_upd (o := .lst ((rgV 0 ((rows.length + 1 : Nat) : Int)).drop dn ++ (rgV 0 ((rows.length + 1 : Nat) : Int)).take dn)) hl3))
    have el3 : (upd (upd H3 l2 (.lst ((rgV 0 ((rows.length + 1 : Nat) : Int)).take dn))) l3 (.lst ((rgV 0 ((rows.length + 1 : Nat) : Int)).drop dn ++ (rgV 0 ((rows.length + 1 : Nat) : Int)).take dn))) l3 = some (.lst ((rgV 0 ((rows.length + 1 : Nat) : Int)).drop dn ++ (rgV 0 ((rows.length + 1 : Nat) : Int)).take dn)) := upd_same
    generalize upd (upd H3 l2 (.lst ((rgV 0 ((rows.length + 1 : Nat) : Int)).take dn))) l3 (.lst ((rgV 0 ((rows.length + 1 : Nat) : Int)).drop dn ++ (rgV 0 ((rows.length + 1 : Nat) : Int)).take dn)) = H4 at s4 el3 ⊢
    walk_at "s"
    have hlen3 : ((rgV 0 ((rows.length + 1 : Nat) : Int)).drop dn ++ (rgV 0 ((rows.length + 1 : Nat) : Int)).take dn).length = rows.length + 1 := by
      rw [List.length_append, List.length_drop, List.length_take]; omega
    refine ⟨l3, lr, _, _, rfl, rfl, el3, s4 _ _ elr2, le_line (by rw [hlen3, hrl]; omega), fun l4 hl4 => ?_⟩
    have hall : ∀ x ∈ ((rgV 0 ((rows.length + 1 : Nat) : Int)).drop dn ++ (rgV 0 ((rows.length + 1 : Nat) : Int)).take dn) ++ rgV 0 ((rows.length + 1 : Nat) : Int), ∃ j : Nat, x = .int (j : Int) ∧ j < rows.length + 1 := fun x hx => by
      rcases List.mem_append.mp hx with hx | hx
      · rcases List.mem_append.mp hx with hx | hx
        · exact rgV_mem (List.mem_of_mem_drop hx)
        · exact rgV_mem (List.mem_of_mem_take hx)
      · exact rgV_mem hx
    have hl22 : (((rgV 0 ((rows.length + 1 : Nat) : Int)).drop dn ++ (rgV 0 ((rows.length + 1 : Nat) : Int)).take dn) ++ rgV 0 ((rows.length + 1 : Nat) : Int)).length ≤ 22 := by rw [List.length_append, hlen3, hrl]; omega
    generalize ((rgV 0 ((rows.length + 1 : Nat) : Int)).drop dn ++ (rgV 0 ((rows.length + 1 : Nat) : Int)).take dn) ++ rgV 0 ((rows.length + 1 : Nat) : Int) = xa at hall hl22 ⊢
    have T4 := T2.same s4
    have nl4 := T4.ne hl4
    have s5 := same_upd (o := .lst xa) hl4
    have el4 : (upd H4 l4 (.lst xa)) l4 = some (.lst xa) := upd_same
    have T5 := T4.new (o := .lst xa) hl4
    have k5 : Keep tp H (upd H4 l4 (.lst xa)) := (((Keep.refl.same s1).trans k2).same s4).same s5
    have elr5 := s5 _ _ (s4 _ _ elr2)
    generalize upd H4 l4 (.lst xa) = H5 at el4 T5 k5 elr5 ⊢
    walk_at "s"
    refine ⟨⟨_, SqL.of el4⟩, ?_⟩
    refine for_list (K := K) (a := l4) (xs := xa) (fun i σ H' => ∃ (lc : Addr) (ldc : List Int) (w5 w6 : Option V), σ = [some (.ref tp), some (.ref p), some (.ref lc), some (.ref lr), some (.int ((dn : Nat) : Int)), w5, w6] ∧ H' lc = some (.lst (ldc.map V.int)) ∧ lc ≠ tp ∧ Ld rows spans ldc ∧ Brn rows spans ldc ∧ Tape H' tp c (n + 1 + i) ∧ Keep tp H5 H')
      ⟨l, ld, _, _, rfl, k5 _ _ nl hl, nl, hld, hbr, T5, Keep.refl⟩ (fun i σ H' _ ⟨_, _, _, _, _, _, _, _, _, _, z⟩ => SqL.of (z _ _ nl4 el4)) ?_ ?_
    · rintro i y σ H6 hy ⟨lc, ldc, w5, w6, rfl, hlc, nlc, hldc, hbrc, T6, k6⟩
      have hi22 : i < 22 := Nat.lt_of_lt_of_le (List.getElem?_eq_some_iff.mp hy).1 hl22
      obtain ⟨k, rfl, hk⟩ := hall y (List.mem_of_getElem? hy)
      have hll2 := hldc.ll
      have hb6 := hb.keep ety (k5.trans k6) nbl nsl
      walk_at "s"
      refine ⟨p, bl, sl, lc, .int (k : Nat), rows, spans, ldc, rfl, hb6, hr1, hr10, hlc, hll2, hsl, .inl ⟨k, rfl, by omega, fun m H7 s7 hm => ?_⟩⟩
      have hm0 := room_nn hbrc hsl (by omega) hm
      walk_at "s"
      rw [decide_eq_false (show ¬ m < 0 by omega)]
      walk_at "s"
      have hlc7 := s7 _ _ hlc
      refine ⟨lc, k, m, ldc, rfl, hlc7, by omega, by omega, fun p1 H8 s8 hp10 hp1 => ?_⟩
      walk_at "s"
      have s68 := s7.trans s8
      refine ⟨p, bl, sl, p1, rows, spans, putL ldc k m, rfl, hb6.same s68, hr10, hp1, by rw [putL_len]; exact hll2, hsl, fun x H9 s9 hx => ?_⟩
      rw [brn_fault (room_put hbrc hll2 hsl (by omega) hm (Int.le_refl _)) hx]
      refine ⟨_, rfl, ?_⟩
      refine ifF rfl ?_
      have s69 := s68.trans s9
      have T9 := T6.same s69
      have hlc9 := s69 _ _ hlc
      walk_at "s"
      intro l6 hl6
      walk_at "s"
      refine pkn T9 (by exact Nat.le_of_ble_eq_true rfl) (by exact Nat.le_of_ble_eq_true rfl) (by omega) (fun x2 H10 hx2 T10 k10 => ?_) l6 hl6
      have hx3 : ∃ z : Int, x2 = .int z ∧ 0 ≤ z ∧ z ≤ m := by
        simp only [List.mem_cons, List.not_mem_nil, or_false] at hx2
        rcases hx2 with rfl | rfl | rfl
        · exact ⟨_, rfl, hm0, Int.le_refl _⟩
        · exact ⟨_, rfl, hm0, Int.le_refl _⟩
        · refine ⟨_, rfl, ?_, ?_⟩ <;> (show _; rw [Int.fdiv_eq_ediv_of_nonneg _ (by decide)]; omega)
      obtain ⟨z, rfl, z0, z1⟩ := hx3
      have hlc10 := k10 _ _ nlc hlc9
      walk_at "s"
      refine ⟨lc, k, z, ldc, rfl, hlc10, by omega, by omega, fun p2 H11 s11 hp20 hp2 => ?_⟩
      exact ⟨p2, putL ldc k z, _, _, rfl, hp2, T10.ne hp20, hldc.put (put_nn (by omega) hldc.nn z0), room_put hbrc hll2 hsl (by omega) hm z1, (T10.same s11).mono (by omega), (((k6.same s69).trans k10).same s11)⟩
    · rintro σ H6 ⟨lc, ldc, w5, w6, rfl, hlc, nlc, hldc, hbrc, T6, k6⟩
      have elr6 := k6 _ _ nlr elr5
      walk_at "s"
      refine ⟨⟨_, SqL.of elr6⟩, ?_⟩
      refine for_list (K := K) (a := lr) (xs := rgV 0 ((rows.length + 1 : Nat) : Int)) (fun i σ H' => ∃ (lc : Addr) (ldc : List Int) (w5 w6 : Option V), σ = [some (.ref tp), some (.ref p), some (.ref lc), some (.ref lr), some (.int ((dn : Nat) : Int)), w5, w6] ∧ H' lc = some (.lst (ldc.map V.int)) ∧ lc ≠ tp ∧ Ld rows spans ldc ∧ Brn rows spans ldc ∧ (∀ j, j < i → RoomIs rows spans ldc j 0) ∧ Same H6 H')
        ⟨lc, ldc, _, _, rfl, hlc, nlc, hldc, hbrc, fun j hj => absurd hj (Nat.not_lt_zero j), same_refl⟩ (fun i σ H' _ ⟨_, _, _, _, _, _, _, _, _, _, z⟩ => SqL.of (z _ _ elr6)) ?_ ?_
      · rintro i y σ H7 hy ⟨lc, ldc, w5, w6, rfl, hlc, nlc, hldc, hbrc, hz, s7⟩
        obtain ⟨rfl, hi⟩ := rgV_at hy
        have hll2 := hldc.ll
        have hb7 := (hb.keep ety (k5.trans k6) nbl nsl).same s7
        walk_at "s"
        refine ⟨p, bl, sl, lc, .int (i : Nat), rows, spans, ldc, rfl, hb7, hr1, hr10, hlc, hll2, hsl, .inl ⟨i, rfl, by omega, fun m H8 s8 hm => ?_⟩⟩
        have hm0 := room_nn hbrc hsl (by omega) hm
        have hb2 := room_put hbrc hll2 hsl (by omega) hm (Int.le_refl _)
        walk_at "s"
        refine ⟨lc, i, m, ldc, rfl, s8 _ _ hlc, by omega, by omega, fun p2 H9 s9 hp20 hp2 => ?_⟩
        refine ⟨p2, putL ldc i m, _, _, rfl, hp2, ((T6.same s7).same s8).ne hp20, hldc.put (put_nn (by omega) hldc.nn hm0), hb2, fun j hj => ?_, (s7.trans s8).trans s9⟩
        by_cases e : j = i
        · subst e
          exact room_full hll2 (by omega) hm
        · exact room_zero hb2 hsl (by omega) (hz j (by omega)) (put_more (by omega) hm0)
      · rintro σ H7 ⟨lc, ldc, w5, w6, rfl, hlc, nlc, hldc, hbrc, hz, s7⟩
        walk_at "s"
        exact q lc ldc H7 hlc nlc hldc hbrc (fun k hk => hz k (by omega)) ((T6.same s7).mono (by omega)) ((k5.trans k6).same s7)
end
def spLaw (K : PySem.W.Frag) : Sp := fun vs H Q _ => ∃ (a : Addr) (ns : List Int), vs = [.ref a] ∧ SqL K H a (ns.map V.int) ∧ ns.length ≤ 63 ∧ ∀ H', Q (.bl true) H'
set_option maxHeartbeats 8000000
local macro_rules | `(tactic| walk_at "c") => `(tactic| first | omega | decide | exact ⟨by omega, by omega⟩ | exact ⟨by decide, by decide⟩ | exact .inl ⟨by omega, by omega⟩ | exact .inr ⟨by omega, by omega⟩ | exact ⟨by omega, by omega, by omega⟩ | exact ⟨by decide, by decide, by decide⟩ | exact le_line (Nat.le_of_ble_eq_true rfl))
local macro_rules | `(tactic| walk_at "a") => `(tactic| with_reducible (first | refine i_seq ?_ | refine i_asg ?_ | refine i_cons ?_ | refine i_c ?_ | refine i_nil ?_ | refine i_op ?_ | refine i_call ?_ | refine i_cb ?_ | refine i_name ?_ | refine i_next ?_ | refine i_ret ?_ | refine i_drop ?_ | refine i_if ?_ | refine i_test ?_ | refine i_and ?_ | refine i_or ?_ | refine i_not ?_ | refine i_ite ?_ | refine i_lst ?_ | refine i_tup ?_ | refine i_bm ?_ | refine i_un ?_ | refine i_par ?_ | refine i_gsub ?_ | refine i_chain ?_ | refine i_sl ?_ | refine i_nopart ?_ | refine i_part ?_ | refine i_m1 ?_ | refine i_m0 ?_ | refine i_lc ?_ | refine i_iList ?_ | refine i_iTup ?_ | refine i_iStr ?_ | refine i_r1 ?_ | refine i_set ?_ | refine i_callk ?_ | refine i_callN ?_ | refine i_ckw ?_ | refine i_revL ?_ | refine i_tB ?_ | refine i_fld ?_ | refine i_sfld ?_ | refine i_make ?_ | refine i_makeN ?_ | refine i_meth ?_ | refine i_andV ?_ | refine i_orV ?_ | refine i_notV ?_ | refine iteT ?_ | refine iteF ?_ | refine i_yes ?_))
local macro_rules | `(tactic| walk_at "s") => `(tactic| repeat (first | walk_at "a" | refine i_var rfl ?_ | refine i_aug rfl ?_ | refine And.intro ⟨_, rfl⟩ ?_ | refine ⟨_, rfl, ?_⟩ | refine ⟨_, _, rfl, rfl, ?_⟩ | refine ⟨_, _, rfl, ?_⟩ | refine ⟨rfl, ?_⟩ | refine And.intro (by walk_at "c") ?_))
theorem if_top10 {n : Int} : ∃ top : Int, top ≤ 10 ∧ 3 ≤ top ∧ (if (if (10 : Int) < n then (10 : Int) else n) > 3 then (if (10 : Int) < n then (10 : Int) else n) else 3) = top := ⟨_, by split <;> split <;> omega, by split <;> split <;> omega, rfl⟩
section
variable {P : Program} {w : World} {K : PySem.W.Frag} {mg : Str → Option Value} {base : Heap} (T : Ev K mg)
theorem gD_in {l : List Int} {j : Nat} (h : j < l.length) : gD l j ∈ l := List.mem_of_getElem? (gD_at h)
theorem ok_law : FnOkG P w K mg base CX0 14 T.flaw T.fdlaw ["_law_script"] (spLaw K) := by
  refine okG T.Flaw scLaw (fun vs H Q E h => ?_) (fun cdv A outer s H vs Q E gd hr h => ?_)
  · obtain ⟨a, ns, rfl, _⟩ := h
    rfl
  · obtain ⟨a, ns, rfl, hS, hlen, q⟩ := h
    refine ⟨_,
      (pss_cons (ps_set (i := 1) scLaw.nd rfl (.inl rfl) (pe_call (ok_law_tape T) (hr.mono (by decide)) (by rfl) T.g_law_tape T.F_law_tape.kp T.b_law_tape .nil pass0 (pa_cons (pv 0) pa_nil)))
      (pss_cons (ps_for PassesOwn.never rfl (pi_range1 (by rfl) T.mrange (pa_cons (pe_callB (call_max2 rfl) (by rfl) T.mmax (by decide +kernel) (pa_cons pe_int (pa_cons (pe_callB (call_min2 rfl) (by rfl) T.mmin (by decide +kernel) (pa_cons (pe_callB call_len_seq (by rfl) T.mlen PySem.boot_len (pa_cons (pv 0) pa_nil)) (pa_cons pe_int pa_nil))) pa_nil))) pa_nil)) (pg_name (i := 2) scLaw.nd rfl (.inl rfl))
      (pss_cons (ps_set (i := 3) scLaw.nd rfl (.inl rfl) (pe_call (ok_law_drawn_parts T) (hr.mono (by decide)) (by rfl) T.g_law_drawn_parts T.F_law_drawn_parts.kp T.b_law_drawn_parts .nil pass0 (pa_cons (pv 1) pa_nil)))
      (pss_cons (ps_set (i := 4) scLaw.nd rfl (.inl rfl) (pe_call (ok_law_made T) (hr.mono (by decide)) (by rfl) T.g_law_made T.F_law_made.kp T.b_law_made .nil pass0 (pa_cons (pv 3) pa_nil)))
      (pss_cons (ps_set (i := 5) scLaw.nd rfl (.inl rfl) (pe_call (okread_bridge T) (hr.mono (by decide)) (by rfl) T.gread_bridge T.Fread_bridge.kp T.bread_bridge .nil pass0 (pa_cons (pe_callTy (call_strOwn (mt_Bridge___str__ T).at_ (mt_Bridge___str__ T).fn (okBridge___str__ T) T.bBridge___str__ (hr.mono (by decide)) pass0) (by rfl) T.mstr (by decide +kernel) (pa_cons (pv 4) pa_nil)) pa_nil)))
      (pss_cons (ps_set (i := 6) scLaw.nd rfl (.inl rfl) (pe_call (ok_law_mended T) (hr.mono (by decide)) (by rfl) T.g_law_mended T.F_law_mended.kp T.b_law_mended .nil pass0 (pa_cons (pv 1) (pa_cons (pv 4) (pa_cons (pe_call (ok_law_weights T) (hr.mono (by decide)) (by rfl) T.g_law_weights T.F_law_weights.kp T.b_law_weights .nil pass0 (pa_cons (pv 1) (pa_cons (pv 3) pa_nil))) pa_nil)))))
      (pss_cons (ps_if (PW.pt (pw_or (pt_cmpR op_isN (pv 6) pe_non (nomark _)) (pw_or1 (pt_not (pt_val (pe_call (okis_borne T) (hr.mono (by decide)) (by rfl) T.gis_borne T.Fis_borne.kp T.bis_borne .nil pass0 (pa_cons (pv 5) (pa_cons (pv 6) pa_nil))))))))
      (pss_one (ps_ret pe_bl))
      pss_nil)
      (pss_cons (ps_set (i := 7) scLaw.nd rfl (.inl rfl) (pe_call (ok_law_draw T) (hr.mono (by decide)) (by rfl) T.g_law_draw T.F_law_draw.kp T.b_law_draw .nil pass0 (pa_cons (pv 1) (pa_cons (pe_callB call_len_seq (by rfl) T.mlen PySem.boot_len (pa_cons (pv 6) pa_nil)) pa_nil))))
      (pss_cons (ps_if (pt_not (pt_val (pe_call (okis_borne T) (hr.mono (by decide)) (by rfl) T.gis_borne T.Fis_borne.kp T.bis_borne .nil pass0 (pa_cons (pv 4) (pa_cons (pe_call (ok_law_put T) (hr.mono (by decide)) (by rfl) T.g_law_put T.F_law_put.kp T.b_law_put .nil pass0 (pa_cons (pv 6) (pa_cons (pv 7) (pa_cons (pe_un un_neg (pe_call (ok_law_draw T) (hr.mono (by decide)) (by rfl) T.g_law_draw T.F_law_draw.kp T.b_law_draw .nil pass0 (pa_cons (pv 1) (pa_cons (pe_op op_add (pe_ix ix_list (pv 6) (pv 7) (fun _ _ => rfl)) pe_int) pa_nil)))) pa_nil)))) pa_nil)))))
      (pss_one (ps_ret pe_bl))
      pss_nil)
      (pss_cons (ps_set (i := 8) scLaw.nd rfl (.inl rfl) (pe_call (ok_law_filled T) (hr.mono (by decide)) (by rfl) T.g_law_filled T.F_law_filled.kp T.b_law_filled .nil pass0 (pa_cons (pv 1) (pa_cons (pv 4) (pa_cons (pv 6) pa_nil)))))
      (pss_cons (ps_if (PW.pt (pw_or (pt_cmpR op_isN (pv 8) pe_non (nomark _)) (pw_or (pt_not (pt_val (pe_call (okis_borne T) (hr.mono (by decide)) (by rfl) T.gis_borne T.Fis_borne.kp T.bis_borne .nil pass0 (pa_cons (pv 4) (pa_cons (pv 8) pa_nil))))) (pw_or1 (pt_cmpR (op_neD hr.units) (pe_call (okhalves T) (hr.mono (by decide)) (by rfl) T.ghalves T.Fhalves.kp T.bhalves .nil pass0 (pa_cons (pv 5) (pa_cons (pv 8) pa_nil))) (pe_call (okhalves T) (hr.mono (by decide)) (by rfl) T.ghalves T.Fhalves.kp T.bhalves .nil pass0 (pa_cons (pv 4) (pa_cons (pv 8) pa_nil))) (nomark _))))))
      (pss_one (ps_ret pe_bl))
      pss_nil)
      (pss_one (ps_for PassesOwn.never rfl (pi_range1 (by rfl) T.mrange (pa_cons (pe_callB call_len_seq (by rfl) T.mlen PySem.boot_len (pa_cons (pv 8) pa_nil)) pa_nil)) (pg_name (i := 7) scLaw.nd rfl (.inl rfl))
      (pss_cons (ps_if (PW.pt (pw_or (pt_cmpR op_ne (pe_callSD (okroom_at T) (hr.mono (by decide)) (by rfl) T.groom_at T.Froom_at.kp T.broom_at .nil (fun _ => passNo rfl rfl) (by exact (pa_cons (pv 4) (pa_cons (pv 8) (pa_cons (pv 7) pa_nil))))) pe_int (nomark _)) (pw_or1 (pt_cmpR op_ne (pe_callSD (okroom_at T) (hr.mono (by decide)) (by rfl) T.groom_at T.Froom_at.kp T.broom_at .nil (fun _ => passNo rfl rfl) (by exact (pa_cons (pv 5) (pa_cons (pv 8) (pa_cons (pv 7) pa_nil))))) pe_int (nomark _)))))
      (pss_one (ps_ret pe_bl))
      pss_nil)
      (pss_cons (ps_set (i := 9) scLaw.nd rfl (.inl rfl) (pe_call (ok_law_put T) (hr.mono (by decide)) (by rfl) T.g_law_put T.F_law_put.kp T.b_law_put .nil pass0 (pa_cons (pv 8) (pa_cons (pv 7) (pa_cons pe_int pa_nil)))))
      (pss_one (ps_if (PW.pt (pw_and (pt_cmpR op_le (pe_callB (cr_max rfl) (by rfl) T.mmax (by decide +kernel) (pa_cons (pv 9) pa_nil)) (pe_op op_pow pe_int pe_int) (nomark _)) (pw_and1 (PW.pt (pw_or (pt_val (pe_call (okis_borne T) (hr.mono (by decide)) (by rfl) T.gis_borne T.Fis_borne.kp T.bis_borne .nil pass0 (pa_cons (pv 4) (pa_cons (pv 9) pa_nil)))) (pw_or1 (pt_cmpR op_isN (pe_call (ok_law_fault_told T) (hr.mono (by decide)) (by rfl) T.g_law_fault_told T.F_law_fault_told.kp T.b_law_fault_told .nil pass0 (pa_cons (pv 5) (pa_cons (pv 9) pa_nil))) pe_non (nomark _))))))))
      (pss_one (ps_ret pe_bl))
      pss_nil))))))))))))))))
      (pss_one (ps_ret pe_bl))))
      , ?_⟩
    walk_at "s"
    refine ⟨a, ns, rfl, hS, hlen, fun tp c H1 n1 n2 s01 T1 => ?_⟩
    walk_at "s"
    refine ⟨a, _, rfl, .inl (sqL_same hS s01), ?_⟩
    walk_at "s"
    rw [List.length_map]
    obtain ⟨top, hlow, hlo4, et⟩ := if_top10 (n := (ns.length : Int))
    rw [et]
    refine for_range (lo := 0) (n := top.toNat) (fun i σ H2 => ∃ (w2 w3 w4 w5 w6 w7 w8 w9 : Option V), σ = [some (.ref a), some (.ref tp), w2, w3, w4, w5, w6, w7, w8, w9] ∧ Tape H2 tp c (500 * i))
      ⟨_, _, _, _, _, _, _, _, rfl, T1⟩ ?_ ?_
    · rintro i σ H2 hi ⟨w2, w3, w4, w5, w6, w7, w8, w9, rfl, T2⟩
      have hi10 : i < 10 := by omega
      walk_at "s"
      refine ⟨tp, c, _, rfl, by omega, T2, fun q1 r1 z1 rows spans H3 hg1 hb1 hn1 hp1 nr1 nz1 T3 k3 => ?_⟩
      obtain ⟨a0, as, rfl⟩ : ∃ a0 as, spans = a0 :: as := by
        cases spans with
        | nil => have := hg1.sl; simp at this
        | cons x r => exact ⟨x, r, rfl⟩
      have nice1 : Nice rows a0 as := ⟨hg1, hn1, fun r hr => hb1 r hr⟩
      have hr1 := hg1.l0
      have hr10 := hg1.l1
      have hsl := hg1.sl
      have hsb := hg1.sb
      walk_at "s"
      refine ⟨q1, r1, z1, rows, a0 :: as, rfl, hp1, hg1, fun b bl zl H4 hbl4 hzl4 s4 hb => ?_⟩
      have T4 := T3.same s4
      have nbl := T3.ne hbl4
      have nzl := T3.ne hzl4
      have hp4 := hp1.same s4
      obtain ⟨dx, bs, e1, e2, e3⟩ := hb.ex
      walk_at "s"
      refine ⟨b, dx, _, rfl, e1, b, bl, zl, rows, a0, as, rfl, hb, nice1, fun H5 s5 => ?_⟩
      refine ⟨_, rfl, ?_⟩
      walk_at "s"
      refine ⟨rows, a0, as, rfl, nice1, fun f fl gl H6 hf hfl hgl s6 hfb => ?_⟩
      have s46 := s5.trans s6
      have T6 := T4.same s46
      have nfl := (T4.same s5).ne hfl
      have ngl := (T4.same s5).ne hgl
      have hb6 := hb.same s46
      have hp6 := hp4.same s46
      generalize a0 :: as = spans at *
      walk_at "s"
      refine ⟨tp, c, q1, r1, z1, rows, spans, _, rfl, hp6, nr1, nz1, by omega, hb1, fun z hz => hsb z hz, by omega, T6, fun lw ld H7 elw hlw hlb nlw _ T7 k7 => ?_⟩
      obtain ⟨ty6, ety6⟩ := T6.tape
      have hb7 := hb6.keep ety6 k7 nbl nzl
      have hfb7 := hfb.keep ety6 k7 nfl ngl
      have hld : Ld rows spans ld := ⟨hr1, hr10, hsl, by omega, fun j hj => by have := (hsb _ (gD_in hj)).1; omega, fun j hj => by
        obtain ⟨r, hr⟩ : ∃ r, rows[j]? = some r := ⟨_, List.getElem?_eq_getElem hj⟩
        rw [brs_at hr]
        have := (hb1 r (List.mem_of_getElem? hr)).1
        omega, gD_nn fun z hz => (hlb z hz).1⟩
      walk_at "s"
      refine ⟨tp, c, b, bl, zl, lw, rows, spans, ld, _, rfl, by omega, T7, hb7, nbl, nzl, elw, nlw, hld, fun lm lde H8 elm nlm hlde hbrn T8 k8 => ?_⟩
      obtain ⟨ty7, ety7⟩ := T7.tape
      have hb8 := hb7.keep ety7 k8 nbl nzl
      have hfb8 := hfb7.keep ety7 k8 nfl ngl
      have hll8 := hlde.ll
      walk_at "s"
      refine ⟨f, fl, gl, lm, rows, spans, lde, rfl, hfb8, hr10, elm, hll8, hsl, fun x H9 s9 hx => ?_⟩
      rw [brn_fault hbrn hx]
      refine ⟨_, rfl, ?_⟩
      refine ifF rfl ?_
      have T9 := T8.same s9
      have elm9 := s9 _ _ elm
      have hb9 := hb8.same s9
      have hfb9 := hfb8.same s9
      clear hx x elm hb8 hfb8 hb7 hfb7 hb6 hb hfb hp6 hp4 hp1 e1 e2 e3
      walk_at "s"
      refine ⟨lm, _, rfl, .inl (SqL.of elm9), ?_⟩
      rw [List.length_map, hll8]
      walk_at "s"
      refine dr ((rows.length + 1 : Nat) : Int) T9 (by omega) (by omega) (by omega) fun d H10 d0 d1 T10 k10 => ?_
      obtain ⟨k, rfl⟩ := Int.eq_ofNat_of_zero_le d0
      obtain ⟨ty9, ety9⟩ := T9.tape
      have elm10 := k10 _ _ nlm elm9
      have hb10 := hb9.keep ety9 k10 nbl nzl
      have hfb10 := hfb9.keep ety9 k10 nfl ngl
      have hkl : k < lde.length := by omega
      have hgk := hbrn.s k (by omega)
      have hgs := (hsb _ (gD_in (l := spans) (j := k) (by omega))).2
      have hgn := hlde.nn k
      walk_at "s"
      refine i_ixLe k (SqL.of elm10) rfl (gD_v hkl) ?_
      walk_at "s"
      refine dr (gD lde k + 1) T10 (by omega) (by omega) (by omega) fun e H11 e0 e1 T11 k11 => ?_
      obtain ⟨ty10, ety10⟩ := T10.tape
      have elm11 := k11 _ _ nlm elm10
      have hb11 := hb10.keep ety10 k11 nbl nzl
      have hfb11 := hfb10.keep ety10 k11 nfl ngl
      walk_at "s"
      refine ⟨lm, k, -e, lde, rfl, elm11, hkl, by omega, fun p2 H12 s12 hp20 hp2 => ?_⟩
      walk_at "s"
      refine ⟨b, bl, zl, p2, rows, spans, putL lde k (-e), rfl, hb11.same s12, hr10, hp2, by rw [putL_len]; exact hll8, hsl, fun x H13 s13 hx => ?_⟩
      rw [brn_fault (brn_less hbrn fun j => by
        rw [putL_gD hkl]
        split
        · next ej => subst ej; omega
        · exact Int.le_refl _) hx]
      refine ⟨_, rfl, ?_⟩
      refine ifF rfl ?_
      have s1113 := s12.trans s13
      have T13 := T11.same s1113
      have hb13 := hb11.same s1113
      have hfb13 := hfb11.same s1113
      clear hx x
      walk_at "s"
      refine ⟨tp, c, b, bl, zl, lm, rows, spans, lde, _, rfl, by omega, T13, hb13, nbl, nzl, s1113 _ _ elm11, nlm, hlde, hbrn, fun lf ldf H14 elf nlf hldf hbf hzf T14 k14 => ?_⟩
      obtain ⟨ty13, ety13⟩ := T13.tape
      have hb14 := hb13.keep ety13 k14 nbl nzl
      have hfb14 := hfb13.keep ety13 k14 nfl ngl
      have hllf := hldf.ll
      walk_at "s"
      refine ⟨b, bl, zl, lf, rows, spans, ldf, rfl, hb14, hr10, elf, hllf, hsl, fun x H15 s15 hx => ?_⟩
      rw [brn_fault hbf hx]
      refine ⟨_, rfl, ?_⟩
      refine ifF rfl ?_
      clear hx x
      have elf15 := s15 _ _ elf
      walk_at "s"
      refine ⟨f, fl, gl, lf, rows, spans, ldf, rfl, hfb14.same s15, hr10, elf15, hllf, fun h1 H16 s16 hh10 hh1 => ?_⟩
      walk_at "s"
      have s1516 := s15.trans s16
      refine ⟨b, bl, zl, lf, rows, spans, ldf, rfl, hb14.same s1516, hr10, s16 _ _ elf15, hllf, fun h2 H17 s17 hh20 hh2 => ?_⟩
      refine ⟨_, _, .lst (SqL.of (s17 _ _ hh1)) (dp_ints _), .lst (SqL.of hh2) (dp_ints _), ke_shaped_ints _, ke_shaped_ints _, ?_⟩
      rw [eqv_ints, decide_eq_true rfl]
      have s1417 := s1516.trans s17
      have T17 := T14.same s1417
      have hb17 := hb14.same s1417
      have hfb17 := hfb14.same s1417
      have elf17 := s1417 _ _ elf
      walk_at "s"
      refine ⟨lf, _, rfl, .inl (SqL.of elf17), ?_⟩
      walk_at "s"
      rw [List.length_map, hllf]
      refine ⟨by omega, ?_⟩
      refine for_range (lo := 0) (n := ((rows.length + 1 : Nat) : Int).toNat) (fun j σ H' => ∃ (w7 w9 : Option V), σ = [some (.ref a), some (.ref tp), some (.int (0 + (i : Int))), some (.ref q1), some (.ref b), some (.ref f), some (.ref lm), w7, some (.ref lf), w9] ∧ Same H17 H')
        ⟨_, _, rfl, same_refl⟩ ?_ ?_
      · rintro j σ H18 hj ⟨w7, w9, rfl, s18⟩
        have hjr : j ≤ rows.length := by omega
        have ej : (0 : Int) + (j : Int) = ((j : Nat) : Int) := by omega
        rw [ej]
        have hb18 := hb17.same s18
        have hfb18 := hfb17.same s18
        have elf18 := s18 _ _ elf17
        walk_at "s"
        refine ⟨b, bl, zl, lf, .int (j : Nat), rows, spans, ldf, rfl, hb18, hr1, hr10, elf18, hllf, hsl, .inl ⟨j, rfl, hjr, fun m H19 s19 hm => ?_⟩⟩
        rw [room_one hm (hzf j hjr)]
        walk_at "s"
        refine ⟨f, fl, gl, lf, .int (j : Nat), rows, spans, ldf, rfl, hfb18.same s19, hr1, hr10, s19 _ _ elf18, hllf, hsl, .inl ⟨j, rfl, hjr, fun m2 H20 s20 hm2 => ?_⟩⟩
        rw [room_one hm2 (hzf j hjr)]
        have s1820 := s19.trans s20
        walk_at "s"
        refine ⟨lf, j, 1, ldf, rfl, s1820 _ _ elf18, by omega, by omega, fun p3 H21 s21 hp30 hp3 => ?_⟩
        have nb3 := room_more hllf hsl hjr (hzf j hjr)
        have s1821 := s1820.trans s21
        walk_at "s"
        have hl3 : (putL ldf j 1).length = rows.length + 1 := by rw [putL_len]; exact hllf
        refine ⟨p3, putL ldf j 1, rfl, SqL.of hp3, by omega, fun mx hmx hle => ?_⟩
        walk_at "s"
        refine ite2 (fun cm => ?_) (fun cm => ?_)
        · walk_at "s"
          refine ⟨b, bl, zl, p3, rows, spans, putL ldf j 1, rfl, hb18.same s1821, hr10, hp3, hl3, hsl, fun x H22 s22 hx => ?_⟩
          have hxn : x.isNone = false := by
            cases x with
            | none => exact absurd (brn_iff.mp hx) nb3
            | some _ => rfl
          rw [hxn]
          refine ⟨_, rfl, ?_⟩
          refine ifF rfl ?_
          walk_at "s"
          refine ⟨f, fl, gl, p3, rows, spans, putL ldf j 1, rfl, (hfb18.same s1821).same s22, hr10, s22 _ _ hp3, hl3, hsl, fun H23 s23 ft => absurd (brn_iff.mp ft) nb3, fun bb kf o t H23 s23 ft ht0 ht => ?_⟩
          walk_at "s"
          exact ((s18.trans s1821).trans s22).trans s23
        · exact ⟨_, _, rfl, s18.trans s1821⟩
      · rintro σ H18 ⟨w7, w9, rfl, s18⟩
        exact ⟨_, _, _, _, _, _, _, _, rfl, (T17.same s18).mono (by omega)⟩
    · rintro σ H2 ⟨w2, w3, w4, w5, w6, w7, w8, w9, rfl, T2⟩
      walk_at "s"
      exact q _
end
set_option maxHeartbeats 0 in
theorem all_mk {l : PySem.W.OpenLaw} {w : World} {K : PySem.W.Frag} {h : Heap} {mg : Str → Option Value} {fa f_wall fis_whole fis_name fhas_only fnumber_of fhalves fspare fneed_borne fis_borne froom_at fread_bridge f_are_boats f_are_spans f_boat_of f_span_of f_law_tape f_law_draw f_law_pick f_law_names f_law_boat_rows f_law_span_row f_law_drawn_parts f_law_made f_law_weights f_law_fault_told f_law_put f_law_mended f_law_filled flaw fBoat___init__ fBoat___eq__ fBoat___str__ fBoat___repr__ fBridge___init__ fBridge___eq__ fBridge___len__ fBridge___str__ fBridge_boats fBridge_spans fBridge_boat fBridge_with_boat fOverload___init__ fNoSpan___init__ CBoat CBridge COverload CNoSpan : Addr} (X : K.In h) (G : h.Ns mainGlobals mg) (hfa : mg "law" = some (.ref fa))
    {od_wall an_wall odis_whole anis_whole odis_name anis_name odhas_only anhas_only odnumber_of annumber_of odhalves anhalves odspare anspare odneed_borne anneed_borne odis_borne anis_borne odroom_at anroom_at odread_bridge anread_bridge od_are_boats an_are_boats od_are_spans an_are_spans od_boat_of an_boat_of od_span_of an_span_of od_law_tape an_law_tape od_law_draw an_law_draw od_law_pick an_law_pick od_law_names an_law_names od_law_boat_rows an_law_boat_rows od_law_span_row an_law_span_row od_law_drawn_parts an_law_drawn_parts od_law_made an_law_made od_law_weights an_law_weights od_law_fault_told an_law_fault_told od_law_put an_law_put od_law_mended an_law_mended od_law_filled an_law_filled odlaw anlaw odBoat___init__ anBoat___init__ odBoat___eq__ anBoat___eq__ odBoat___str__ anBoat___str__ odBoat___repr__ anBoat___repr__ odBridge___init__ anBridge___init__ odBridge___eq__ anBridge___eq__ odBridge___len__ anBridge___len__ odBridge___str__ anBridge___str__ odBridge_boats anBridge_boats odBridge_spans anBridge_spans odBridge_boat anBridge_boat odBridge_with_boat anBridge_with_boat odOverload___init__ anOverload___init__ odNoSpan___init__ anNoSpan___init__ : Option Addr} {sl_wall slis_whole slis_name slhas_only slnumber_of slhalves slspare slneed_borne slis_borne slroom_at slread_bridge sl_are_boats sl_are_spans sl_boat_of sl_span_of sl_law_tape sl_law_draw sl_law_pick sl_law_names sl_law_boat_rows sl_law_span_row sl_law_drawn_parts sl_law_made sl_law_weights sl_law_fault_told sl_law_put sl_law_mended sl_law_filled sllaw slBoat___init__ slBoat___eq__ slBoat___str__ slBoat___repr__ slBridge___init__ slBridge___eq__ slBridge___len__ slBridge___str__ slBridge_boats slBridge_spans slBridge_boat slBridge_with_boat slOverload___init__ slNoSpan___init__ : Array (Option Value)} {oc_wall kV_wall dc_wall pm_wall cd_wall ct_wall ocis_whole kVis_whole dcis_whole pmis_whole cdis_whole ctis_whole ocis_name kVis_name dcis_name pmis_name cdis_name ctis_name ochas_only kVhas_only dchas_only pmhas_only cdhas_only cthas_only ocnumber_of kVnumber_of dcnumber_of pmnumber_of cdnumber_of ctnumber_of ochalves kVhalves dchalves pmhalves cdhalves cthalves ocspare kVspare dcspare pmspare cdspare ctspare ocneed_borne kVneed_borne dcneed_borne pmneed_borne cdneed_borne ctneed_borne ocis_borne kVis_borne dcis_borne pmis_borne cdis_borne ctis_borne ocroom_at kVroom_at dcroom_at pmroom_at cdroom_at ctroom_at ocread_bridge kVread_bridge dcread_bridge pmread_bridge cdread_bridge ctread_bridge oc_are_boats kV_are_boats dc_are_boats pm_are_boats cd_are_boats ct_are_boats oc_are_spans kV_are_spans dc_are_spans pm_are_spans cd_are_spans ct_are_spans oc_boat_of kV_boat_of dc_boat_of pm_boat_of cd_boat_of ct_boat_of oc_span_of kV_span_of dc_span_of pm_span_of cd_span_of ct_span_of oc_law_tape kV_law_tape dc_law_tape pm_law_tape cd_law_tape ct_law_tape oc_law_draw kV_law_draw dc_law_draw pm_law_draw cd_law_draw ct_law_draw oc_law_pick kV_law_pick dc_law_pick pm_law_pick cd_law_pick ct_law_pick oc_law_names kV_law_names dc_law_names pm_law_names cd_law_names ct_law_names oc_law_boat_rows kV_law_boat_rows dc_law_boat_rows pm_law_boat_rows cd_law_boat_rows ct_law_boat_rows oc_law_span_row kV_law_span_row dc_law_span_row pm_law_span_row cd_law_span_row ct_law_span_row oc_law_drawn_parts kV_law_drawn_parts dc_law_drawn_parts pm_law_drawn_parts cd_law_drawn_parts ct_law_drawn_parts oc_law_made kV_law_made dc_law_made pm_law_made cd_law_made ct_law_made oc_law_weights kV_law_weights dc_law_weights pm_law_weights cd_law_weights ct_law_weights oc_law_fault_told kV_law_fault_told dc_law_fault_told pm_law_fault_told cd_law_fault_told ct_law_fault_told oc_law_put kV_law_put dc_law_put pm_law_put cd_law_put ct_law_put oc_law_mended kV_law_mended dc_law_mended pm_law_mended cd_law_mended ct_law_mended oc_law_filled kV_law_filled dc_law_filled pm_law_filled cd_law_filled ct_law_filled oclaw kVlaw dclaw pmlaw cdlaw ctlaw ocBoat___init__ kVBoat___init__ dcBoat___init__ pmBoat___init__ cdBoat___init__ ctBoat___init__ ocBoat___eq__ kVBoat___eq__ dcBoat___eq__ pmBoat___eq__ cdBoat___eq__ ctBoat___eq__ ocBoat___str__ kVBoat___str__ dcBoat___str__ pmBoat___str__ cdBoat___str__ ctBoat___str__ ocBoat___repr__ kVBoat___repr__ dcBoat___repr__ pmBoat___repr__ cdBoat___repr__ ctBoat___repr__ ocBridge___init__ kVBridge___init__ dcBridge___init__ pmBridge___init__ cdBridge___init__ ctBridge___init__ ocBridge___eq__ kVBridge___eq__ dcBridge___eq__ pmBridge___eq__ cdBridge___eq__ ctBridge___eq__ ocBridge___len__ kVBridge___len__ dcBridge___len__ pmBridge___len__ cdBridge___len__ ctBridge___len__ ocBridge___str__ kVBridge___str__ dcBridge___str__ pmBridge___str__ cdBridge___str__ ctBridge___str__ ocBridge_boats kVBridge_boats dcBridge_boats pmBridge_boats cdBridge_boats ctBridge_boats ocBridge_spans kVBridge_spans dcBridge_spans pmBridge_spans cdBridge_spans ctBridge_spans ocBridge_boat kVBridge_boat dcBridge_boat pmBridge_boat cdBridge_boat ctBridge_boat ocBridge_with_boat kVBridge_with_boat dcBridge_with_boat pmBridge_with_boat cdBridge_with_boat ctBridge_with_boat ocOverload___init__ kVOverload___init__ dcOverload___init__ pmOverload___init__ cdOverload___init__ ctOverload___init__ ocNoSpan___init__ kVNoSpan___init__ dcNoSpan___init__ pmNoSpan___init__ cdNoSpan___init__ ctNoSpan___init__ : Value} {nmOverload qOverload : Str} {NOverload : Addr} {bsOverload : List Value} {snOverload : List Str} {subOverload : List Value} {abOverload : Bool} {colOverload : Option Bool} {ddOverload : Option Addr} {p0Overload p1Overload p2Overload p3Overload p5Overload : Option Value} {nmNoSpan qNoSpan : Str} {NNoSpan : Addr} {bsNoSpan : List Value} {snNoSpan : List Str} {subNoSpan : List Value} {abNoSpan : Bool} {colNoSpan : Option Bool} {ddNoSpan : Option Addr} {p0NoSpan p1NoSpan p2NoSpan p3NoSpan p5NoSpan : Option Value} {tFIGURES tSMALL_LETTERS tLONGEST_NAME tMOST_BOATS tMOST_BORNE : Tok}
    (aOverload : PySem.W.nsIn K mainGlobals "Overload" = some (some (.ref COverload)))
    (aNoSpan : PySem.W.nsIn K mainGlobals "NoSpan" = some (some (.ref CNoSpan)))
    (xlOverload : K.lookup COverload = some (excClassObj nmOverload qOverload COverload NOverload bsOverload [.type "OverflowError", .type "ArithmeticError", .type "Exception", .type "BaseException", .type "object"] true snOverload subOverload abOverload colOverload ddOverload p0Overload p1Overload p2Overload p3Overload p5Overload "OverflowError.__new__"))
    (hdOverload : PySem.W.hasDictIn K COverload = true) (saOverload : PySem.W.findIn K (.ref COverload) "__setattr__" = some (some (.builtin "object.__setattr__"))) (exOverload : PySem.W.subIn K (.ref COverload) (.type "BaseException") = some true) (tyOverload : PySem.W.typeIn K (.ref COverload) = some (.type "type")) (kcOverload : PySem.W.keepIn K (.ref COverload) = true) (icOverload : PySem.W.isClsIn K COverload = true) (seOverload : PySem.W.subIn K (.ref COverload) (.ref COverload) = some true) (upOverload : PySem.W.subIn K (.ref COverload) (.type "OverflowError") = some true)
    (gaOverload : PySem.W.findIn K (.ref COverload) "__getattribute__" = some (some (.builtin "BaseException.__getattribute__"))) (ggOverload : PySem.W.findIn K (.ref COverload) "__getattr__" = some none) (haOverload : PySem.W.findIn K (.ref COverload) "__class__" = some (some (.builtin "object.__class__"))) (hnOverload : PySem.W.specialIn K (.builtin "object.__class__") "__get__" = some (some (.builtin "getset_descriptor.__get__"))) (htOverload : PySem.W.takesIn K (.builtin "object.__class__") = some true) (hmOverload : PySem.W.mroIn K COverload (.type "object") = some true)
    (nOverload_part : PySem.W.findIn K (.ref COverload) "part" = some none)
    (nOverload_at : PySem.W.findIn K (.ref COverload) "at" = some none)
    (nOverload_over : PySem.W.findIn K (.ref COverload) "over" = some none)
    (xlNoSpan : K.lookup CNoSpan = some (excClassObj nmNoSpan qNoSpan CNoSpan NNoSpan bsNoSpan [.type "IndexError", .type "LookupError", .type "Exception", .type "BaseException", .type "object"] true snNoSpan subNoSpan abNoSpan colNoSpan ddNoSpan p0NoSpan p1NoSpan p2NoSpan p3NoSpan p5NoSpan "IndexError.__new__"))
    (hdNoSpan : PySem.W.hasDictIn K CNoSpan = true) (saNoSpan : PySem.W.findIn K (.ref CNoSpan) "__setattr__" = some (some (.builtin "object.__setattr__"))) (exNoSpan : PySem.W.subIn K (.ref CNoSpan) (.type "BaseException") = some true) (tyNoSpan : PySem.W.typeIn K (.ref CNoSpan) = some (.type "type")) (kcNoSpan : PySem.W.keepIn K (.ref CNoSpan) = true) (icNoSpan : PySem.W.isClsIn K CNoSpan = true) (seNoSpan : PySem.W.subIn K (.ref CNoSpan) (.ref CNoSpan) = some true) (upNoSpan : PySem.W.subIn K (.ref CNoSpan) (.type "IndexError") = some true)
    (gaNoSpan : PySem.W.findIn K (.ref CNoSpan) "__getattribute__" = some (some (.builtin "BaseException.__getattribute__"))) (ggNoSpan : PySem.W.findIn K (.ref CNoSpan) "__getattr__" = some none) (haNoSpan : PySem.W.findIn K (.ref CNoSpan) "__class__" = some (some (.builtin "object.__class__"))) (hnNoSpan : PySem.W.specialIn K (.builtin "object.__class__") "__get__" = some (some (.builtin "getset_descriptor.__get__"))) (htNoSpan : PySem.W.takesIn K (.builtin "object.__class__") = some true) (hmNoSpan : PySem.W.mroIn K CNoSpan (.type "object") = some true)
    (nNoSpan_at : PySem.W.findIn K (.ref CNoSpan) "at" = some none)
    (aBoat : PySem.W.nsIn K mainGlobals "Boat" = some (some (.ref CBoat))) (pgBoat : PySem.W.plainGet K CBoat Str.empty = true) (hdBoat : PySem.W.hasDictIn K CBoat = true) (poBoat : PySem.W.plainOver K CBoat = true) (saBoat : PySem.W.findIn K (.ref CBoat) "__setattr__" = some (some (.builtin "object.__setattr__"))) (mkBoat : PySem.W.makesIn K CBoat = true) (kcBoat : PySem.W.keepIn K (.ref CBoat) = true)
    (haBoat : PySem.W.findIn K (.ref CBoat) "__class__" = some (some (.builtin "object.__class__"))) (hnBoat : PySem.W.specialIn K (.builtin "object.__class__") "__get__" = some (some (.builtin "getset_descriptor.__get__"))) (htBoat : PySem.W.takesIn K (.builtin "object.__class__") = some true) (hmBoat : PySem.W.mroIn K CBoat (.type "object") = some true) (nfBoat : PySem.W.notFirst K CBoat (.ref CBoat) = true)
    (nBoat_name : PySem.W.findIn K (.ref CBoat) "name" = some none)
    (nBoat_bears : PySem.W.findIn K (.ref CBoat) "bears" = some none)
    (neBoat : PySem.W.findIn K (.ref CBoat) "__ne__" = some (some (.builtin "object.__ne__"))) (icBoat : PySem.W.isClsIn K CBoat = true) (tyBoat : PySem.W.typeIn K (.ref CBoat) = some (.type "type"))
    (subBoat_NoneType : PySem.W.subIn K (.ref CBoat) (.type "NoneType") = some false) (kitBoat_NoneType : PySem.W.subIn K (.type "NoneType") (.ref CBoat) = some false) (ntBoat_NoneType : PySem.W.notFirst K CBoat (.type "NoneType") = true)
    (subBoat_int : PySem.W.subIn K (.ref CBoat) (.type "int") = some false) (kitBoat_int : PySem.W.subIn K (.type "int") (.ref CBoat) = some false) (ntBoat_int : PySem.W.notFirst K CBoat (.type "int") = true)
    (subBoat_str : PySem.W.subIn K (.ref CBoat) (.type "str") = some false) (kitBoat_str : PySem.W.subIn K (.type "str") (.ref CBoat) = some false) (ntBoat_str : PySem.W.notFirst K CBoat (.type "str") = true)
    (subBoat_list : PySem.W.subIn K (.ref CBoat) (.type "list") = some false) (kitBoat_list : PySem.W.subIn K (.type "list") (.ref CBoat) = some false) (ntBoat_list : PySem.W.notFirst K CBoat (.type "list") = true)
    (subBoat_tuple : PySem.W.subIn K (.ref CBoat) (.type "tuple") = some false) (kitBoat_tuple : PySem.W.subIn K (.type "tuple") (.ref CBoat) = some false) (ntBoat_tuple : PySem.W.notFirst K CBoat (.type "tuple") = true)
    (subBoat_dict : PySem.W.subIn K (.ref CBoat) (.type "dict") = some false) (kitBoat_dict : PySem.W.subIn K (.type "dict") (.ref CBoat) = some false) (ntBoat_dict : PySem.W.notFirst K CBoat (.type "dict") = true)
    (fmBoat : PySem.W.findIn K (.ref CBoat) "__format__" = some (some (.builtin "object.__format__")))
    (aBoat___init__ : PySem.W.findIn K (.ref CBoat) "__init__" = some (some (.ref fBoat___init__))) (iBoat___init__ : PySem.W.isFn K (.ref fBoat___init__) = true) (lBoat___init__ : K.lookup fBoat___init__ = some ⟨ocBoat___init__, odBoat___init__, .func (PySem.W.fnOf "__init__" "Boat.__init__" (defArgs sBInit) (defBody sBInit) (defScope sBInit) .none kVBoat___init__ dcBoat___init__ pmBoat___init__ anBoat___init__ cdBoat___init__ ctBoat___init__), slBoat___init__⟩) (cBoat___init__ : PySem.W.codeIn K cdBoat___init__ "Boat.__init__" = true) (kBoat___init__ : PySem.W.keepIn K (.ref fBoat___init__) = true)
    (aBoat___eq__ : PySem.W.findIn K (.ref CBoat) "__eq__" = some (some (.ref fBoat___eq__))) (iBoat___eq__ : PySem.W.isFn K (.ref fBoat___eq__) = true) (lBoat___eq__ : K.lookup fBoat___eq__ = some ⟨ocBoat___eq__, odBoat___eq__, .func (PySem.W.fnOf "__eq__" "Boat.__eq__" (defArgs sBEq) (defBody sBEq) (defScope sBEq) .none kVBoat___eq__ dcBoat___eq__ pmBoat___eq__ anBoat___eq__ cdBoat___eq__ ctBoat___eq__), slBoat___eq__⟩) (cBoat___eq__ : PySem.W.codeIn K cdBoat___eq__ "Boat.__eq__" = true) (kBoat___eq__ : PySem.W.keepIn K (.ref fBoat___eq__) = true)
    (aBoat___str__ : PySem.W.findIn K (.ref CBoat) "__str__" = some (some (.ref fBoat___str__))) (iBoat___str__ : PySem.W.isFn K (.ref fBoat___str__) = true) (lBoat___str__ : K.lookup fBoat___str__ = some ⟨ocBoat___str__, odBoat___str__, .func (PySem.W.fnOf "__str__" "Boat.__str__" (defArgs sBStr) (defBody sBStr) (defScope sBStr) .none kVBoat___str__ dcBoat___str__ pmBoat___str__ anBoat___str__ cdBoat___str__ ctBoat___str__), slBoat___str__⟩) (cBoat___str__ : PySem.W.codeIn K cdBoat___str__ "Boat.__str__" = true) (kBoat___str__ : PySem.W.keepIn K (.ref fBoat___str__) = true)
    (aBoat___repr__ : PySem.W.findIn K (.ref CBoat) "__repr__" = some (some (.ref fBoat___repr__))) (iBoat___repr__ : PySem.W.isFn K (.ref fBoat___repr__) = true) (lBoat___repr__ : K.lookup fBoat___repr__ = some ⟨ocBoat___repr__, odBoat___repr__, .func (PySem.W.fnOf "__repr__" "Boat.__repr__" (defArgs sBRepr) (defBody sBRepr) (defScope sBRepr) .none kVBoat___repr__ dcBoat___repr__ pmBoat___repr__ anBoat___repr__ cdBoat___repr__ ctBoat___repr__), slBoat___repr__⟩) (cBoat___repr__ : PySem.W.codeIn K cdBoat___repr__ "Boat.__repr__" = true) (kBoat___repr__ : PySem.W.keepIn K (.ref fBoat___repr__) = true)
    (aBridge : PySem.W.nsIn K mainGlobals "Bridge" = some (some (.ref CBridge))) (pgBridge : PySem.W.plainGet K CBridge Str.empty = true) (hdBridge : PySem.W.hasDictIn K CBridge = true) (poBridge : PySem.W.plainOver K CBridge = true) (saBridge : PySem.W.findIn K (.ref CBridge) "__setattr__" = some (some (.builtin "object.__setattr__"))) (mkBridge : PySem.W.makesIn K CBridge = true) (kcBridge : PySem.W.keepIn K (.ref CBridge) = true)
    (haBridge : PySem.W.findIn K (.ref CBridge) "__class__" = some (some (.builtin "object.__class__"))) (hnBridge : PySem.W.specialIn K (.builtin "object.__class__") "__get__" = some (some (.builtin "getset_descriptor.__get__"))) (htBridge : PySem.W.takesIn K (.builtin "object.__class__") = some true) (hmBridge : PySem.W.mroIn K CBridge (.type "object") = some true) (nfBridge : PySem.W.notFirst K CBridge (.ref CBridge) = true)
    (nBridge__boats : PySem.W.findIn K (.ref CBridge) "_boats" = some none)
    (nBridge__spans : PySem.W.findIn K (.ref CBridge) "_spans" = some none)
    (neBridge : PySem.W.findIn K (.ref CBridge) "__ne__" = some (some (.builtin "object.__ne__"))) (icBridge : PySem.W.isClsIn K CBridge = true) (tyBridge : PySem.W.typeIn K (.ref CBridge) = some (.type "type"))
    (subBridge_NoneType : PySem.W.subIn K (.ref CBridge) (.type "NoneType") = some false) (kitBridge_NoneType : PySem.W.subIn K (.type "NoneType") (.ref CBridge) = some false) (ntBridge_NoneType : PySem.W.notFirst K CBridge (.type "NoneType") = true)
    (subBridge_int : PySem.W.subIn K (.ref CBridge) (.type "int") = some false) (kitBridge_int : PySem.W.subIn K (.type "int") (.ref CBridge) = some false) (ntBridge_int : PySem.W.notFirst K CBridge (.type "int") = true)
    (subBridge_str : PySem.W.subIn K (.ref CBridge) (.type "str") = some false) (kitBridge_str : PySem.W.subIn K (.type "str") (.ref CBridge) = some false) (ntBridge_str : PySem.W.notFirst K CBridge (.type "str") = true)
    (subBridge_list : PySem.W.subIn K (.ref CBridge) (.type "list") = some false) (kitBridge_list : PySem.W.subIn K (.type "list") (.ref CBridge) = some false) (ntBridge_list : PySem.W.notFirst K CBridge (.type "list") = true)
    (subBridge_tuple : PySem.W.subIn K (.ref CBridge) (.type "tuple") = some false) (kitBridge_tuple : PySem.W.subIn K (.type "tuple") (.ref CBridge) = some false) (ntBridge_tuple : PySem.W.notFirst K CBridge (.type "tuple") = true)
    (subBridge_dict : PySem.W.subIn K (.ref CBridge) (.type "dict") = some false) (kitBridge_dict : PySem.W.subIn K (.type "dict") (.ref CBridge) = some false) (ntBridge_dict : PySem.W.notFirst K CBridge (.type "dict") = true)
    (blBridge : PySem.W.findIn K (.ref CBridge) "__bool__" = some none)
    (aBridge___init__ : PySem.W.findIn K (.ref CBridge) "__init__" = some (some (.ref fBridge___init__))) (iBridge___init__ : PySem.W.isFn K (.ref fBridge___init__) = true) (lBridge___init__ : K.lookup fBridge___init__ = some ⟨ocBridge___init__, odBridge___init__, .func (PySem.W.fnOf "__init__" "Bridge.__init__" (defArgs sBrInit) (defBody sBrInit) (defScope sBrInit) .none kVBridge___init__ dcBridge___init__ pmBridge___init__ anBridge___init__ cdBridge___init__ ctBridge___init__), slBridge___init__⟩) (cBridge___init__ : PySem.W.codeIn K cdBridge___init__ "Bridge.__init__" = true) (kBridge___init__ : PySem.W.keepIn K (.ref fBridge___init__) = true)
    (aBridge___eq__ : PySem.W.findIn K (.ref CBridge) "__eq__" = some (some (.ref fBridge___eq__))) (iBridge___eq__ : PySem.W.isFn K (.ref fBridge___eq__) = true) (lBridge___eq__ : K.lookup fBridge___eq__ = some ⟨ocBridge___eq__, odBridge___eq__, .func (PySem.W.fnOf "__eq__" "Bridge.__eq__" (defArgs sBridgeEq) (defBody sBridgeEq) (defScope sBridgeEq) .none kVBridge___eq__ dcBridge___eq__ pmBridge___eq__ anBridge___eq__ cdBridge___eq__ ctBridge___eq__), slBridge___eq__⟩) (cBridge___eq__ : PySem.W.codeIn K cdBridge___eq__ "Bridge.__eq__" = true) (kBridge___eq__ : PySem.W.keepIn K (.ref fBridge___eq__) = true)
    (aBridge___len__ : PySem.W.findIn K (.ref CBridge) "__len__" = some (some (.ref fBridge___len__))) (iBridge___len__ : PySem.W.isFn K (.ref fBridge___len__) = true) (lBridge___len__ : K.lookup fBridge___len__ = some ⟨ocBridge___len__, odBridge___len__, .func (PySem.W.fnOf "__len__" "Bridge.__len__" (defArgs sBrLen) (defBody sBrLen) (defScope sBrLen) .none kVBridge___len__ dcBridge___len__ pmBridge___len__ anBridge___len__ cdBridge___len__ ctBridge___len__), slBridge___len__⟩) (cBridge___len__ : PySem.W.codeIn K cdBridge___len__ "Bridge.__len__" = true) (kBridge___len__ : PySem.W.keepIn K (.ref fBridge___len__) = true)
    (aBridge___str__ : PySem.W.findIn K (.ref CBridge) "__str__" = some (some (.ref fBridge___str__))) (iBridge___str__ : PySem.W.isFn K (.ref fBridge___str__) = true) (lBridge___str__ : K.lookup fBridge___str__ = some ⟨ocBridge___str__, odBridge___str__, .func (PySem.W.fnOf "__str__" "Bridge.__str__" (defArgs sBridgeStr) (defBody sBridgeStr) (defScope sBridgeStr) .none kVBridge___str__ dcBridge___str__ pmBridge___str__ anBridge___str__ cdBridge___str__ ctBridge___str__), slBridge___str__⟩) (cBridge___str__ : PySem.W.codeIn K cdBridge___str__ "Bridge.__str__" = true) (kBridge___str__ : PySem.W.keepIn K (.ref fBridge___str__) = true)
    (aBridge_boats : PySem.W.findIn K (.ref CBridge) "boats" = some (some (.ref fBridge_boats))) (iBridge_boats : PySem.W.isFn K (.ref fBridge_boats) = true) (lBridge_boats : K.lookup fBridge_boats = some ⟨ocBridge_boats, odBridge_boats, .func (PySem.W.fnOf "boats" "Bridge.boats" (defArgs sBrBoats) (defBody sBrBoats) (defScope sBrBoats) .none kVBridge_boats dcBridge_boats pmBridge_boats anBridge_boats cdBridge_boats ctBridge_boats), slBridge_boats⟩) (cBridge_boats : PySem.W.codeIn K cdBridge_boats "Bridge.boats" = true) (kBridge_boats : PySem.W.keepIn K (.ref fBridge_boats) = true)
    (aBridge_spans : PySem.W.findIn K (.ref CBridge) "spans" = some (some (.ref fBridge_spans))) (iBridge_spans : PySem.W.isFn K (.ref fBridge_spans) = true) (lBridge_spans : K.lookup fBridge_spans = some ⟨ocBridge_spans, odBridge_spans, .func (PySem.W.fnOf "spans" "Bridge.spans" (defArgs sBrSpans) (defBody sBrSpans) (defScope sBrSpans) .none kVBridge_spans dcBridge_spans pmBridge_spans anBridge_spans cdBridge_spans ctBridge_spans), slBridge_spans⟩) (cBridge_spans : PySem.W.codeIn K cdBridge_spans "Bridge.spans" = true) (kBridge_spans : PySem.W.keepIn K (.ref fBridge_spans) = true)
    (aBridge_boat : PySem.W.findIn K (.ref CBridge) "boat" = some (some (.ref fBridge_boat))) (iBridge_boat : PySem.W.isFn K (.ref fBridge_boat) = true) (lBridge_boat : K.lookup fBridge_boat = some ⟨ocBridge_boat, odBridge_boat, .func (PySem.W.fnOf "boat" "Bridge.boat" (defArgs sBridgeBoat) (defBody sBridgeBoat) (defScope sBridgeBoat) .none kVBridge_boat dcBridge_boat pmBridge_boat anBridge_boat cdBridge_boat ctBridge_boat), slBridge_boat⟩) (cBridge_boat : PySem.W.codeIn K cdBridge_boat "Bridge.boat" = true) (kBridge_boat : PySem.W.keepIn K (.ref fBridge_boat) = true)
    (aBridge_with_boat : PySem.W.findIn K (.ref CBridge) "with_boat" = some (some (.ref fBridge_with_boat))) (iBridge_with_boat : PySem.W.isFn K (.ref fBridge_with_boat) = true) (lBridge_with_boat : K.lookup fBridge_with_boat = some ⟨ocBridge_with_boat, odBridge_with_boat, .func (PySem.W.fnOf "with_boat" "Bridge.with_boat" (defArgs sBridgeWithBoat) (defBody sBridgeWithBoat) (defScope sBridgeWithBoat) .none kVBridge_with_boat dcBridge_with_boat pmBridge_with_boat anBridge_with_boat cdBridge_with_boat ctBridge_with_boat), slBridge_with_boat⟩) (cBridge_with_boat : PySem.W.codeIn K cdBridge_with_boat "Bridge.with_boat" = true) (kBridge_with_boat : PySem.W.keepIn K (.ref fBridge_with_boat) = true)
    (aOverload___init__ : PySem.W.findIn K (.ref COverload) "__init__" = some (some (.ref fOverload___init__))) (iOverload___init__ : PySem.W.isFn K (.ref fOverload___init__) = true) (lOverload___init__ : K.lookup fOverload___init__ = some ⟨ocOverload___init__, odOverload___init__, .func (PySem.W.fnOf "__init__" "Overload.__init__" (defArgs sOInit) (defBody sOInit) (defScope sOInit) .none kVOverload___init__ dcOverload___init__ pmOverload___init__ anOverload___init__ cdOverload___init__ ctOverload___init__), slOverload___init__⟩) (cOverload___init__ : PySem.W.codeIn K cdOverload___init__ "Overload.__init__" = true) (kOverload___init__ : PySem.W.keepIn K (.ref fOverload___init__) = true)
    (aNoSpan___init__ : PySem.W.findIn K (.ref CNoSpan) "__init__" = some (some (.ref fNoSpan___init__))) (iNoSpan___init__ : PySem.W.isFn K (.ref fNoSpan___init__) = true) (lNoSpan___init__ : K.lookup fNoSpan___init__ = some ⟨ocNoSpan___init__, odNoSpan___init__, .func (PySem.W.fnOf "__init__" "NoSpan.__init__" (defArgs sNSInit) (defBody sNSInit) (defScope sNSInit) .none kVNoSpan___init__ dcNoSpan___init__ pmNoSpan___init__ anNoSpan___init__ cdNoSpan___init__ ctNoSpan___init__), slNoSpan___init__⟩) (cNoSpan___init__ : PySem.W.codeIn K cdNoSpan___init__ "NoSpan.__init__" = true) (kNoSpan___init__ : PySem.W.keepIn K (.ref fNoSpan___init__) = true)
    (a_wall : PySem.W.nsIn K mainGlobals "_wall" = some (some (.ref f_wall))) (l_wall : K.lookup f_wall = some ⟨oc_wall, od_wall, .func (PySem.W.fnOf "_wall" "_wall" (defArgs sWall) (defBody sWall) (defScope sWall) .none kV_wall dc_wall pm_wall an_wall cd_wall ct_wall), sl_wall⟩) (c_wall : PySem.W.codeIn K cd_wall "_wall" = true) (k_wall : PySem.W.keepIn K (.ref f_wall) = true)
    (ais_whole : PySem.W.nsIn K mainGlobals "is_whole" = some (some (.ref fis_whole))) (lis_whole : K.lookup fis_whole = some ⟨ocis_whole, odis_whole, .func (PySem.W.fnOf "is_whole" "is_whole" (defArgs sIsW) (defBody sIsW) (defScope sIsW) .none kVis_whole dcis_whole pmis_whole anis_whole cdis_whole ctis_whole), slis_whole⟩) (cis_whole : PySem.W.codeIn K cdis_whole "is_whole" = true) (kis_whole : PySem.W.keepIn K (.ref fis_whole) = true)
    (ais_name : PySem.W.nsIn K mainGlobals "is_name" = some (some (.ref fis_name))) (lis_name : K.lookup fis_name = some ⟨ocis_name, odis_name, .func (PySem.W.fnOf "is_name" "is_name" (defArgs sIsName) (defBody sIsName) (defScope sIsName) .none kVis_name dcis_name pmis_name anis_name cdis_name ctis_name), slis_name⟩) (cis_name : PySem.W.codeIn K cdis_name "is_name" = true) (kis_name : PySem.W.keepIn K (.ref fis_name) = true)
    (ahas_only : PySem.W.nsIn K mainGlobals "has_only" = some (some (.ref fhas_only))) (lhas_only : K.lookup fhas_only = some ⟨ochas_only, odhas_only, .func (PySem.W.fnOf "has_only" "has_only" (defArgs sHas) (defBody sHas) (defScope sHas) .none kVhas_only dchas_only pmhas_only anhas_only cdhas_only cthas_only), slhas_only⟩) (chas_only : PySem.W.codeIn K cdhas_only "has_only" = true) (khas_only : PySem.W.keepIn K (.ref fhas_only) = true)
    (anumber_of : PySem.W.nsIn K mainGlobals "number_of" = some (some (.ref fnumber_of))) (lnumber_of : K.lookup fnumber_of = some ⟨ocnumber_of, odnumber_of, .func (PySem.W.fnOf "number_of" "number_of" (defArgs sNumberOf) (defBody sNumberOf) (defScope sNumberOf) .none kVnumber_of dcnumber_of pmnumber_of annumber_of cdnumber_of ctnumber_of), slnumber_of⟩) (cnumber_of : PySem.W.codeIn K cdnumber_of "number_of" = true) (knumber_of : PySem.W.keepIn K (.ref fnumber_of) = true)
    (ahalves : PySem.W.nsIn K mainGlobals "halves" = some (some (.ref fhalves))) (lhalves : K.lookup fhalves = some ⟨ochalves, odhalves, .func (PySem.W.fnOf "halves" "halves" (defArgs sHalves) (defBody sHalves) (defScope sHalves) .none kVhalves dchalves pmhalves anhalves cdhalves cthalves), slhalves⟩) (chalves : PySem.W.codeIn K cdhalves "halves" = true) (khalves : PySem.W.keepIn K (.ref fhalves) = true)
    (aspare : PySem.W.nsIn K mainGlobals "spare" = some (some (.ref fspare))) (lspare : K.lookup fspare = some ⟨ocspare, odspare, .func (PySem.W.fnOf "spare" "spare" (defArgs sSpare) (defBody sSpare) (defScope sSpare) .none kVspare dcspare pmspare anspare cdspare ctspare), slspare⟩) (cspare : PySem.W.codeIn K cdspare "spare" = true) (kspare : PySem.W.keepIn K (.ref fspare) = true)
    (aneed_borne : PySem.W.nsIn K mainGlobals "need_borne" = some (some (.ref fneed_borne))) (lneed_borne : K.lookup fneed_borne = some ⟨ocneed_borne, odneed_borne, .func (PySem.W.fnOf "need_borne" "need_borne" (defArgs sNeed) (defBody sNeed) (defScope sNeed) .none kVneed_borne dcneed_borne pmneed_borne anneed_borne cdneed_borne ctneed_borne), slneed_borne⟩) (cneed_borne : PySem.W.codeIn K cdneed_borne "need_borne" = true) (kneed_borne : PySem.W.keepIn K (.ref fneed_borne) = true)
    (ais_borne : PySem.W.nsIn K mainGlobals "is_borne" = some (some (.ref fis_borne))) (lis_borne : K.lookup fis_borne = some ⟨ocis_borne, odis_borne, .func (PySem.W.fnOf "is_borne" "is_borne" (defArgs sBorne) (defBody sBorne) (defScope sBorne) .none kVis_borne dcis_borne pmis_borne anis_borne cdis_borne ctis_borne), slis_borne⟩) (cis_borne : PySem.W.codeIn K cdis_borne "is_borne" = true) (kis_borne : PySem.W.keepIn K (.ref fis_borne) = true)
    (aroom_at : PySem.W.nsIn K mainGlobals "room_at" = some (some (.ref froom_at))) (lroom_at : K.lookup froom_at = some ⟨ocroom_at, odroom_at, .func (PySem.W.fnOf "room_at" "room_at" (defArgs sRoom) (defBody sRoom) (defScope sRoom) .none kVroom_at dcroom_at pmroom_at anroom_at cdroom_at ctroom_at), slroom_at⟩) (croom_at : PySem.W.codeIn K cdroom_at "room_at" = true) (kroom_at : PySem.W.keepIn K (.ref froom_at) = true)
    (aread_bridge : PySem.W.nsIn K mainGlobals "read_bridge" = some (some (.ref fread_bridge))) (lread_bridge : K.lookup fread_bridge = some ⟨ocread_bridge, odread_bridge, .func (PySem.W.fnOf "read_bridge" "read_bridge" (defArgs sReadBridge) (defBody sReadBridge) (defScope sReadBridge) .none kVread_bridge dcread_bridge pmread_bridge anread_bridge cdread_bridge ctread_bridge), slread_bridge⟩) (cread_bridge : PySem.W.codeIn K cdread_bridge "read_bridge" = true) (kread_bridge : PySem.W.keepIn K (.ref fread_bridge) = true)
    (a_are_boats : PySem.W.nsIn K mainGlobals "_are_boats" = some (some (.ref f_are_boats))) (l_are_boats : K.lookup f_are_boats = some ⟨oc_are_boats, od_are_boats, .func (PySem.W.fnOf "_are_boats" "_are_boats" (defArgs sAreB) (defBody sAreB) (defScope sAreB) .none kV_are_boats dc_are_boats pm_are_boats an_are_boats cd_are_boats ct_are_boats), sl_are_boats⟩) (c_are_boats : PySem.W.codeIn K cd_are_boats "_are_boats" = true) (k_are_boats : PySem.W.keepIn K (.ref f_are_boats) = true)
    (a_are_spans : PySem.W.nsIn K mainGlobals "_are_spans" = some (some (.ref f_are_spans))) (l_are_spans : K.lookup f_are_spans = some ⟨oc_are_spans, od_are_spans, .func (PySem.W.fnOf "_are_spans" "_are_spans" (defArgs sAreS) (defBody sAreS) (defScope sAreS) .none kV_are_spans dc_are_spans pm_are_spans an_are_spans cd_are_spans ct_are_spans), sl_are_spans⟩) (c_are_spans : PySem.W.codeIn K cd_are_spans "_are_spans" = true) (k_are_spans : PySem.W.keepIn K (.ref f_are_spans) = true)
    (a_boat_of : PySem.W.nsIn K mainGlobals "_boat_of" = some (some (.ref f_boat_of))) (l_boat_of : K.lookup f_boat_of = some ⟨oc_boat_of, od_boat_of, .func (PySem.W.fnOf "_boat_of" "_boat_of" (defArgs sBoatOf) (defBody sBoatOf) (defScope sBoatOf) .none kV_boat_of dc_boat_of pm_boat_of an_boat_of cd_boat_of ct_boat_of), sl_boat_of⟩) (c_boat_of : PySem.W.codeIn K cd_boat_of "_boat_of" = true) (k_boat_of : PySem.W.keepIn K (.ref f_boat_of) = true)
    (a_span_of : PySem.W.nsIn K mainGlobals "_span_of" = some (some (.ref f_span_of))) (l_span_of : K.lookup f_span_of = some ⟨oc_span_of, od_span_of, .func (PySem.W.fnOf "_span_of" "_span_of" (defArgs sSpanOf) (defBody sSpanOf) (defScope sSpanOf) .none kV_span_of dc_span_of pm_span_of an_span_of cd_span_of ct_span_of), sl_span_of⟩) (c_span_of : PySem.W.codeIn K cd_span_of "_span_of" = true) (k_span_of : PySem.W.keepIn K (.ref f_span_of) = true)
    (a_law_tape : PySem.W.nsIn K mainGlobals "_law_tape" = some (some (.ref f_law_tape))) (l_law_tape : K.lookup f_law_tape = some ⟨oc_law_tape, od_law_tape, .func (PySem.W.fnOf "_law_tape" "_law_tape" (defArgs sTape) (defBody sTape) (defScope sTape) .none kV_law_tape dc_law_tape pm_law_tape an_law_tape cd_law_tape ct_law_tape), sl_law_tape⟩) (c_law_tape : PySem.W.codeIn K cd_law_tape "_law_tape" = true) (k_law_tape : PySem.W.keepIn K (.ref f_law_tape) = true)
    (a_law_draw : PySem.W.nsIn K mainGlobals "_law_draw" = some (some (.ref f_law_draw))) (l_law_draw : K.lookup f_law_draw = some ⟨oc_law_draw, od_law_draw, .func (PySem.W.fnOf "_law_draw" "_law_draw" (defArgs sDraw) (defBody sDraw) (defScope sDraw) .none kV_law_draw dc_law_draw pm_law_draw an_law_draw cd_law_draw ct_law_draw), sl_law_draw⟩) (c_law_draw : PySem.W.codeIn K cd_law_draw "_law_draw" = true) (k_law_draw : PySem.W.keepIn K (.ref f_law_draw) = true)
    (a_law_pick : PySem.W.nsIn K mainGlobals "_law_pick" = some (some (.ref f_law_pick))) (l_law_pick : K.lookup f_law_pick = some ⟨oc_law_pick, od_law_pick, .func (PySem.W.fnOf "_law_pick" "_law_pick" (defArgs sPick) (defBody sPick) (defScope sPick) .none kV_law_pick dc_law_pick pm_law_pick an_law_pick cd_law_pick ct_law_pick), sl_law_pick⟩) (c_law_pick : PySem.W.codeIn K cd_law_pick "_law_pick" = true) (k_law_pick : PySem.W.keepIn K (.ref f_law_pick) = true)
    (a_law_names : PySem.W.nsIn K mainGlobals "_law_names" = some (some (.ref f_law_names))) (l_law_names : K.lookup f_law_names = some ⟨oc_law_names, od_law_names, .func (PySem.W.fnOf "_law_names" "_law_names" (defArgs sNames) (defBody sNames) (defScope sNames) .none kV_law_names dc_law_names pm_law_names an_law_names cd_law_names ct_law_names), sl_law_names⟩) (c_law_names : PySem.W.codeIn K cd_law_names "_law_names" = true) (k_law_names : PySem.W.keepIn K (.ref f_law_names) = true)
    (a_law_boat_rows : PySem.W.nsIn K mainGlobals "_law_boat_rows" = some (some (.ref f_law_boat_rows))) (l_law_boat_rows : K.lookup f_law_boat_rows = some ⟨oc_law_boat_rows, od_law_boat_rows, .func (PySem.W.fnOf "_law_boat_rows" "_law_boat_rows" (defArgs sBRows) (defBody sBRows) (defScope sBRows) .none kV_law_boat_rows dc_law_boat_rows pm_law_boat_rows an_law_boat_rows cd_law_boat_rows ct_law_boat_rows), sl_law_boat_rows⟩) (c_law_boat_rows : PySem.W.codeIn K cd_law_boat_rows "_law_boat_rows" = true) (k_law_boat_rows : PySem.W.keepIn K (.ref f_law_boat_rows) = true)
    (a_law_span_row : PySem.W.nsIn K mainGlobals "_law_span_row" = some (some (.ref f_law_span_row))) (l_law_span_row : K.lookup f_law_span_row = some ⟨oc_law_span_row, od_law_span_row, .func (PySem.W.fnOf "_law_span_row" "_law_span_row" (defArgs sSRow) (defBody sSRow) (defScope sSRow) .none kV_law_span_row dc_law_span_row pm_law_span_row an_law_span_row cd_law_span_row ct_law_span_row), sl_law_span_row⟩) (c_law_span_row : PySem.W.codeIn K cd_law_span_row "_law_span_row" = true) (k_law_span_row : PySem.W.keepIn K (.ref f_law_span_row) = true)
    (a_law_drawn_parts : PySem.W.nsIn K mainGlobals "_law_drawn_parts" = some (some (.ref f_law_drawn_parts))) (l_law_drawn_parts : K.lookup f_law_drawn_parts = some ⟨oc_law_drawn_parts, od_law_drawn_parts, .func (PySem.W.fnOf "_law_drawn_parts" "_law_drawn_parts" (defArgs sDParts) (defBody sDParts) (defScope sDParts) .none kV_law_drawn_parts dc_law_drawn_parts pm_law_drawn_parts an_law_drawn_parts cd_law_drawn_parts ct_law_drawn_parts), sl_law_drawn_parts⟩) (c_law_drawn_parts : PySem.W.codeIn K cd_law_drawn_parts "_law_drawn_parts" = true) (k_law_drawn_parts : PySem.W.keepIn K (.ref f_law_drawn_parts) = true)
    (a_law_made : PySem.W.nsIn K mainGlobals "_law_made" = some (some (.ref f_law_made))) (l_law_made : K.lookup f_law_made = some ⟨oc_law_made, od_law_made, .func (PySem.W.fnOf "_law_made" "_law_made" (defArgs sMade) (defBody sMade) (defScope sMade) .none kV_law_made dc_law_made pm_law_made an_law_made cd_law_made ct_law_made), sl_law_made⟩) (c_law_made : PySem.W.codeIn K cd_law_made "_law_made" = true) (k_law_made : PySem.W.keepIn K (.ref f_law_made) = true)
    (a_law_weights : PySem.W.nsIn K mainGlobals "_law_weights" = some (some (.ref f_law_weights))) (l_law_weights : K.lookup f_law_weights = some ⟨oc_law_weights, od_law_weights, .func (PySem.W.fnOf "_law_weights" "_law_weights" (defArgs sWeights) (defBody sWeights) (defScope sWeights) .none kV_law_weights dc_law_weights pm_law_weights an_law_weights cd_law_weights ct_law_weights), sl_law_weights⟩) (c_law_weights : PySem.W.codeIn K cd_law_weights "_law_weights" = true) (k_law_weights : PySem.W.keepIn K (.ref f_law_weights) = true)
    (a_law_fault_told : PySem.W.nsIn K mainGlobals "_law_fault_told" = some (some (.ref f_law_fault_told))) (l_law_fault_told : K.lookup f_law_fault_told = some ⟨oc_law_fault_told, od_law_fault_told, .func (PySem.W.fnOf "_law_fault_told" "_law_fault_told" (defArgs sFaultTold) (defBody sFaultTold) (defScope sFaultTold) .none kV_law_fault_told dc_law_fault_told pm_law_fault_told an_law_fault_told cd_law_fault_told ct_law_fault_told), sl_law_fault_told⟩) (c_law_fault_told : PySem.W.codeIn K cd_law_fault_told "_law_fault_told" = true) (k_law_fault_told : PySem.W.keepIn K (.ref f_law_fault_told) = true)
    (a_law_put : PySem.W.nsIn K mainGlobals "_law_put" = some (some (.ref f_law_put))) (l_law_put : K.lookup f_law_put = some ⟨oc_law_put, od_law_put, .func (PySem.W.fnOf "_law_put" "_law_put" (defArgs sPut) (defBody sPut) (defScope sPut) .none kV_law_put dc_law_put pm_law_put an_law_put cd_law_put ct_law_put), sl_law_put⟩) (c_law_put : PySem.W.codeIn K cd_law_put "_law_put" = true) (k_law_put : PySem.W.keepIn K (.ref f_law_put) = true)
    (a_law_mended : PySem.W.nsIn K mainGlobals "_law_mended" = some (some (.ref f_law_mended))) (l_law_mended : K.lookup f_law_mended = some ⟨oc_law_mended, od_law_mended, .func (PySem.W.fnOf "_law_mended" "_law_mended" (defArgs sMended) (defBody sMended) (defScope sMended) .none kV_law_mended dc_law_mended pm_law_mended an_law_mended cd_law_mended ct_law_mended), sl_law_mended⟩) (c_law_mended : PySem.W.codeIn K cd_law_mended "_law_mended" = true) (k_law_mended : PySem.W.keepIn K (.ref f_law_mended) = true)
    (a_law_filled : PySem.W.nsIn K mainGlobals "_law_filled" = some (some (.ref f_law_filled))) (l_law_filled : K.lookup f_law_filled = some ⟨oc_law_filled, od_law_filled, .func (PySem.W.fnOf "_law_filled" "_law_filled" (defArgs sFilled) (defBody sFilled) (defScope sFilled) .none kV_law_filled dc_law_filled pm_law_filled an_law_filled cd_law_filled ct_law_filled), sl_law_filled⟩) (c_law_filled : PySem.W.codeIn K cd_law_filled "_law_filled" = true) (k_law_filled : PySem.W.keepIn K (.ref f_law_filled) = true)
    (alaw : PySem.W.nsIn K mainGlobals "law" = some (some (.ref flaw))) (llaw : K.lookup flaw = some ⟨oclaw, odlaw, .func (PySem.W.fnOf "law" "law" (defArgs sLaw) (defBody sLaw) (defScope sLaw) .none kVlaw dclaw pmlaw anlaw cdlaw ctlaw), sllaw⟩) (claw : PySem.W.codeIn K cdlaw "law" = true) (klaw : PySem.W.keepIn K (.ref flaw) = true)
    (aFIGURES : PySem.W.nsIn K mainGlobals "FIGURES" = some (some (.str "0123456789" tFIGURES)))
    (aSMALL_LETTERS : PySem.W.nsIn K mainGlobals "SMALL_LETTERS" = some (some (.str "abcdefghijklmnopqrstuvwxyz" tSMALL_LETTERS)))
    (aLONGEST_NAME : PySem.W.nsIn K mainGlobals "LONGEST_NAME" = some (some (.int 8 tLONGEST_NAME)))
    (aMOST_BOATS : PySem.W.nsIn K mainGlobals "MOST_BOATS" = some (some (.int 10 tMOST_BOATS)))
    (aMOST_BORNE : PySem.W.nsIn K mainGlobals "MOST_BORNE" = some (some (.int 1000000 tMOST_BORNE)))
    (zIndexError : PySem.W.nsIn K mainGlobals "IndexError" = some none)
    (zKeyError : PySem.W.nsIn K mainGlobals "KeyError" = some none)
    (zOverflowError : PySem.W.nsIn K mainGlobals "OverflowError" = some none)
    (zValueError : PySem.W.nsIn K mainGlobals "ValueError" = some none)
    (zall : PySem.W.nsIn K mainGlobals "all" = some none)
    (zbool : PySem.W.nsIn K mainGlobals "bool" = some none)
    (zenumerate : PySem.W.nsIn K mainGlobals "enumerate" = some none)
    (zint : PySem.W.nsIn K mainGlobals "int" = some none)
    (zisinstance : PySem.W.nsIn K mainGlobals "isinstance" = some none)
    (zlen : PySem.W.nsIn K mainGlobals "len" = some none)
    (zlist : PySem.W.nsIn K mainGlobals "list" = some none)
    (zmax : PySem.W.nsIn K mainGlobals "max" = some none)
    (zmin : PySem.W.nsIn K mainGlobals "min" = some none)
    (zrange : PySem.W.nsIn K mainGlobals "range" = some none)
    (zstr : PySem.W.nsIn K mainGlobals "str" = some none)
    (zzip : PySem.W.nsIn K mainGlobals "zip" = some none)
    : ∃ fd : FuncData, (∀ (s : Shared) (v : Value), BindsTo s fd ⟨[v], []⟩ [("_law_script", v)]) ∧ ∀ base : Heap, K.In base → base.Ns mainGlobals mg → FnOkG l.prog w K mg base CX0 14 fa fd ["_law_script"] (spLaw K) := by
  have e := hfa.symm.trans (PySem.W.mg_of X G alaw)
  cases e
  have g_wall := PySem.W.mg_of X G a_wall
  have F_wall := fun_mk (st := sWall) l_wall c_wall k_wall
  have b_wall := F_wall.binds (ps := ["k"]) fun _ _ _ _ _ _ us hl => match us, hl with | [_], _ => rfl
  have gis_whole := PySem.W.mg_of X G ais_whole
  have Fis_whole := fun_mk (st := sIsW) lis_whole cis_whole kis_whole
  have bis_whole := Fis_whole.binds (ps := ["thing", "least", "most"]) fun _ _ _ _ _ _ us hl => match us, hl with | [_, _, _], _ => rfl
  have gis_name := PySem.W.mg_of X G ais_name
  have Fis_name := fun_mk (st := sIsName) lis_name cis_name kis_name
  have bis_name := Fis_name.binds (ps := ["thing"]) fun _ _ _ _ _ _ us hl => match us, hl with | [_], _ => rfl
  have ghas_only := PySem.W.mg_of X G ahas_only
  have Fhas_only := fun_mk (st := sHas) lhas_only chas_only khas_only
  have bhas_only := Fhas_only.binds (ps := ["word", "signs"]) fun _ _ _ _ _ _ us hl => match us, hl with | [_, _], _ => rfl
  have gnumber_of := PySem.W.mg_of X G anumber_of
  have Fnumber_of := fun_mk (st := sNumberOf) lnumber_of cnumber_of knumber_of
  have bnumber_of := Fnumber_of.binds (ps := ["word", "most"]) fun _ _ _ _ _ _ us hl => match us, hl with | [_, _], _ => rfl
  have ghalves := PySem.W.mg_of X G ahalves
  have Fhalves := fun_mk (st := sHalves) lhalves chalves khalves
  have bhalves := Fhalves.binds (ps := ["bridge", "load"]) fun _ _ _ _ _ _ us hl => match us, hl with | [_, _], _ => rfl
  have gspare := PySem.W.mg_of X G aspare
  have Fspare := fun_mk (st := sSpare) lspare cspare kspare
  have bspare := Fspare.binds (ps := ["boat", "many"]) fun _ _ _ _ _ _ us hl => match us, hl with | [_, _], _ => rfl
  have gneed_borne := PySem.W.mg_of X G aneed_borne
  have Fneed_borne := fun_mk (st := sNeed) lneed_borne cneed_borne kneed_borne
  have bneed_borne := Fneed_borne.binds (ps := ["bridge", "load"]) fun _ _ _ _ _ _ us hl => match us, hl with | [_, _], _ => rfl
  have gis_borne := PySem.W.mg_of X G ais_borne
  have Fis_borne := fun_mk (st := sBorne) lis_borne cis_borne kis_borne
  have bis_borne := Fis_borne.binds (ps := ["bridge", "load"]) fun _ _ _ _ _ _ us hl => match us, hl with | [_, _], _ => rfl
  have groom_at := PySem.W.mg_of X G aroom_at
  have Froom_at := fun_mk (st := sRoom) lroom_at croom_at kroom_at
  have broom_at := Froom_at.binds (ps := ["bridge", "load", "at"]) fun _ _ _ _ _ _ us hl => match us, hl with | [_, _, _], _ => rfl
  have gread_bridge := PySem.W.mg_of X G aread_bridge
  have Fread_bridge := fun_mk (st := sReadBridge) lread_bridge cread_bridge kread_bridge
  have bread_bridge := Fread_bridge.binds (ps := ["text"]) fun _ _ _ _ _ _ us hl => match us, hl with | [_], _ => rfl
  have g_are_boats := PySem.W.mg_of X G a_are_boats
  have F_are_boats := fun_mk (st := sAreB) l_are_boats c_are_boats k_are_boats
  have b_are_boats := F_are_boats.binds (ps := ["thing"]) fun _ _ _ _ _ _ us hl => match us, hl with | [_], _ => rfl
  have g_are_spans := PySem.W.mg_of X G a_are_spans
  have F_are_spans := fun_mk (st := sAreS) l_are_spans c_are_spans k_are_spans
  have b_are_spans := F_are_spans.binds (ps := ["thing"]) fun _ _ _ _ _ _ us hl => match us, hl with | [_], _ => rfl
  have g_boat_of := PySem.W.mg_of X G a_boat_of
  have F_boat_of := fun_mk (st := sBoatOf) l_boat_of c_boat_of k_boat_of
  have b_boat_of := F_boat_of.binds (ps := ["word"]) fun _ _ _ _ _ _ us hl => match us, hl with | [_], _ => rfl
  have g_span_of := PySem.W.mg_of X G a_span_of
  have F_span_of := fun_mk (st := sSpanOf) l_span_of c_span_of k_span_of
  have b_span_of := F_span_of.binds (ps := ["word"]) fun _ _ _ _ _ _ us hl => match us, hl with | [_], _ => rfl
  have g_law_tape := PySem.W.mg_of X G a_law_tape
  have F_law_tape := fun_mk (st := sTape) l_law_tape c_law_tape k_law_tape
  have b_law_tape := F_law_tape.binds (ps := ["_law_script"]) fun _ _ _ _ _ _ us hl => match us, hl with | [_], _ => rfl
  have g_law_draw := PySem.W.mg_of X G a_law_draw
  have F_law_draw := fun_mk (st := sDraw) l_law_draw c_law_draw k_law_draw
  have b_law_draw := F_law_draw.binds (ps := ["_law_tape_here", "_law_many"]) fun _ _ _ _ _ _ us hl => match us, hl with | [_, _], _ => rfl
  have g_law_pick := PySem.W.mg_of X G a_law_pick
  have F_law_pick := fun_mk (st := sPick) l_law_pick c_law_pick k_law_pick
  have b_law_pick := F_law_pick.binds (ps := ["_law_tape_here", "_law_some"]) fun _ _ _ _ _ _ us hl => match us, hl with | [_, _], _ => rfl
  have g_law_names := PySem.W.mg_of X G a_law_names
  have F_law_names := fun_mk (st := sNames) l_law_names c_law_names k_law_names
  have b_law_names := F_law_names.binds (ps := ["_law_tape_here", "_law_many"]) fun _ _ _ _ _ _ us hl => match us, hl with | [_, _], _ => rfl
  have g_law_boat_rows := PySem.W.mg_of X G a_law_boat_rows
  have F_law_boat_rows := fun_mk (st := sBRows) l_law_boat_rows c_law_boat_rows k_law_boat_rows
  have b_law_boat_rows := F_law_boat_rows.binds (ps := ["_law_tape_here", "_law_names_here"]) fun _ _ _ _ _ _ us hl => match us, hl with | [_, _], _ => rfl
  have g_law_span_row := PySem.W.mg_of X G a_law_span_row
  have F_law_span_row := fun_mk (st := sSRow) l_law_span_row c_law_span_row k_law_span_row
  have b_law_span_row := F_law_span_row.binds (ps := ["_law_tape_here", "_law_many"]) fun _ _ _ _ _ _ us hl => match us, hl with | [_, _], _ => rfl
  have g_law_drawn_parts := PySem.W.mg_of X G a_law_drawn_parts
  have F_law_drawn_parts := fun_mk (st := sDParts) l_law_drawn_parts c_law_drawn_parts k_law_drawn_parts
  have b_law_drawn_parts := F_law_drawn_parts.binds (ps := ["_law_tape_here"]) fun _ _ _ _ _ _ us hl => match us, hl with | [_], _ => rfl
  have g_law_made := PySem.W.mg_of X G a_law_made
  have F_law_made := fun_mk (st := sMade) l_law_made c_law_made k_law_made
  have b_law_made := F_law_made.binds (ps := ["_law_parts"]) fun _ _ _ _ _ _ us hl => match us, hl with | [_], _ => rfl
  have g_law_weights := PySem.W.mg_of X G a_law_weights
  have F_law_weights := fun_mk (st := sWeights) l_law_weights c_law_weights k_law_weights
  have b_law_weights := F_law_weights.binds (ps := ["_law_tape_here", "_law_parts"]) fun _ _ _ _ _ _ us hl => match us, hl with | [_, _], _ => rfl
  have g_law_fault_told := PySem.W.mg_of X G a_law_fault_told
  have F_law_fault_told := fun_mk (st := sFaultTold) l_law_fault_told c_law_fault_told k_law_fault_told
  have b_law_fault_told := F_law_fault_told.binds (ps := ["_law_bridge", "_law_load"]) fun _ _ _ _ _ _ us hl => match us, hl with | [_, _], _ => rfl
  have g_law_put := PySem.W.mg_of X G a_law_put
  have F_law_put := fun_mk (st := sPut) l_law_put c_law_put k_law_put
  have b_law_put := F_law_put.binds (ps := ["_law_load", "_law_at", "_law_more"]) fun _ _ _ _ _ _ us hl => match us, hl with | [_, _, _], _ => rfl
  have g_law_mended := PySem.W.mg_of X G a_law_mended
  have F_law_mended := fun_mk (st := sMended) l_law_mended c_law_mended k_law_mended
  have b_law_mended := F_law_mended.binds (ps := ["_law_tape_here", "_law_bridge", "_law_load"]) fun _ _ _ _ _ _ us hl => match us, hl with | [_, _, _], _ => rfl
  have g_law_filled := PySem.W.mg_of X G a_law_filled
  have F_law_filled := fun_mk (st := sFilled) l_law_filled c_law_filled k_law_filled
  have b_law_filled := F_law_filled.binds (ps := ["_law_tape_here", "_law_bridge", "_law_load"]) fun _ _ _ _ _ _ us hl => match us, hl with | [_, _, _], _ => rfl
  have glaw := PySem.W.mg_of X G alaw
  have Flaw := fun_mk (st := sLaw) llaw claw klaw
  have blaw := Flaw.binds (ps := ["_law_script"]) fun _ _ _ _ _ _ us hl => match us, hl with | [_], _ => rfl
  have oxOverload := oex_of PySem.F.excBase_OverflowError PySem.F.store_OverflowError xlOverload (by decide +kernel) hdOverload saOverload exOverload tyOverload kcOverload
  have oxNoSpan := oex_of PySem.F.excBase_IndexError PySem.F.store_IndexError xlNoSpan (by decide +kernel) hdNoSpan saNoSpan exNoSpan tyNoSpan kcNoSpan
  have gCBoat := PySem.W.mg_of X G aBoat
  have FBoat___init__ := fun_mk (st := sBInit) lBoat___init__ cBoat___init__ kBoat___init__
  have bBoat___init__ := FBoat___init__.binds (ps := ["self", "name", "bears"]) fun _ _ _ _ _ _ us hl => match us, hl with | [_, _, _], _ => rfl
  have FBoat___eq__ := fun_mk (st := sBEq) lBoat___eq__ cBoat___eq__ kBoat___eq__
  have bBoat___eq__ := FBoat___eq__.binds (ps := ["self", "other"]) fun _ _ _ _ _ _ us hl => match us, hl with | [_, _], _ => rfl
  have FBoat___str__ := fun_mk (st := sBStr) lBoat___str__ cBoat___str__ kBoat___str__
  have bBoat___str__ := FBoat___str__.binds (ps := ["self"]) fun _ _ _ _ _ _ us hl => match us, hl with | [_], _ => rfl
  have FBoat___repr__ := fun_mk (st := sBRepr) lBoat___repr__ cBoat___repr__ kBoat___repr__
  have bBoat___repr__ := FBoat___repr__.binds (ps := ["self"]) fun _ _ _ _ _ _ us hl => match us, hl with | [_], _ => rfl
  have gCBridge := PySem.W.mg_of X G aBridge
  have FBridge___init__ := fun_mk (st := sBrInit) lBridge___init__ cBridge___init__ kBridge___init__
  have bBridge___init__ := FBridge___init__.binds (ps := ["self", "boats", "spans"]) fun _ _ _ _ _ _ us hl => match us, hl with | [_, _, _], _ => rfl
  have FBridge___eq__ := fun_mk (st := sBridgeEq) lBridge___eq__ cBridge___eq__ kBridge___eq__
  have bBridge___eq__ := FBridge___eq__.binds (ps := ["self", "other"]) fun _ _ _ _ _ _ us hl => match us, hl with | [_, _], _ => rfl
  have FBridge___len__ := fun_mk (st := sBrLen) lBridge___len__ cBridge___len__ kBridge___len__
  have bBridge___len__ := FBridge___len__.binds (ps := ["self"]) fun _ _ _ _ _ _ us hl => match us, hl with | [_], _ => rfl
  have FBridge___str__ := fun_mk (st := sBridgeStr) lBridge___str__ cBridge___str__ kBridge___str__
  have bBridge___str__ := FBridge___str__.binds (ps := ["self"]) fun _ _ _ _ _ _ us hl => match us, hl with | [_], _ => rfl
  have FBridge_boats := fun_mk (st := sBrBoats) lBridge_boats cBridge_boats kBridge_boats
  have bBridge_boats := FBridge_boats.binds (ps := ["self"]) fun _ _ _ _ _ _ us hl => match us, hl with | [_], _ => rfl
  have FBridge_spans := fun_mk (st := sBrSpans) lBridge_spans cBridge_spans kBridge_spans
  have bBridge_spans := FBridge_spans.binds (ps := ["self"]) fun _ _ _ _ _ _ us hl => match us, hl with | [_], _ => rfl
  have FBridge_boat := fun_mk (st := sBridgeBoat) lBridge_boat cBridge_boat kBridge_boat
  have bBridge_boat := FBridge_boat.binds (ps := ["self", "name"]) fun _ _ _ _ _ _ us hl => match us, hl with | [_, _], _ => rfl
  have FBridge_with_boat := fun_mk (st := sBridgeWithBoat) lBridge_with_boat cBridge_with_boat kBridge_with_boat
  have bBridge_with_boat := FBridge_with_boat.binds (ps := ["self", "at", "boat"]) fun _ _ _ _ _ _ us hl => match us, hl with | [_, _, _], _ => rfl
  have gCOverload := PySem.W.mg_of X G aOverload
  have FOverload___init__ := fun_mk (st := sOInit) lOverload___init__ cOverload___init__ kOverload___init__
  have bOverload___init__ := FOverload___init__.binds (ps := ["self", "part", "at", "over"]) fun _ _ _ _ _ _ us hl => match us, hl with | [_, _, _, _], _ => rfl
  have gCNoSpan := PySem.W.mg_of X G aNoSpan
  have FNoSpan___init__ := fun_mk (st := sNSInit) lNoSpan___init__ cNoSpan___init__ kNoSpan___init__
  have bNoSpan___init__ := FNoSpan___init__.binds (ps := ["self", "at"]) fun _ _ _ _ _ _ us hl => match us, hl with | [_, _], _ => rfl
  have mFIGURES := PySem.W.mg_of X G aFIGURES
  have mSMALL_LETTERS := PySem.W.mg_of X G aSMALL_LETTERS
  have mLONGEST_NAME := PySem.W.mg_of X G aLONGEST_NAME
  have mMOST_BOATS := PySem.W.mg_of X G aMOST_BOATS
  have mMOST_BORNE := PySem.W.mg_of X G aMOST_BORNE
  have mIndexError := PySem.W.mg_none_of X G zIndexError
  have mKeyError := PySem.W.mg_none_of X G zKeyError
  have mOverflowError := PySem.W.mg_none_of X G zOverflowError
  have mValueError := PySem.W.mg_none_of X G zValueError
  have mall := PySem.W.mg_none_of X G zall
  have mbool := PySem.W.mg_none_of X G zbool
  have menumerate := PySem.W.mg_none_of X G zenumerate
  have mint := PySem.W.mg_none_of X G zint
  have misinstance := PySem.W.mg_none_of X G zisinstance
  have mlen := PySem.W.mg_none_of X G zlen
  have mlist := PySem.W.mg_none_of X G zlist
  have mmax := PySem.W.mg_none_of X G zmax
  have mmin := PySem.W.mg_none_of X G zmin
  have mrange := PySem.W.mg_none_of X G zrange
  have mstr := PySem.W.mg_none_of X G zstr
  have mzip := PySem.W.mg_none_of X G zzip
  exact ⟨_, fun s v => .of_eq rfl, fun base _ _ => ok_law ({ f_wall := _, fd_wall := _, F_wall := F_wall, b_wall := b_wall, g_wall := g_wall, fis_whole := _, fdis_whole := _, Fis_whole := Fis_whole, bis_whole := bis_whole, gis_whole := gis_whole, fis_name := _, fdis_name := _, Fis_name := Fis_name, bis_name := bis_name, gis_name := gis_name, fhas_only := _, fdhas_only := _, Fhas_only := Fhas_only, bhas_only := bhas_only, ghas_only := ghas_only, fnumber_of := _, fdnumber_of := _, Fnumber_of := Fnumber_of, bnumber_of := bnumber_of, gnumber_of := gnumber_of, fhalves := _, fdhalves := _, Fhalves := Fhalves, bhalves := bhalves, ghalves := ghalves, fspare := _, fdspare := _, Fspare := Fspare, bspare := bspare, gspare := gspare, fneed_borne := _, fdneed_borne := _, Fneed_borne := Fneed_borne, bneed_borne := bneed_borne, gneed_borne := gneed_borne, fis_borne := _, fdis_borne := _, Fis_borne := Fis_borne, bis_borne := bis_borne, gis_borne := gis_borne, froom_at := _, fdroom_at := _, Froom_at := Froom_at, broom_at := broom_at, groom_at := groom_at, fread_bridge := _, fdread_bridge := _, Fread_bridge := Fread_bridge, bread_bridge := bread_bridge, gread_bridge := gread_bridge, f_are_boats := _, fd_are_boats := _, F_are_boats := F_are_boats, b_are_boats := b_are_boats, g_are_boats := g_are_boats, f_are_spans := _, fd_are_spans := _, F_are_spans := F_are_spans, b_are_spans := b_are_spans, g_are_spans := g_are_spans, f_boat_of := _, fd_boat_of := _, F_boat_of := F_boat_of, b_boat_of := b_boat_of, g_boat_of := g_boat_of, f_span_of := _, fd_span_of := _, F_span_of := F_span_of, b_span_of := b_span_of, g_span_of := g_span_of, f_law_tape := _, fd_law_tape := _, F_law_tape := F_law_tape, b_law_tape := b_law_tape, g_law_tape := g_law_tape, f_law_draw := _, fd_law_draw := _, F_law_draw := F_law_draw, b_law_draw := b_law_draw, g_law_draw := g_law_draw, f_law_pick := _, fd_law_pick := _, F_law_pick := F_law_pick, b_law_pick := b_law_pick, g_law_pick := g_law_pick, f_law_names := _, fd_law_names := _, F_law_names := F_law_names, b_law_names := b_law_names, g_law_names := g_law_names, f_law_boat_rows := _, fd_law_boat_rows := _, F_law_boat_rows := F_law_boat_rows, b_law_boat_rows := b_law_boat_rows, g_law_boat_rows := g_law_boat_rows, f_law_span_row := _, fd_law_span_row := _, F_law_span_row := F_law_span_row, b_law_span_row := b_law_span_row, g_law_span_row := g_law_span_row, f_law_drawn_parts := _, fd_law_drawn_parts := _, F_law_drawn_parts := F_law_drawn_parts, b_law_drawn_parts := b_law_drawn_parts, g_law_drawn_parts := g_law_drawn_parts, f_law_made := _, fd_law_made := _, F_law_made := F_law_made, b_law_made := b_law_made, g_law_made := g_law_made, f_law_weights := _, fd_law_weights := _, F_law_weights := F_law_weights, b_law_weights := b_law_weights, g_law_weights := g_law_weights, f_law_fault_told := _, fd_law_fault_told := _, F_law_fault_told := F_law_fault_told, b_law_fault_told := b_law_fault_told, g_law_fault_told := g_law_fault_told, f_law_put := _, fd_law_put := _, F_law_put := F_law_put, b_law_put := b_law_put, g_law_put := g_law_put, f_law_mended := _, fd_law_mended := _, F_law_mended := F_law_mended, b_law_mended := b_law_mended, g_law_mended := g_law_mended, f_law_filled := _, fd_law_filled := _, F_law_filled := F_law_filled, b_law_filled := b_law_filled, g_law_filled := g_law_filled, flaw := _, fdlaw := _, Flaw := Flaw, blaw := blaw, glaw := glaw, fBoat___init__ := _, fdBoat___init__ := _, FBoat___init__ := FBoat___init__, bBoat___init__ := bBoat___init__, fBoat___eq__ := _, fdBoat___eq__ := _, FBoat___eq__ := FBoat___eq__, bBoat___eq__ := bBoat___eq__, fBoat___str__ := _, fdBoat___str__ := _, FBoat___str__ := FBoat___str__, bBoat___str__ := bBoat___str__, fBoat___repr__ := _, fdBoat___repr__ := _, FBoat___repr__ := FBoat___repr__, bBoat___repr__ := bBoat___repr__, fBridge___init__ := _, fdBridge___init__ := _, FBridge___init__ := FBridge___init__, bBridge___init__ := bBridge___init__, fBridge___eq__ := _, fdBridge___eq__ := _, FBridge___eq__ := FBridge___eq__, bBridge___eq__ := bBridge___eq__, fBridge___len__ := _, fdBridge___len__ := _, FBridge___len__ := FBridge___len__, bBridge___len__ := bBridge___len__, fBridge___str__ := _, fdBridge___str__ := _, FBridge___str__ := FBridge___str__, bBridge___str__ := bBridge___str__, fBridge_boats := _, fdBridge_boats := _, FBridge_boats := FBridge_boats, bBridge_boats := bBridge_boats, fBridge_spans := _, fdBridge_spans := _, FBridge_spans := FBridge_spans, bBridge_spans := bBridge_spans, fBridge_boat := _, fdBridge_boat := _, FBridge_boat := FBridge_boat, bBridge_boat := bBridge_boat, fBridge_with_boat := _, fdBridge_with_boat := _, FBridge_with_boat := FBridge_with_boat, bBridge_with_boat := bBridge_with_boat, fOverload___init__ := _, fdOverload___init__ := _, FOverload___init__ := FOverload___init__, bOverload___init__ := bOverload___init__, fNoSpan___init__ := _, fdNoSpan___init__ := _, FNoSpan___init__ := FNoSpan___init__, bNoSpan___init__ := bNoSpan___init__, tFIGURES := _, mFIGURES := mFIGURES, tSMALL_LETTERS := _, mSMALL_LETTERS := mSMALL_LETTERS, tLONGEST_NAME := _, mLONGEST_NAME := mLONGEST_NAME, tMOST_BOATS := _, mMOST_BOATS := mMOST_BOATS, tMOST_BORNE := _, mMOST_BORNE := mMOST_BORNE, mIndexError := mIndexError, mKeyError := mKeyError, mOverflowError := mOverflowError, mValueError := mValueError, mall := mall, mbool := mbool, menumerate := menumerate, mint := mint, misinstance := misinstance, mlen := mlen, mlist := mlist, mmax := mmax, mmin := mmin, mrange := mrange, mstr := mstr, mzip := mzip, CBoat := _, CBridge := _, COverload := _, CNoSpan := _, gCOverload := gCOverload, oxOverload := oxOverload, exOverload := exOverload, hdOverload := hdOverload, tyOverload := tyOverload, icOverload := icOverload, seOverload := seOverload, upOverload := upOverload, gaOverload := gaOverload, ggOverload := ggOverload, haOverload := haOverload, hnOverload := hnOverload, htOverload := htOverload, hmOverload := hmOverload, nOverload_part := nOverload_part, nOverload_at := nOverload_at, nOverload_over := nOverload_over, aOverload___init__ := aOverload___init__, iOverload___init__ := iOverload___init__, kOverload___init__ := kOverload___init__, gCNoSpan := gCNoSpan, oxNoSpan := oxNoSpan, exNoSpan := exNoSpan, hdNoSpan := hdNoSpan, tyNoSpan := tyNoSpan, icNoSpan := icNoSpan, seNoSpan := seNoSpan, upNoSpan := upNoSpan, gaNoSpan := gaNoSpan, ggNoSpan := ggNoSpan, haNoSpan := haNoSpan, hnNoSpan := hnNoSpan, htNoSpan := htNoSpan, hmNoSpan := hmNoSpan, nNoSpan_at := nNoSpan_at, aNoSpan___init__ := aNoSpan___init__, iNoSpan___init__ := iNoSpan___init__, kNoSpan___init__ := kNoSpan___init__, gCBoat := gCBoat, pgBoat := pgBoat, hdBoat := hdBoat, poBoat := poBoat, saBoat := saBoat, mkBoat := mkBoat, kcBoat := kcBoat, haBoat := haBoat, hnBoat := hnBoat, htBoat := htBoat, hmBoat := hmBoat, nfBoat := nfBoat, nBoat_name := nBoat_name, nBoat_bears := nBoat_bears, neBoat := neBoat, icBoat := icBoat, tyBoat := tyBoat, subBoat_NoneType := subBoat_NoneType, kitBoat_NoneType := kitBoat_NoneType, ntBoat_NoneType := ntBoat_NoneType, subBoat_int := subBoat_int, kitBoat_int := kitBoat_int, ntBoat_int := ntBoat_int, subBoat_str := subBoat_str, kitBoat_str := kitBoat_str, ntBoat_str := ntBoat_str, subBoat_list := subBoat_list, kitBoat_list := kitBoat_list, ntBoat_list := ntBoat_list, subBoat_tuple := subBoat_tuple, kitBoat_tuple := kitBoat_tuple, ntBoat_tuple := ntBoat_tuple, subBoat_dict := subBoat_dict, kitBoat_dict := kitBoat_dict, ntBoat_dict := ntBoat_dict, fmBoat := fmBoat, aBoat___init__ := aBoat___init__, iBoat___init__ := iBoat___init__, kBoat___init__ := kBoat___init__, aBoat___eq__ := aBoat___eq__, iBoat___eq__ := iBoat___eq__, kBoat___eq__ := kBoat___eq__, aBoat___str__ := aBoat___str__, iBoat___str__ := iBoat___str__, kBoat___str__ := kBoat___str__, aBoat___repr__ := aBoat___repr__, iBoat___repr__ := iBoat___repr__, kBoat___repr__ := kBoat___repr__, gCBridge := gCBridge, pgBridge := pgBridge, hdBridge := hdBridge, poBridge := poBridge, saBridge := saBridge, mkBridge := mkBridge, kcBridge := kcBridge, haBridge := haBridge, hnBridge := hnBridge, htBridge := htBridge, hmBridge := hmBridge, nfBridge := nfBridge, nBridge__boats := nBridge__boats, nBridge__spans := nBridge__spans, neBridge := neBridge, icBridge := icBridge, tyBridge := tyBridge, subBridge_NoneType := subBridge_NoneType, kitBridge_NoneType := kitBridge_NoneType, ntBridge_NoneType := ntBridge_NoneType, subBridge_int := subBridge_int, kitBridge_int := kitBridge_int, ntBridge_int := ntBridge_int, subBridge_str := subBridge_str, kitBridge_str := kitBridge_str, ntBridge_str := ntBridge_str, subBridge_list := subBridge_list, kitBridge_list := kitBridge_list, ntBridge_list := ntBridge_list, subBridge_tuple := subBridge_tuple, kitBridge_tuple := kitBridge_tuple, ntBridge_tuple := ntBridge_tuple, subBridge_dict := subBridge_dict, kitBridge_dict := kitBridge_dict, ntBridge_dict := ntBridge_dict, blBridge := blBridge, aBridge___init__ := aBridge___init__, iBridge___init__ := iBridge___init__, kBridge___init__ := kBridge___init__, aBridge___eq__ := aBridge___eq__, iBridge___eq__ := iBridge___eq__, kBridge___eq__ := kBridge___eq__, aBridge___len__ := aBridge___len__, iBridge___len__ := iBridge___len__, kBridge___len__ := kBridge___len__, aBridge___str__ := aBridge___str__, iBridge___str__ := iBridge___str__, kBridge___str__ := kBridge___str__, aBridge_boats := aBridge_boats, iBridge_boats := iBridge_boats, kBridge_boats := kBridge_boats, aBridge_spans := aBridge_spans, iBridge_spans := iBridge_spans, kBridge_spans := kBridge_spans, aBridge_boat := aBridge_boat, iBridge_boat := iBridge_boat, kBridge_boat := kBridge_boat, aBridge_with_boat := aBridge_with_boat, iBridge_with_boat := iBridge_with_boat, kBridge_with_boat := kBridge_with_boat } : Ev K mg)⟩
end Bb
open PySem PySem.W PyProof.Rows
set_option maxHeartbeats 0 in
theorem PySem.Challenge.cw_boatbridge_k15_whole_loads_up_to_the_bri_holds : PySem.Challenge.rw_boatbridge_k15_whole_loads_up_to_the_bri.Holds := by
  w_on; o_law; k_head; (case hw => w_witness2)
  k_fill
  refine Bb.walkG (l := PySem.Challenge.rw_boatbridge_k15_whole_loads_up_to_the_bri) (n := 63) (k := 14) (x := "_law_script") (sp := fun w => Bb.spLaw _) rfl (by decide) rfl ⟨rfl, by decide, by decide⟩ (fun w h Y => PySem.W.kIn_of Y) ?F (fun _ _ a ns hl _ hS => ⟨a, ns, rfl, hS, hl, fun _ => rfl⟩)
  case F =>
    intro w mg fa h KX G hmg
    refine' Bb.all_mk KX G hmg ?aOverload ?aNoSpan ?xlOverload ?hdOverload ?saOverload ?exOverload ?tyOverload ?kcOverload ?icOverload ?seOverload ?upOverload ?gaOverload ?ggOverload ?haOverload ?hnOverload ?htOverload ?hmOverload ?nOverload_part ?nOverload_at ?nOverload_over ?xlNoSpan ?hdNoSpan ?saNoSpan ?exNoSpan ?tyNoSpan ?kcNoSpan ?icNoSpan ?seNoSpan ?upNoSpan ?gaNoSpan ?ggNoSpan ?haNoSpan ?hnNoSpan ?htNoSpan ?hmNoSpan ?nNoSpan_at ?aBoat ?pgBoat ?hdBoat ?poBoat ?saBoat ?mkBoat ?kcBoat ?haBoat ?hnBoat ?htBoat ?hmBoat ?nfBoat ?nBoat_name ?nBoat_bears ?neBoat ?icBoat ?tyBoat ?subBoat_NoneType ?kitBoat_NoneType ?ntBoat_NoneType ?subBoat_int ?kitBoat_int ?ntBoat_int ?subBoat_str ?kitBoat_str ?ntBoat_str ?subBoat_list ?kitBoat_list ?ntBoat_list ?subBoat_tuple ?kitBoat_tuple ?ntBoat_tuple ?subBoat_dict ?kitBoat_dict ?ntBoat_dict ?fmBoat ?aBoat___init__ ?iBoat___init__ ?lBoat___init__ ?cBoat___init__ ?kBoat___init__ ?aBoat___eq__ ?iBoat___eq__ ?lBoat___eq__ ?cBoat___eq__ ?kBoat___eq__ ?aBoat___str__ ?iBoat___str__ ?lBoat___str__ ?cBoat___str__ ?kBoat___str__ ?aBoat___repr__ ?iBoat___repr__ ?lBoat___repr__ ?cBoat___repr__ ?kBoat___repr__ ?aBridge ?pgBridge ?hdBridge ?poBridge ?saBridge ?mkBridge ?kcBridge ?haBridge ?hnBridge ?htBridge ?hmBridge ?nfBridge ?nBridge__boats ?nBridge__spans ?neBridge ?icBridge ?tyBridge ?subBridge_NoneType ?kitBridge_NoneType ?ntBridge_NoneType ?subBridge_int ?kitBridge_int ?ntBridge_int ?subBridge_str ?kitBridge_str ?ntBridge_str ?subBridge_list ?kitBridge_list ?ntBridge_list ?subBridge_tuple ?kitBridge_tuple ?ntBridge_tuple ?subBridge_dict ?kitBridge_dict ?ntBridge_dict ?blBridge ?aBridge___init__ ?iBridge___init__ ?lBridge___init__ ?cBridge___init__ ?kBridge___init__ ?aBridge___eq__ ?iBridge___eq__ ?lBridge___eq__ ?cBridge___eq__ ?kBridge___eq__ ?aBridge___len__ ?iBridge___len__ ?lBridge___len__ ?cBridge___len__ ?kBridge___len__ ?aBridge___str__ ?iBridge___str__ ?lBridge___str__ ?cBridge___str__ ?kBridge___str__ ?aBridge_boats ?iBridge_boats ?lBridge_boats ?cBridge_boats ?kBridge_boats ?aBridge_spans ?iBridge_spans ?lBridge_spans ?cBridge_spans ?kBridge_spans ?aBridge_boat ?iBridge_boat ?lBridge_boat ?cBridge_boat ?kBridge_boat ?aBridge_with_boat ?iBridge_with_boat ?lBridge_with_boat ?cBridge_with_boat ?kBridge_with_boat ?aOverload___init__ ?iOverload___init__ ?lOverload___init__ ?cOverload___init__ ?kOverload___init__ ?aNoSpan___init__ ?iNoSpan___init__ ?lNoSpan___init__ ?cNoSpan___init__ ?kNoSpan___init__ ?a_wall ?l_wall ?c_wall ?k_wall ?ais_whole ?lis_whole ?cis_whole ?kis_whole ?ais_name ?lis_name ?cis_name ?kis_name ?ahas_only ?lhas_only ?chas_only ?khas_only ?anumber_of ?lnumber_of ?cnumber_of ?knumber_of ?ahalves ?lhalves ?chalves ?khalves ?aspare ?lspare ?cspare ?kspare ?aneed_borne ?lneed_borne ?cneed_borne ?kneed_borne ?ais_borne ?lis_borne ?cis_borne ?kis_borne ?aroom_at ?lroom_at ?croom_at ?kroom_at ?aread_bridge ?lread_bridge ?cread_bridge ?kread_bridge ?a_are_boats ?l_are_boats ?c_are_boats ?k_are_boats ?a_are_spans ?l_are_spans ?c_are_spans ?k_are_spans ?a_boat_of ?l_boat_of ?c_boat_of ?k_boat_of ?a_span_of ?l_span_of ?c_span_of ?k_span_of ?a_law_tape ?l_law_tape ?c_law_tape ?k_law_tape ?a_law_draw ?l_law_draw ?c_law_draw ?k_law_draw ?a_law_pick ?l_law_pick ?c_law_pick ?k_law_pick ?a_law_names ?l_law_names ?c_law_names ?k_law_names ?a_law_boat_rows ?l_law_boat_rows ?c_law_boat_rows ?k_law_boat_rows ?a_law_span_row ?l_law_span_row ?c_law_span_row ?k_law_span_row ?a_law_drawn_parts ?l_law_drawn_parts ?c_law_drawn_parts ?k_law_drawn_parts ?a_law_made ?l_law_made ?c_law_made ?k_law_made ?a_law_weights ?l_law_weights ?c_law_weights ?k_law_weights ?a_law_fault_told ?l_law_fault_told ?c_law_fault_told ?k_law_fault_told ?a_law_put ?l_law_put ?c_law_put ?k_law_put ?a_law_mended ?l_law_mended ?c_law_mended ?k_law_mended ?a_law_filled ?l_law_filled ?c_law_filled ?k_law_filled ?alaw ?llaw ?claw ?klaw ?aFIGURES ?aSMALL_LETTERS ?aLONGEST_NAME ?aMOST_BOATS ?aMOST_BORNE ?zIndexError ?zKeyError ?zOverflowError ?zValueError ?zall ?zbool ?zenumerate ?zint ?zisinstance ?zlen ?zlist ?zmax ?zmin ?zrange ?zstr ?zzip
    (case aOverload => k_is)
    (case aNoSpan => k_is)
    (case xlOverload => k_is)
    (case hdOverload => k_is)
    (case saOverload => k_is)
    (case exOverload => k_is)
    (case tyOverload => k_is)
    (case kcOverload => k_is)
    (case icOverload => k_is)
    (case seOverload => k_is)
    (case upOverload => k_is)
    (case gaOverload => k_is)
    (case ggOverload => k_is)
    (case haOverload => k_is)
    (case hnOverload => k_is)
    (case htOverload => k_is)
    (case hmOverload => k_is)
    (case nOverload_part => k_is)
    (case nOverload_at => k_is)
    (case nOverload_over => k_is)
    (case xlNoSpan => k_is)
    (case hdNoSpan => k_is)
    (case saNoSpan => k_is)
    (case exNoSpan => k_is)
    (case tyNoSpan => k_is)
    (case kcNoSpan => k_is)
    (case icNoSpan => k_is)
    (case seNoSpan => k_is)
    (case upNoSpan => k_is)
    (case gaNoSpan => k_is)
    (case ggNoSpan => k_is)
    (case haNoSpan => k_is)
    (case hnNoSpan => k_is)
    (case htNoSpan => k_is)
    (case hmNoSpan => k_is)
    (case nNoSpan_at => k_is)
    (case aBoat => k_is)
    (case pgBoat => k_is)
    (case hdBoat => k_is)
    (case poBoat => k_is)
    (case saBoat => k_is)
    (case mkBoat => k_is)
    (case kcBoat => k_is)
    (case haBoat => k_is)
    (case hnBoat => k_is)
    (case htBoat => k_is)
    (case hmBoat => k_is)
    (case nfBoat => k_is)
    (case nBoat_name => k_is)
    (case nBoat_bears => k_is)
    (case neBoat => k_is)
    (case icBoat => k_is)
    (case tyBoat => k_is)
    (case subBoat_NoneType => k_is)
    (case kitBoat_NoneType => k_is)
    (case ntBoat_NoneType => k_is)
    (case subBoat_int => k_is)
    (case kitBoat_int => k_is)
    (case ntBoat_int => k_is)
    (case subBoat_str => k_is)
    (case kitBoat_str => k_is)
    (case ntBoat_str => k_is)
    (case subBoat_list => k_is)
    (case kitBoat_list => k_is)
    (case ntBoat_list => k_is)
    (case subBoat_tuple => k_is)
    (case kitBoat_tuple => k_is)
    (case ntBoat_tuple => k_is)
    (case subBoat_dict => k_is)
    (case kitBoat_dict => k_is)
    (case ntBoat_dict => k_is)
    (case fmBoat => k_is)
    (case aBoat___init__ => k_is)
    (case iBoat___init__ => k_is)
    (case lBoat___init__ => k_is)
    (case cBoat___init__ => k_is)
    (case kBoat___init__ => k_is)
    (case aBoat___eq__ => k_is)
    (case iBoat___eq__ => k_is)
    (case lBoat___eq__ => k_is)
    (case cBoat___eq__ => k_is)
    (case kBoat___eq__ => k_is)
    (case aBoat___str__ => k_is)
    (case iBoat___str__ => k_is)
    (case lBoat___str__ => k_is)
    (case cBoat___str__ => k_is)
    (case kBoat___str__ => k_is)
    (case aBoat___repr__ => k_is)
    (case iBoat___repr__ => k_is)
    (case lBoat___repr__ => k_is)
    (case cBoat___repr__ => k_is)
    (case kBoat___repr__ => k_is)
    (case aBridge => k_is)
    (case pgBridge => k_is)
    (case hdBridge => k_is)
    (case poBridge => k_is)
    (case saBridge => k_is)
    (case mkBridge => k_is)
    (case kcBridge => k_is)
    (case haBridge => k_is)
    (case hnBridge => k_is)
    (case htBridge => k_is)
    (case hmBridge => k_is)
    (case nfBridge => k_is)
    (case nBridge__boats => k_is)
    (case nBridge__spans => k_is)
    (case neBridge => k_is)
    (case icBridge => k_is)
    (case tyBridge => k_is)
    (case subBridge_NoneType => k_is)
    (case kitBridge_NoneType => k_is)
    (case ntBridge_NoneType => k_is)
    (case subBridge_int => k_is)
    (case kitBridge_int => k_is)
    (case ntBridge_int => k_is)
    (case subBridge_str => k_is)
    (case kitBridge_str => k_is)
    (case ntBridge_str => k_is)
    (case subBridge_list => k_is)
    (case kitBridge_list => k_is)
    (case ntBridge_list => k_is)
    (case subBridge_tuple => k_is)
    (case kitBridge_tuple => k_is)
    (case ntBridge_tuple => k_is)
    (case subBridge_dict => k_is)
    (case kitBridge_dict => k_is)
    (case ntBridge_dict => k_is)
    (case blBridge => k_is)
    (case aBridge___init__ => k_is)
    (case iBridge___init__ => k_is)
    (case lBridge___init__ => k_is)
    (case cBridge___init__ => k_is)
    (case kBridge___init__ => k_is)
    (case aBridge___eq__ => k_is)
    (case iBridge___eq__ => k_is)
    (case lBridge___eq__ => k_is)
    (case cBridge___eq__ => k_is)
    (case kBridge___eq__ => k_is)
    (case aBridge___len__ => k_is)
    (case iBridge___len__ => k_is)
    (case lBridge___len__ => k_is)
    (case cBridge___len__ => k_is)
    (case kBridge___len__ => k_is)
    (case aBridge___str__ => k_is)
    (case iBridge___str__ => k_is)
    (case lBridge___str__ => k_is)
    (case cBridge___str__ => k_is)
    (case kBridge___str__ => k_is)
    (case aBridge_boats => k_is)
    (case iBridge_boats => k_is)
    (case lBridge_boats => k_is)
    (case cBridge_boats => k_is)
    (case kBridge_boats => k_is)
    (case aBridge_spans => k_is)
    (case iBridge_spans => k_is)
    (case lBridge_spans => k_is)
    (case cBridge_spans => k_is)
    (case kBridge_spans => k_is)
    (case aBridge_boat => k_is)
    (case iBridge_boat => k_is)
    (case lBridge_boat => k_is)
    (case cBridge_boat => k_is)
    (case kBridge_boat => k_is)
    (case aBridge_with_boat => k_is)
    (case iBridge_with_boat => k_is)
    (case lBridge_with_boat => k_is)
    (case cBridge_with_boat => k_is)
    (case kBridge_with_boat => k_is)
    (case aOverload___init__ => k_is)
    (case iOverload___init__ => k_is)
    (case lOverload___init__ => k_is)
    (case cOverload___init__ => k_is)
    (case kOverload___init__ => k_is)
    (case aNoSpan___init__ => k_is)
    (case iNoSpan___init__ => k_is)
    (case lNoSpan___init__ => k_is)
    (case cNoSpan___init__ => k_is)
    (case kNoSpan___init__ => k_is)
    (case a_wall => k_is)
    (case l_wall => k_is)
    (case c_wall => k_is)
    (case k_wall => k_is)
    (case ais_whole => k_is)
    (case lis_whole => k_is)
    (case cis_whole => k_is)
    (case kis_whole => k_is)
    (case ais_name => k_is)
    (case lis_name => k_is)
    (case cis_name => k_is)
    (case kis_name => k_is)
    (case ahas_only => k_is)
    (case lhas_only => k_is)
    (case chas_only => k_is)
    (case khas_only => k_is)
    (case anumber_of => k_is)
    (case lnumber_of => k_is)
    (case cnumber_of => k_is)
    (case knumber_of => k_is)
    (case ahalves => k_is)
    (case lhalves => k_is)
    (case chalves => k_is)
    (case khalves => k_is)
    (case aspare => k_is)
    (case lspare => k_is)
    (case cspare => k_is)
    (case kspare => k_is)
    (case aneed_borne => k_is)
    (case lneed_borne => k_is)
    (case cneed_borne => k_is)
    (case kneed_borne => k_is)
    (case ais_borne => k_is)
    (case lis_borne => k_is)
    (case cis_borne => k_is)
    (case kis_borne => k_is)
    (case aroom_at => k_is)
    (case lroom_at => k_is)
    (case croom_at => k_is)
    (case kroom_at => k_is)
    (case aread_bridge => k_is)
    (case lread_bridge => k_is)
    (case cread_bridge => k_is)
    (case kread_bridge => k_is)
    (case a_are_boats => k_is)
    (case l_are_boats => k_is)
    (case c_are_boats => k_is)
    (case k_are_boats => k_is)
    (case a_are_spans => k_is)
    (case l_are_spans => k_is)
    (case c_are_spans => k_is)
    (case k_are_spans => k_is)
    (case a_boat_of => k_is)
    (case l_boat_of => k_is)
    (case c_boat_of => k_is)
    (case k_boat_of => k_is)
    (case a_span_of => k_is)
    (case l_span_of => k_is)
    (case c_span_of => k_is)
    (case k_span_of => k_is)
    (case a_law_tape => k_is)
    (case l_law_tape => k_is)
    (case c_law_tape => k_is)
    (case k_law_tape => k_is)
    (case a_law_draw => k_is)
    (case l_law_draw => k_is)
    (case c_law_draw => k_is)
    (case k_law_draw => k_is)
    (case a_law_pick => k_is)
    (case l_law_pick => k_is)
    (case c_law_pick => k_is)
    (case k_law_pick => k_is)
    (case a_law_names => k_is)
    (case l_law_names => k_is)
    (case c_law_names => k_is)
    (case k_law_names => k_is)
    (case a_law_boat_rows => k_is)
    (case l_law_boat_rows => k_is)
    (case c_law_boat_rows => k_is)
    (case k_law_boat_rows => k_is)
    (case a_law_span_row => k_is)
    (case l_law_span_row => k_is)
    (case c_law_span_row => k_is)
    (case k_law_span_row => k_is)
    (case a_law_drawn_parts => k_is)
    (case l_law_drawn_parts => k_is)
    (case c_law_drawn_parts => k_is)
    (case k_law_drawn_parts => k_is)
    (case a_law_made => k_is)
    (case l_law_made => k_is)
    (case c_law_made => k_is)
    (case k_law_made => k_is)
    (case a_law_weights => k_is)
    (case l_law_weights => k_is)
    (case c_law_weights => k_is)
    (case k_law_weights => k_is)
    (case a_law_fault_told => k_is)
    (case l_law_fault_told => k_is)
    (case c_law_fault_told => k_is)
    (case k_law_fault_told => k_is)
    (case a_law_put => k_is)
    (case l_law_put => k_is)
    (case c_law_put => k_is)
    (case k_law_put => k_is)
    (case a_law_mended => k_is)
    (case l_law_mended => k_is)
    (case c_law_mended => k_is)
    (case k_law_mended => k_is)
    (case a_law_filled => k_is)
    (case l_law_filled => k_is)
    (case c_law_filled => k_is)
    (case k_law_filled => k_is)
    (case alaw => k_is)
    (case llaw => k_is)
    (case claw => k_is)
    (case klaw => k_is)
    (case aFIGURES => k_is)
    (case aSMALL_LETTERS => k_is)
    (case aLONGEST_NAME => k_is)
    (case aMOST_BOATS => k_is)
    (case aMOST_BORNE => k_is)
    (case zIndexError => k_is)
    (case zKeyError => k_is)
    (case zOverflowError => k_is)
    (case zValueError => k_is)
    (case zall => k_is)
    (case zbool => k_is)
    (case zenumerate => k_is)
    (case zint => k_is)
    (case zisinstance => k_is)
    (case zlen => k_is)
    (case zlist => k_is)
    (case zmax => k_is)
    (case zmin => k_is)
    (case zrange => k_is)
    (case zstr => k_is)
    (case zzip => k_is)
