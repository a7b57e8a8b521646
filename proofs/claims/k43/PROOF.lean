import PyProof.Rows.All
import Wide.All
import OpenK.AllK
import Wide.FinOn
import PyProof.FString3
import PyProof.InstNe
import HandS.ForMost
import HandS.FStr
import HandS.StrMore
import HandS.IsInst
import HandS.Codes
import HandS.TryOnly
import HandS.SlotsOwn
import HandS.Defaults
import HandS.MakeKw
import HandS.MakeKwOnly
import HandS.OwnEq
import KE.KCallOwn
import KE.KFmtOwn
import HandS.ExcInit
import HandS.ExcIs
import HandS.ExcField
import HandS.ExcValue
import KE.KExcIs
import KE.KExcInit
import HandS.Conv
import OpenK.KOps
import PyProof.Rows.Range3
import PyProof.ListRange
import HandS.Style
import PyProof.ReprRoads
import PyProof.ExcBaseAll.LookupError
import PyProof.ExcBaseAll.IndexError
import HandS.SortInts
import HandS.SortKw
import HandS.Star
import HandS.Flow
import HandS.WordsExc
import HandS.FStrTup
import HandS.CallSlots
import HandS.Zip
import HandS.Lambda
import HandS.EndTab
import HandS.More
import HandS.List
import KE.KxIndex
import PyProof.Rows.StrRev
import KE.IntTextLaws
import KE.IntTextText
import HandS.SetFor
import HandS.Strs
import HandS.SortInts
import HandS.IntHex
import PySem.Challenge.RW_boatbridge_k43_stands_within_stretches
set_option Elab.async false
set_option linter.all false
set_option maxRecDepth 100000
namespace Bb
open PySem PySem.Spec PyProof.Rows L2 PySem.W
open C8 (pss_cut)
open TL (tl ext_tl partition_app partition_none)
/-! ### a call with keywords alone -/
section
variable {X : Cx} {CX : CXT} {k : Nat} {f : Addr} {fd : FuncData} {ps ks : List Str} {sp : Sp} {E : XK} {x : Str} {p pos : Pos} {kws : List Keyword} {tk : TA} {g : List Value → List Value → List Value} {gV : List V → List V → List V}
theorem pe_callK0 (F : FnOk X.prog X.w X.K X.mg X.base CX k f fd ps sp) (hr : Room k X.A) (hg : Gl X x) (hm : X.mg x = some (.ref f)) (hk : PySem.W.keepIn X.K (.ref f) = true) (hb : KBinds X.K fd ps ks g gV) (hx : Passes CX X E)
    (hkw : PK X kws tk) (hall : (backToKw pos (keywordEach kws X.env)).all (·.1.isSome) = true := by rfl) (hks : (backToKw pos (keywordEach kws X.env)).filterMap (·.1) = ks := by rfl)
    (hdb : (x == ("__debug__" : Str)) = false := by decide)
    (hpl : ((backTo pos (starEach [] X.env)).any (·.1) || (backToKw pos (keywordEach kws X.env)).any (·.1.isNone)) = false := by rfl) :
    PE X (.Call (.Name x p) [] kws pos) (tCallK sp gV E tNil tk) := by
  refine ⟨fun pins s σ H Q I h => ?_⟩
  refine wpAny_Call_Name_kw (ld_glob I hg hm ?_ hdb)
  refine PySem.W.callWith_KW0 (h₀ := X.base) I.ok.mod.kin hk hall ?_ hpl
  refine thn (hkw.run pos pins s σ H _ I h) fun ws s2 ⟨zs, H2, I2, rz, q2⟩ => ⟨I2.kIn, ?_⟩
  rw [hks]
  exact run_fnk F hr hb hx I2 .nil rz q2
/-- keywords in the parameters' own order -/
theorem fun_kbinds {K : Frag} {x qual : Str} {st : Stmt} {f : Addr} {fd : FuncData} {ps ks : List Str} (F : Fun K x qual st f fd)
    (h : ∀ (kV doc pm : Value) (an : Option Addr) (cdv ct : Value) (us ws : List Value), (us ++ ws).length = ps.length → bindArgs (PySem.W.fnOf x qual (defArgs st) (defBody st) (defScope st) .none kV doc pm an cdv ct) ⟨us, ks.zip ws⟩ = pure (ps.zip (us ++ ws))) :
    KBinds K fd ps ks (· ++ ·) (· ++ ·) := by
  obtain ⟨oc, od, kV, doc, pm, an, cdv, ct, osl, rfl, lk, hcd⟩ := F.ex
  exact ⟨fun s us ws _ hl => .of_eq (h kV doc pm an cdv ct us ws hl), fun a b => a.append b⟩
theorem vals_rev : ∀ {zs : List V} {ws : List Value}, Vals zs ws → Vals zs.reverse ws.reverse
  | _, _, .nil => .nil
  | _, _, .cons r t => by
    rw [List.reverse_cons, List.reverse_cons]
    exact (vals_rev t).append (.cons r .nil)
/-- all by keywords -/
def kwAll {α : Type} (n : Nat) (us ws : List α) : List α := if us.length = 0 ∧ ws.length = n then ws else []
theorem kwAll_vals {n : Nat} {vs zs : List V} {us ws : List Value} (a : Vals vs us) (b : Vals zs ws) : Vals (kwAll n vs zs) (kwAll n us ws) := by
  unfold kwAll
  rw [a.length, b.length]
  split
  · exact b
  · exact .nil
theorem fun_kbindsA {K : Frag} {x qual : Str} {st : Stmt} {f : Addr} {fd : FuncData} {ps ks : List Str} (F : Fun K x qual st f fd) (hn : ps ≠ [])
    (h : ∀ (kV doc pm : Value) (an : Option Addr) (cdv ct : Value) (ws : List Value), ws.length = ps.length → bindArgs (PySem.W.fnOf x qual (defArgs st) (defBody st) (defScope st) .none kV doc pm an cdv ct) ⟨[], ks.zip ws⟩ = pure (ps.zip ws)) :
    KBinds K fd ps ks (kwAll ps.length) (kwAll ps.length) := by
  obtain ⟨oc, od, kV, doc, pm, an, cdv, ct, osl, rfl, lk, hcd⟩ := F.ex
  refine ⟨fun s us ws _ hl => ?_, kwAll_vals⟩
  unfold kwAll at hl ⊢
  split at hl
  · rename_i c
    rw [if_pos c, List.eq_nil_of_length_eq_zero c.1]
    exact .of_eq (h kV doc pm an cdv ct ws c.2)
  · exact absurd (List.eq_nil_of_length_eq_zero hl.symm) hn
/-- all by keywords, in the parameters' order turned about -/
theorem fun_kbindsR {K : Frag} {x qual : Str} {st : Stmt} {f : Addr} {fd : FuncData} {ps ks : List Str} (F : Fun K x qual st f fd) (hn : ps ≠ [])
    (h : ∀ (kV doc pm : Value) (an : Option Addr) (cdv ct : Value) (ws : List Value), ws.length = ps.length → bindArgs (PySem.W.fnOf x qual (defArgs st) (defBody st) (defScope st) .none kV doc pm an cdv ct) ⟨[], ks.zip ws⟩ = pure (ps.zip ws.reverse)) :
    KBinds K fd ps ks (fun us ws => (kwAll ps.length us ws).reverse) (fun us ws => (kwAll ps.length us ws).reverse) := by
  obtain ⟨oc, od, kV, doc, pm, an, cdv, ct, osl, rfl, lk, hcd⟩ := F.ex
  refine ⟨fun s us ws _ hl => ?_, fun a b => vals_rev (kwAll_vals a b)⟩
  rw [List.length_reverse] at hl
  unfold kwAll at hl ⊢
  split at hl
  · rename_i c
    rw [if_pos c, List.eq_nil_of_length_eq_zero c.1]
    exact .of_eq (h kV doc pm an cdv ct ws c.2)
  · exact absurd (List.eq_nil_of_length_eq_zero hl.symm) hn
end
/-! ### defs that are called where no repr is under way (so that repr of lists and tuples is known) -/
structure FnOkG (P : Program) (w : World) (K : PySem.W.Frag) (mg : Str → Option Value) (base : Heap) (CX : CXT) (k : Nat) (f : Addr) (fd : FuncData) (ps : List Str) (sp : Sp) : Prop where
  many : ∀ vs H Q E, sp vs H Q E → vs.length = ps.length
  goes : ∀ (A : Around) (outer : List Env) (s : Shared) (H : Hp) (args : Args) (us : List Value) (vs : List V) (Q : VK) (E : XK), A.guards = some [] → Room k A → Env0 P w K mg base A outer s H → BindsTo s fd args (ps.zip us) → Vals vs us → sp vs H Q E →
    codeAny (model P w) A (.call (.ref f) args) (CR CX outer P w H s Q E) s
theorem FnOk.g {P : Program} {w : World} {K : PySem.W.Frag} {mg : Str → Option Value} {base : Heap} {CX : CXT} {k : Nat} {f : Addr} {fd : FuncData} {ps : List Str} {sp : Sp} (F : FnOk P w K mg base CX k f fd ps sp) : FnOkG P w K mg base CX k f fd ps sp :=
  ⟨F.len, fun A o s H a us vs Q E _ => F.run A o s H a us vs Q E⟩
section
variable {P : Program} {w : World} {K : PySem.W.Frag} {mg : Str → Option Value} {base : Heap}
theorem okG {x qual : Str} {st : Stmt} {f : Addr} {fd : FuncData} {N ps : List Str} {k : Nat} {sp : Sp} (F : Fun K x qual st f fd) (S : FnScope N ps (defScope st)) (hn : ∀ vs H Q E, sp vs H Q E → vs.length = ps.length)
    (hb : ∀ (cdv : Value) (A : Around) (outer : List Env) (s : Shared) (H : Hp) (vs : List V) (Q : VK) (E : XK), A.guards = some [] → Room k (A.deeper (envOfC qual (defScope st) s.heap.objs.size f cdv)) → sp vs H Q E →
      ∃ t, PSs (cxOf CX0 P w K mg base N qual (defScope st) f cdv A outer s H E).nox (defBody st) t ∧ t { nx := fun _ H' => Q .non H', rt := Q } (start N vs) H) : FnOkG P w K mg base CX0 (k + 1) f fd ps sp := by
  obtain ⟨oc, od, kV, doc, pm, an, cdv, ct, osl, rfl, lk, hcd⟩ := F.ex
  constructor
  · exact hn
  intro A outer s H args us vs Q E gd hr env bnd rel want
  have olds : ∀ z y, base.get? z = some y → s.heap.get? z = some y := fun z y e => (env.bs z y e).1
  have inK : K.In s.heap := env.mod.kin.keeps olds
  have vis : ∀ q ∈ ps.zip us, (defScope st).names.lookup q.1 = some .local ∨ ((defScope st).names.lookup q.1 = some .cell ∧ ((cellsFrom (s.heap.objs.size + 1) (defScope st).names []).lookup q.1).isSome = true) := by
    intro q hq
    obtain ⟨n, v⟩ := q
    exact (S.par n (List.of_mem_zip hq).1).elim Or.inl fun c => Or.inr ⟨c, PySem.W.cellsFrom_some _ _ _ (Or.inl c)⟩
  apply codeAny_call_function hr.depth (inK _ _ lk) rfl S.co S.gen rfl (PySem.W.codeRec_of inK hcd)
  apply bnd
  refine wpAny_newFunctionEnv_cells S.kind vis fun env' he s1 x => ?_
  cases he
  refine ⟨(env.mod.nolimit.keeps olds).keeps x.toInCall.keep, codeAny_func ?_⟩
  obtain ⟨t, ht, hq⟩ := hb cdv A outer s H vs Q E gd (hr.deeper _) want
  have ht := ht.nox
  have J0 : L2.Inv (cxOf CX0 P w K mg base N qual (defScope st) f cdv A outer s H E) [] (start N vs) H s1 := inv_start S hr.hd env (hn _ _ _ _ want) rel x
  refine wpAny_mono (ht.run [] s1 (start N vs) H _ J0 hq) (fun fl s' z => ?_) fun _ _ z => z
  match fl, z with
  | .ret u, ⟨v, σ', H', J, rv, q⟩ => exact ⟨v, H', J.os, J.bare, J.base, J.hok, rv, q⟩
  | .next, ⟨σ', H', J, q⟩ => exact ⟨V.non, H', J.os, J.bare, J.base, J.hok, rfl, q⟩
  | .brk, ⟨_, _, _, q⟩ => exact q.elim
  | .cont, ⟨_, _, _, q⟩ => exact q.elim
end
section
variable {X : Cx} {CX : CXT} {k : Nat} {f : Addr} {fd : FuncData} {ps : List Str} {sp : Sp} {dvs : List V} {ds : List Value} {E : XK} {x : Str} {p pos : Pos} {e : Expr} {es : List Expr} {t : TA}
/-- f(e, ..), f such a def -/
theorem pe_callG (F : FnOkG X.prog X.w X.K X.mg X.base CX k f fd ps sp) (gd : X.A.guards = some []) (hr : Room k X.A) (hg : Gl X x) (hm : X.mg x = some (.ref f)) (hk : PySem.W.keepIn X.K (.ref f) = true) (hb : L2.Binds X.K fd ps ds) (hd : Vals dvs ds) (hx : Passes CX X E)
    (ha : PA X (e :: es) t) (n1 : (x == ("__debug__" : Str)) = false := by decide) (n2 : starEach (e :: es) X.env = (false, eval e X.env) :: starEach es X.env := by rfl) (n3 : (backTo pos (starEach es X.env)).any (·.1) = false := by rfl) :
    PE X (.Call (.Name x p) (e :: es) [] pos) (tCall sp dvs E t) := by
  constructor
  intro pins s σ H Q I h
  apply wpAny_Call_Name_kw (ld_glob I hg hm ?_ n1)
  refine PySem.W.callWith_K (h₀ := X.base) I.ok.mod.kin hk (thn (ha.run pos pins s σ H _ I h) ?_) n2 n3
  rintro us s1 ⟨vs, H1, I1, r, q⟩
  refine ⟨I1.kIn, ?_⟩
  have rr : Vals (vs ++ dvs) (us ++ ds) := r.append hd
  have ll : (us ++ ds).length = ps.length := rr.length.symm.trans (F.many _ _ _ _ q)
  refine wpAny_call (codeAny_mono (F.goes X.A X.stack s1 H1 ⟨us, []⟩ (us ++ ds) (vs ++ dvs) Q E gd hr I1.env0 (hb s1 us I1.kIn ll) rr q) fun z s' hz => ?_)
  match z, hz with
  | .error er, hz => exact hx pins σ H1 s1 er s' I1 hz
  | .ok (.ret u), hz => exact I1.after hz
  | .ok .next, hz => exact (show False from hz).elim
  | .ok .brk, hz => exact (show False from hz).elim
  | .ok .cont, hz => exact (show False from hz).elim
/-- repr(x) of data -/
def rReprD (K : PySem.W.Frag) : List V → Hp → VK → Prop := fun xs H Q => ∃ x d, xs = [x] ∧ Dp K H x d ∧ SeqAt.shaped d = true ∧ d.showable = true ∧ d.shown.length ≤ sizeLine ∧ Q (.str d.shown) H
theorem call_reprD (gd : X.A.guards = some []) (hr : Room k X.A) : CallR X (.builtin "repr") (rReprD X.K) := by
  intro pins s σ H xs us Q I r h
  obtain ⟨y, d, rfl, hd, sh, sw, sz, q⟩ := h
  obtain ⟨u, rfl, ru⟩ := Vals.one r
  have dd := SeqAt.depth_of_shaped sh
  have un := hr.un
  have nd : d.hasDict = true → sysModules ∉ ([] : List Addr) := fun z => by rw [PyData.hasDict_of_canLay d (SeqAt.canLay_of_shaped sh)] at z; cases z
  cases hd with
  | non =>
    cases (show u = Value.none from ru)
    exact P.repr_of_none ⟨V.str "None", H, I.tok _, ⟨_, rfl⟩, by rw [PyData.shown] at q; exact q⟩
  | bl b =>
    cases (show u = Value.bool b from ru)
    exact P.repr_of_bool ⟨V.str (if b then "True" else "False"), H, I.tok _, ⟨_, rfl⟩, by rw [PyData.shown] at q; exact q⟩
  | int i =>
    obtain ⟨t, rfl⟩ := (show ∃ t, u = Value.int i t from ru)
    refine P.repr_of_int (of_decide_eq_true (by rw [PyData.showable] at sw; exact sw)) ⟨V.str (toString i), H, I.tok _, ⟨_, rfl⟩, by rw [PyData.shown] at q; exact q⟩
  | str z =>
    obtain ⟨t, rfl⟩ := (show ∃ t, u = Value.str z t from ru)
    exact P.repr_of_str ⟨V.str (reprText z), H, I.tok _, ⟨_, rfl⟩, by rw [PyData.shown] at q; exact q⟩ (by rw [PyData.shown] at sz; exact sz)
  | lst a b =>
    obtain ⟨as, rd⟩ := Dp.reads I _ _ u (.lst a b) ru
    cases ru
    exact repr_of_reads' rd sw (fun z => by rw [PyData.hasDict_of_canLay _ (SeqAt.canLay_of_shaped sh)] at z; cases z) gd (by omega) (fun _ _ z => z) (fun h' t' tk hk => ⟨V.str (PyData.shown _), H, I.kept hk, ⟨_, rfl⟩, q⟩) sz
  | tup a b =>
    obtain ⟨as, rd⟩ := Dp.reads I _ _ u (.tup a b) ru
    cases ru
    exact repr_of_reads' rd sw (fun z => by rw [PyData.hasDict_of_canLay _ (SeqAt.canLay_of_shaped sh)] at z; cases z) gd (by omega) (fun _ _ z => z) (fun h' t' tk hk => ⟨V.str (PyData.shown _), H, I.kept hk, ⟨_, rfl⟩, q⟩) sz
end
/-! ### the law's end, for such a law -/
section
variable {P : Program} {w : World} {K : PySem.W.Frag} {mg mb : Str → Option Value} {k : Nat} {fa a : Addr} {fd : FuncData} {x : Str} {sp : Sp} {s₁ : Shared} {vs : List Value} {ns : List Int}
/-- from a heap in which nothing but the script may stand -/
theorem lawG0 (KX : K.In s₁.heap) (g1 : s₁.heap.Ns mainGlobals mg) (g2 : s₁.heap.Ns builtinsNs mb) (g3 : ∀ x : Str, x ≠ "__name__" → mb x = bootBuiltins x) (g4 : s₁.heap.NoLimit) (g5 : s₁.gens = #[])
    (ha : s₁.heap.get? a = some { cls := .type "list", data := .seq vs.toArray }) (hr : Room k callerA)
    (F : ∀ base : Heap, K.In base → base.Ns mainGlobals mg → FnOkG P w K mg base CX0 k fa fd [x] sp) (bd : ∀ (s : Shared) (u : Value), BindsTo s fd ⟨[u], []⟩ [(x, u)])
    (H : Hp) (hO : Only H) (want : sp [.ref a] H (fun v _ => v = .bl true) fun _ _ _ => False) (ok : HOk P w H s₁.heap) (hA : ∀ b, H b ≠ none → b = a) (hK : H a ≠ none → K.lookup a = none) :
    codeAny (model P w) callerA (.call (.ref fa) ⟨[.ref a], []⟩) (fun r s' => r = .ok (.ret (.bool true)) ∧ OldK s₁.heap s'.heap ∧ s'.os = s₁.os ∧ AllBare s'.gens) s₁ := by
  have noA : ∀ {b : Addr} {o : Obj} {es : Array DictEntry} {ep : Nat}, s₁.heap.get? b = some o → o.data = .dict es ep → H b = none := by
    intro b o es ep e d
    apply Classical.byContradiction
    intro z
    have e2 := e
    rw [hA b z, ha] at e2
    cases e2
    exact nomatch (show Data.seq vs.toArray _ = Data.dict es ep from d)
  have nsK : ∀ {b : Addr} {m : Str → Option Value}, s₁.heap.Ns b m → (hidT s₁.heap H).Ns b m := by
    rintro b m ⟨o, es, ep, e, d, r⟩
    exact ⟨o, es, ep, hidT_get e (noA e d), d, r⟩
  have kb : K.In (hidT s₁.heap H) := by
    intro b o e
    refine hidT_get (KX b o e) (Classical.byContradiction fun z => ?_)
    have eb := hA b z
    subst eb
    rw [hK z] at e
    cases e
  have M : Mod K mg (hidT s₁.heap H) := by
    obtain ⟨mc, h1, h2⟩ := g4
    exact ⟨kb, nsK g1, ⟨mb, nsK g2, g3⟩, ⟨mc, nsK h1, h2⟩⟩
  have e0 : Env0 P w K mg (hidT s₁.heap H) callerA [] s₁ H :=
    { frames := rfl, mod := M, bs := fun b o e => of_hidT e, bsz := Nat.le_of_eq (hidT_size _ _), funs := trivial, frf := fun b z => absurd (show b ∈ ([] : List Addr) from z) (by simp), hok := ok, bare := .of_eq g5 }
  have run := (F _ kb (nsK g1)).goes callerA [] s₁ H ⟨[.ref a], []⟩ [.ref a] [.ref a] _ _ rfl hr e0 (bd s₁ (.ref a)) (.cons rfl .nil) want
  refine codeAny_mono run fun r s' h => ?_
  match r, h with
  | .error e, h => exact (show False from h).elim
  | .ok .next, h => exact (show False from h).elim
  | .ok .brk, h => exact (show False from h).elim
  | .ok .cont, h => exact (show False from h).elim
  | .ok (.ret u), ⟨v, H', os, bare, un, ok', rv, (qv : v = .bl true)⟩ =>
    cases qv
    cases (show u = Value.bool true from rv)
    refine ⟨rfl, OldK.of_keep fun b o e => ?_, os, bare⟩
    cases q : H b with
    | none => exact un.keep b o e q (fun z => absurd (show b ∈ ([] : List Addr) from z) (by simp)) (by simp)
    | some y =>
      rcases hO b with z | ⟨ob, xs, z⟩
      · rw [z] at q; cases q
      · have f1 := (ok b _ z).1
        have f2 := (ok' b _ (un.frzs b ob _ z)).1
        rw [f1] at e
        cases e
        exact f2
theorem lawG (KX : K.In s₁.heap) (g1 : s₁.heap.Ns mainGlobals mg) (g2 : s₁.heap.Ns builtinsNs mb) (g3 : ∀ x : Str, x ≠ "__name__" → mb x = bootBuiltins x) (g4 : s₁.heap.NoLimit) (g5 : s₁.gens = #[])
    (ha : s₁.heap.get? a = some { cls := .type "list", data := .seq vs.toArray }) (hi : IntsAre vs ns) (hl : ns.length ≤ sizeLine) (hr : Room k callerA)
    (F : ∀ base : Heap, K.In base → base.Ns mainGlobals mg → FnOkG P w K mg base CX0 k fa fd [x] sp) (bd : ∀ (s : Shared) (u : Value), BindsTo s fd ⟨[u], []⟩ [(x, u)])
    (want : ∀ H : Hp, Only H → SqL K H a (ns.map V.int) → sp [.ref a] H (fun v _ => v = .bl true) fun _ _ _ => False) :
    codeAny (model P w) callerA (.call (.ref fa) ⟨[.ref a], []⟩) (fun r s' => r = .ok (.ret (.bool true)) ∧ OldK s₁.heap s'.heap ∧ s'.os = s₁.os ∧ AllBare s'.gens) s₁ := by
  have rv := vals_ints hi
  rcases hk : K.lookup a with _ | o
  · let H : Hp := fun b => if b = a then some (.frz { cls := .type "list", data := .seq vs.toArray } (.lst (ns.map V.int))) else none
    have Ha : H a = some (.frz { cls := .type "list", data := .seq vs.toArray } (.lst (ns.map V.int))) := if_pos rfl
    have Hn : ∀ b, b ≠ a → H b = none := fun b n => if_neg n
    have hO : Only H := fun b => (Classical.em (b = a)).elim (fun e => .inr ⟨_, _, e ▸ Ha⟩) fun n => .inl (Hn b n)
    have hA : ∀ b, H b ≠ none → b = a := fun b z => Classical.byContradiction fun n => z (Hn b n)
    refine lawG0 KX g1 g2 g3 g4 g5 ha hr F bd H hO (want H hO (.inl (.inr ⟨_, Ha⟩))) (fun b u z => ?_) hA fun _ => hk
    have e := hA b (by rw [z]; intro y; cases y)
    subst e
    rw [Ha] at z
    cases z
    exact ⟨ha, by rw [List.length_map]; exact hl, vs, _, rv, ha⟩
  · have e := KX a o hk
    rw [ha] at e
    cases e
    refine lawG0 KX g1 g2 g3 g4 g5 ha hr F bd (fun _ => none) (fun _ => .inl rfl) (want _ (fun _ => .inl rfl) (.inr ⟨_, vs.toArray, _, hk, rfl, rfl, rfl, by rw [List.size_toArray, hi.length]; exact hl, by simpa using rv⟩)) (fun b u z => nomatch (show (none : Option HO) = some u from z)) (fun b z => absurd rfl z) fun z => absurd rfl z
end
theorem walkG {l : PySem.W.OpenLaw} {n k : Nat} {q : Program} {loose : List Str} {XP : (Str → Option Value) → Heap → Prop} {YP : World → Heap → Prop} {d : DefRec} {K : Params → PySem.W.Frag} {sp : World → Sp} {x : Str}
    (hn : l.most = some n) (hn2 : n ≤ sizeLine) (hdf : d.params.defaults = []) (hr : Room k callerA) (hY : ∀ (w : World) (h : Heap), YP w h → (K w.params).In h)
    (F : ∀ (w : World) (mg : Str → Option Value) (fa : Addr) (h : Heap), (K w.params).In h → h.Ns mainGlobals mg → mg d.name = some (.ref fa) →
      ∃ fd : FuncData, (∀ (s : Shared) (u : Value), BindsTo s fd ⟨[u], []⟩ [(x, u)]) ∧ ∀ base : Heap, (K w.params).In base → base.Ns mainGlobals mg → FnOkG l.prog w (K w.params) mg base CX0 k fa fd [x] (sp w))
    (want : ∀ (w : World) (H : Hp) (a : Addr) (ns : List Int), ns.length ≤ n → Only H → SqL (K w.params) H a (ns.map V.int) → sp w [.ref a] H (fun v _ => v = .bl true) fun _ _ _ => False) :
    PySem.W.WalkO q loose XP YP l.row.toRowW d [] (fun f vs => PySem.call f vs) := by
  apply Att.attach_call hn hdf
  intro w s₀ s₁ mg mb fa o pm cd doc a vs ns G Y ho hd hcd hmg hobj hints hlen hg
  have KX := hY w _ Y
  obtain ⟨fd, bd, hF⟩ := F w mg fa _ KX G.T.g hmg
  exact lawG KX G.T.g G.T.b G.T.builtins G.T.nolimit hg hobj hints (Nat.le_trans hlen hn2) hr hF bd fun H hO hS => want w H a ns hlen hO hS
/-! ### an exception that is kept past its clause -/
/-- at a: an exception object of the class cls, its own dict at d -/
def keptX (cls : Value) (d : Option Addr) (a : Addr) : HO := .ext fun h => ∃ (oe : Obj) (vs : Array Value), h.get? a = some oe ∧ Zc cls d oe ∧ oe.data = .fields vs
theorem keptX_ok {P : Program} {w : World} {H : Hp} {h : Heap} {cls : Value} {d : Option Addr} {a : Addr} {oe : Obj} {vs : Array Value} (g : h.get? a = some oe) (z : Zc cls d oe) (f : oe.data = .fields vs) : ObjOk P w H h a (keptX cls d a) :=
  ⟨⟨oe, vs, g, z, f⟩, ⟨oe, g⟩, fun _ _ ⟨o, v, q, r⟩ k => ⟨o, v, k o q, r⟩⟩
theorem keptX_at {P : Program} {w : World} {H : Hp} {h : Heap} {cls : Value} {d : Option Addr} {a : Addr} (hok : HOk P w H h) (e : H a = some (keptX cls d a)) : ∃ (oe : Obj) (vs : Array Value), h.get? a = some oe ∧ Zc cls d oe ∧ oe.data = .fields vs := by
  have x : ObjOk P w H h a (.ext fun h => ∃ (oe : Obj) (vs : Array Value), h.get? a = some oe ∧ Zc cls d oe ∧ oe.data = .fields vs) := hok a _ e
  exact x.1
section
variable {X : Cx} {pins : List (Addr × Obj)} {σ : L2.St} {H : Hp} {s sI : Shared}
/-- the caught object is told to the ledger: it is none of the objects of the state sI ahead of it -/
theorem inv_keep (J : Inv X pins σ H sI) (ge : sI.heap.get? a = none) (I : Inv X pins σ H s) (hx : X.ex = []) {oe : Obj} {vs : Array Value} {cls : Value} {d : Option Addr} (ha : s.heap.get? a = some oe) (hz : Zc cls d oe) (hd : oe.data = .fields vs) (na : H a = none) :
    Inv X pins σ (upd H a (keptX cls d a)) s := by
  have ne : ∀ {b : Addr} {o : Obj}, sI.heap.get? b = some o → b ≠ a := by
    intro b o e z
    rw [z, ge] at e
    cases e
  have n0 : ∀ {b : Addr} {o : Obj}, X.s_0.heap.get? b = some o → b ≠ a := by
    intro b o e
    obtain ⟨o', e'⟩ := J.base.there b o e (by rw [hx]; exact fun z => nomatch z)
    exact ne e'
  have bs : Un X.fs X.ex X.H_0 (upd H a (keptX cls d a)) X.s_0.heap s.heap := {
    keep := I.base.keep
    slot := I.base.slot
    there := I.base.there
    free := by
      intro b o e n q
      rw [upd_ne (n0 e)]
      exact I.base.free b o e n q
    tups := by
      intro b xs e
      have z := I.base.tups b xs e
      rw [upd_ne (ne_of_none z na)]
      exact z
    frzs := by
      intro b o u e
      have z := I.base.frzs b o u e
      rw [upd_ne (ne_of_none z na)]
      exact z
    tbls := by
      intro b ps e
      obtain ⟨m, z⟩ := I.base.tbls b ps e
      exact ⟨m, by rw [upd_ne (ne_of_none z na)]; exact z⟩ }
  have fr : X.env.locals ≠ a := by
    obtain ⟨m, ⟨o, es, ep, ho, _⟩, _⟩ := J.loc
    exact ne ho
  refine ⟨I.ok, I.os, I.bare, bs, I.loc, I.cell, ?_, ?_, ?_, ?_, I.len⟩
  · rw [upd_ne fr]
    exact I.free
  · intro x c e
    obtain ⟨v, o, ho, _⟩ := J.cell x c e
    rw [upd_ne (ne ho)]
    exact I.freeC x c e
  · intro p hp
    obtain ⟨e, n, r⟩ := I.pin p hp
    refine ⟨e, ?_, r⟩
    rw [upd_ne (ne (J.pin p hp).1)]
    exact n
  · intro b o e
    by_cases hb : b = a
    · subst hb
      rw [upd_same] at e
      cases e
      exact keptX_ok ha hz hd
    · rw [upd_ne hb] at e
      refine (I.hok b o e).stay (fun c v _ q => q) (fun c q => ?_) (fun c xs q => ?_)
      · rw [upd_ne (ne_of_none q na)]
        exact q
      · rw [upd_ne (ne_of_none q na)]
        exact q
/-- into the clause's suite, no object pinned -/
theorem inv_into (I : Inv X pins σ H s) (a : Addr) : Inv (X.suite a (X.pn ++ pins)) [] σ H s where
  ok := I.ok.suite a _
  os := I.os
  bare := I.bare
  base := I.base
  loc := I.loc
  cell := I.cell
  free := I.free
  freeC := I.freeC
  pin := by
    intro p hp
    rw [List.append_nil] at hp
    exact I.pin p hp
  hok := I.hok
  len := I.len
/-- and out of it -/
theorem inv_outof {a : Addr} {pn : List (Addr × Obj)} (I : Inv (X.suite a (X.pn ++ pins)) pn σ H s) (ok : X.Ok) : Inv X pins σ H s where
  ok := ok
  os := I.os
  bare := I.bare
  base := I.base
  loc := I.loc
  cell := I.cell
  free := I.free
  freeC := I.freeC
  pin := fun p hp => I.pin p (List.mem_append_left _ hp)
  hok := I.hok
  len := I.len
end
/-- what the clause leaves: its own name is gone -/
def goneE (i : Nat) (D : Ends) : Ends where
  nx := fun σ H => D.nx (σ.set i none) H
  rt := D.rt
  bk := fun σ H => D.bk (σ.set i none) H
  ct := fun σ H => D.ct (σ.set i none) H
/-- what the clause wishes of the body's exceptions: each is caught, and stays -/
def wKeep (K : PySem.W.Frag) (c : Value) (i : Nat) (ts : Addr → Value → Option Addr → TS) (D : Ends) : WX := fun cls d σ H =>
  PySem.W.exmOne K cls c = some true ∧ ∀ a, H a = none → ts a cls d (goneE i D) (σ.set i (some (.ref a))) (upd H a (keptX cls d a))
section
variable {X : Cx} {x n : Str} {c : Value} {i : Nat} {body suite : List Stmt} {b₀ : Stmt} {np pos pos' : Pos} {tb : WX → TS} {ts : Addr → Value → Option Addr → TS}
theorem ps_try_keep (hs : X.stack = X.env :: X.outer) (hf : X.env.frame = some X.env.locals) (hex : X.ex = []) (hN : X.N.Nodup) (hi : X.N[i]? = some n) (hln : X.env.kindOf n = some .local) (hc : Names X x c)
    (hb : ∀ (W : WX) (pn : List (Addr × Obj)) (xe : Value → Shared → Prop), Takes (X.tr pn xe) W → PassesOwn (model X.prog X.w) X.A X.env xe → PSs (X.tr pn xe) body (tb W))
    (hsu : ∀ (a : Addr) (cls : Value) (d : Option Addr) (pn : List (Addr × Obj)), PSs (X.suite a pn) (b₀ :: suite) (ts a cls d)) :
    PS X (.Try body [.ExceptHandler (some (.Name x np)) (some n) (b₀ :: suite) pos'] [] [] pos) (fun D σ H => tb (wKeep X.K c i ts D) D σ H) := by
  constructor
  intro pins s σ H D I h
  have ok := I.ok
  have fr0 : X.A.frames = some (X.env :: X.outer) := by
    rw [ok.frames, hs]
  refine wpAny_Try_except ?_
  let xe' : Value → Shared → Prop := fun e s₁ => wpAny (model X.prog X.w) X.A (noteFrame e X.env) (fun _ s₂ => wpAny (model X.prog X.w) X.A (setFlight e none) (fun _ s₃ =>
    wpAny (model X.prog X.w) X.A (handleBy e X.env [.ExceptHandler (some (.Name x np)) (some n) (b₀ :: suite) pos']) (SP X pins D) X.xe s₃) X.xe s₂) X.xe s₁
  have catches : Takes (X.tr (X.pn ++ pins) xe') (wKeep X.K c i ts D) := by
    rintro u s' ⟨a, B, sI, pins', σ', H', cls, d, rfl, J', nb, up, sky, na, os, ag, hm, hyes⟩
    have J : Inv X pins σ' H' sI := J'.ofTry ok
    rw [show (X.tr (X.pn ++ pins) xe').stack = X.env :: X.outer from hs] at sky
    show wpAny (model X.prog X.w) X.A (noteFrame (.ref a) X.env) _ _ _
    refine Sky.land Zc.steady fr0 hf sky ?_
    intro h3 fl3 up3
    have J3 : Inv X pins σ' H' { s' with heap := h3 } := J.landed nb fl3.1 (up.trans up3) os ag
    refine wpAny_handleBy_cons (codeAny_handlers_test ?_) (fun q => nomatch q)
    -- the class is looked up and held against
    have look : PySem.W.Looks (model X.prog X.w) h3 (typeOf (.ref a)) cls := by
      obtain ⟨o3, v3, e3, z3, d3⟩ := fl3.there
      intro A Q E s k q
      refine wpAny_typeOf_ref (k _ _ e3) ?_
      rw [z3.1]
      exact q
    have hit := PySem.W.exm_one (M := model X.prog X.w) J3.kIn look hm
    have named : ∀ {Q : Value → Shared → Prop} {E : Value → Shared → Prop}, Q c { s' with heap := h3 } → wpAny (model X.prog X.w) (X.A.mark (some (.ref a))) (eval (.Name x np) X.env) Q E { s' with heap := h3 } := by
      intro Q E q
      have S3 := inv_into J3 a
      obtain ⟨hg, hdb, hv⟩ := hc
      rcases hv with hv | ⟨hv, hw, hn⟩
      · exact ld_glob (X := X.suite a (X.pn ++ pins)) S3 hg hv q hdb
      · exact ld_blt (X := X.suite a (X.pn ++ pins)) S3 hg hv hw q hn hdb
    refine named (hit.here (codeAny_handlers_suite_as (HandSPX.lands_againZ fl3 ?_)))
    intro h4 fl4 up4
    have J4 : Inv X pins σ' H' { s' with heap := h4 } := J.landed nb fl4.1 ((up.trans up3).trans up4) os ag
    obtain ⟨o4, v4, e4, z4, d4⟩ := fl4.there
    have ge : sI.heap.get? a = none := by
      cases q : sI.heap.get? a with
      | none => rfl
      | some o =>
        exfalso
        by_cases hm' : a ∈ frs (X.env :: X.outer)
        · obtain ⟨_, o', q', nf⟩ := fl4.2.2.1.mem hm'
          rw [e4] at q'
          cases q'
          exact nf _ d4
        · have z := nb a o q (by rw [show (X.tr (X.pn ++ pins) xe').stack = X.env :: X.outer from hs]; exact hm')
          rw [fl4.2.1] at z
          cases z
    have S4 := inv_into (inv_keep J ge J4 hex e4 z4 d4 na) a
    refine store_ok (X := X.suite a (X.pn ++ pins)) (v := .ref a) S4 hN hi (.inl hln) rfl ?_ (.inr hln)
    intro s5 S5
    refine wpAny_mono ((hsu a cls d (X.pn ++ pins)).run [] s5 _ _ (goneE i D) S5 (hyes a na)) ?_ (fun _ _ z => False.elim z)
    intro f s6 sp
    have out : ∀ {σ6 : L2.St} {H6 : Hp} {Q : Shared → Prop}, Inv (X.suite a (X.pn ++ pins)) [] σ6 H6 s6 → (∀ s7, Inv X pins (σ6.set i none) H6 s7 → Q s7) →
        wpAny (model X.prog X.w) X.A (do bindName X.env n .none; unbindBehindTheSuite X.env n pos') (fun _ s7 => Q s7) X.xe s6 := by
      intro σ6 H6 Q S6 hq
      exact gone_ok (inv_outof S6 ok) hN hi hln hq
    match f, sp with
    | .next, ⟨_, _, S6, q⟩ => exact out S6 fun s7 J7 => ⟨_, _, J7, q⟩
    | .brk, ⟨_, _, S6, q⟩ => exact out S6 fun s7 J7 => ⟨_, _, J7, q⟩
    | .cont, ⟨_, _, S6, q⟩ => exact out S6 fun s7 J7 => ⟨_, _, J7, q⟩
    | .ret u, ⟨_, _, _, S6, r, q⟩ => exact out S6 fun s7 J7 => ⟨_, _, _, J7, r, q⟩
  refine wpAny_mono ((hb (wKeep X.K c i ts D) (X.pn ++ pins) xe' catches PassesOwn.looking).run [] s σ H D (I.toTry _) h) ?_ (fun _ _ z => z)
  intro f s1 sp
  match f, sp with
  | .next, ⟨σ', H', J, q⟩ => exact wpAny_execs_nil ⟨σ', H', J.ofTry ok, q⟩
  | .brk, ⟨σ', H', J, q⟩ => exact ⟨σ', H', J.ofTry ok, q⟩
  | .cont, ⟨σ', H', J, q⟩ => exact ⟨σ', H', J.ofTry ok, q⟩
  | .ret u, ⟨v, σ', H', J, r, q⟩ => exact ⟨v, σ', H', J.ofTry ok, r, q⟩
end
/-! ### own exceptions under a class that is made by another's __new__ (KeyError, by LookupError's) -/
section
open Builtin Builtin.ObjectAttr
variable {prog : Program} {w : World} {M : Model} {A : Around} {E : Value → Shared → Prop} {R : Result → Shared → Prop} {h : Heap} {g : Array GenState} {d : Drawn} {t : Nat} {os : OsState}
variable {nm q : Str} {C N : Addr} {bs bm bmB : List Value} {hdct : Bool} {sn : List Str} {sub : List Value} {ab : Bool} {col : Option Bool} {dd : Option Addr} {k0 k1 k2 k3 k5 : Option Value} {B newId initId : String}
/-- what is asked of the classes above -/
structure Above (B : String) (bm : List Value) : Prop where
  is : bm.contains (.type B) = true
  noA : bm.contains (.type "AttributeError") = false
  noN : bm.contains (.type "NameError") = false
theorem mk_check (F : ExcBaseFacts B newId initId bmB) (T : Above B bm) {rest : List Value} {Q : Unit → Shared → Prop}
    (hC : h.get? C = some (excClassObj nm q C N bs bm hdct sn sub ab col dd k0 k1 k2 k3 k5 newId)) (hq : Q () ⟨h, g, d, t, os⟩) : wpAny M A (checkBuiltinCall newId ⟨.ref C :: rest, []⟩) Q E ⟨h, g, d, t, os⟩ := by
  have c1 : (Value.ref C :: bm).contains (.type B) = true := by
    rw [List.contains_cons, T.is, Bool.or_true]
  have c2 := F.noStar
  simp only [F.newKind, F.newSplit, F.newRow, checkBuiltinCall]
  repeat (first
    | refine wpAny_loadPart_at hC ?_
    | (refine wpAny_isSubtype_exc hC ?_; rw [c1])
    | refine wpAny_staticBase_exc hC ?_
    | refine wpAny_madeBy_exc hC ?_
    | simp only [bne_self_eq_false, Bool.false_eq_true, if_false]
    | wp_step)
  exact hq
theorem mk_new (F : ExcBaseFacts B newId initId bmB) (T : Above B bm) {rest : List Value}
    (hC : h.get? C = some (excClassObj nm q C N bs bm hdct sn sub ab col dd k0 k1 k2 k3 k5 newId)) (hz : rest.length ≤ sizeLine)
    (hq : R (.ok (.ret (.ref (h.objs.size + 1)))) ⟨(h.push (PySem.W.kdv_tup rest)).push (PySem.HandSPX.excO C h.objs.size), g, d, t, os⟩) :
    codeAny (model prog w) A (.builtin newId ⟨.ref C :: rest, []⟩) R ⟨h, g, d, t, os⟩ := by
  have ends := F.ends
  have c1 : (Value.ref C :: bm).contains (.type B) = true := by
    rw [List.contains_cons, T.is, Bool.or_true]
  have c2 : (Value.ref C :: bm).contains (.type "AttributeError") = false := by
    rw [List.contains_cons, T.noA]
    rfl
  have c3 : (Value.ref C :: bm).contains (.type "NameError") = false := by
    rw [List.contains_cons, T.noN]
    rfl
  refine PySem.codeAny_builtinAt F.entry ?_
  unfold Builtin.«BaseException.__new__»
  refine PySem.wpAt_bind ?_
  show PySem.wpAt _ _ _ (stack >>= _) _ _ _
  refine PySem.wpAt_bind (PySem.wpAt_stack ?_)
  intro p below
  refine PySem.wpAt_of_wpAny ?_
  wp_walk
  refine PySem.wpAt_of_wpAny ?_
  rw [F.owner]
  repeat (first
    | with_reducible refine wpAny_madeHere_exc F.canon hC ?_
    | with_reducible refine wpAny_loadPart_at hC ?_
    | (with_reducible refine wpAny_isSubtype_exc hC ?_; first | rw [c1] | rw [c2] | rw [c3])
    | wp_step)
  show R _ _
  rw [Heap.size_push]
  exact hq
theorem mk_type (F : ExcBaseFacts B newId initId bmB) (T : Above B bm) {rest : List Value} {fI : Addr} {Q : Fin → Shared → Prop}
    (hC : h.get? C = some (excClassObj nm q C N bs bm hdct sn sub ab col dd k0 k1 k2 k3 k5 newId)) (hi : PySem.W.Looks (model prog w) h (typeLookup (.ref C) "__init__") (some (.ref fI)))
    (hb : ∀ self, PySem.W.Looks (model prog w) h (bindSpecial (.ref fI) self) (.ref fI, [self])) (hz : rest.length ≤ sizeLine)
    (hq : codeAny (model prog w) A (.call (.ref fI) ⟨.ref (h.objs.size + 1) :: rest, []⟩) (fun r s' => match r with | .ok (.ret v) => v = .none ∧ Q (.done (.ret (.ref (h.objs.size + 1)))) s' | .ok _ => False | .error e => E e s')
      ⟨(h.push (PySem.W.kdv_tup rest)).push (PySem.HandSPX.excO C h.objs.size), g, d, t, os⟩) :
    wpAny (model prog w) A (Builtin.«type.__call__» ⟨.ref C :: rest, []⟩) Q E ⟨h, g, d, t, os⟩ := by
  have k : ∀ b o, h.get? b = some o → ((h.push (PySem.W.kdv_tup rest)).push (PySem.HandSPX.excO C h.objs.size)).get? b = some o := by
    intro b o e
    exact Heap.get?_push_of_some _ (Heap.get?_push_of_some _ e)
  have hC1 := k _ _ hC
  have got : ((h.push (PySem.W.kdv_tup rest)).push (PySem.HandSPX.excO C h.objs.size)).get? (h.objs.size + 1) = some (PySem.HandSPX.excO C h.objs.size) := by heap_get
  have self : (Value.ref C :: bm).contains (.ref C) = true := by simp
  repeat (first
    | with_reducible refine wpAny_loadPart_at hC ?_
    | with_reducible refine wpAny_madeBy_exc hC ?_
    | wp_step)
  refine codeAny_call_builtin_code (Code.quiet_builtin _ F.quiet) (mk_check F T hC (mk_new F T hC hz ?_))
  show wpAny _ _ _ _ _ _
  have look := hi.keeps k
  have bind := (hb (.ref (h.objs.size + 1))).keeps k
  unfold isInstance
  repeat (first
    | with_reducible refine wpAny_loadPart_at got ?_
    | (with_reducible refine wpAny_isSubtype_exc hC1 ?_; rw [self])
    | wp_step)
  show wpAny _ _ (typeLookup (.ref C) _) _ _ _
  refine look.at (wpAny_holding (wpAny_bind (bind.at (wpAny_bind (wpAny_call (codeAny_mono hq ?_))))))
  intro r s' z
  match r, z with
  | .error e, z => exact z
  | .ok (.ret v), ⟨e, z⟩ =>
    subst e
    first
      | exact wpAny_pure (wpAny_pure z)
      | (wp_walk; exact z)
theorem mk_call (F : ExcBaseFacts B newId initId bmB) (T : Above B bm) {rest : List Value} {fI : Addr}
    (hC : h.get? C = some (excClassObj nm q C N bs bm hdct sn sub ab col dd k0 k1 k2 k3 k5 newId)) (hi : PySem.W.Looks (model prog w) h (typeLookup (.ref C) "__init__") (some (.ref fI)))
    (hb : ∀ self, PySem.W.Looks (model prog w) h (bindSpecial (.ref fI) self) (.ref fI, [self])) (hz : rest.length ≤ sizeLine)
    (hq : codeAny (model prog w) (A.under (.builtin "type.__call__" ⟨.ref C :: rest, []⟩)) (.call (.ref fI) ⟨.ref (h.objs.size + 1) :: rest, []⟩) (PySem.W.InitBack (h.objs.size + 1) R)
      ⟨(h.push (PySem.W.kdv_tup rest)).push (PySem.HandSPX.excO C h.objs.size), g, d, t, os⟩) : codeAny (model prog w) A (.call (.ref C) ⟨rest, []⟩) R ⟨h, g, d, t, os⟩ := by
  have l1 := tc_lookup
  have l2 := tc_bind (.ref C)
  have ty : (⟨h, g, d, t, os⟩ : Shared).TypeIs (.ref C) "type" := ⟨_, hC, rfl⟩
  refine codeAny_of_tree ?_
  show wpAny _ _ (callAny (.ref C) _) _ _ _
  repeat (any_goals (first
    | assumption
    | with_reducible refine wpAny_loadPart_at hC ?_
    | wp_step))
  refine ⟨rfl, codeAny_call_builtin_at (Code.quiet_builtin _ (by decide +kernel)) entry_typeCall (wpAny_check_type_call_sub hC (mk_type F T hC hi hb hz (codeAny_mono hq ?_)))⟩
  intro r s' z
  rcases r with e | (v | _ | _ | _) <;> exact z
end
/-! ### own exceptions over any built-in class, with fields -/
section
open Builtin Builtin.ObjectAttr
/-- what the written part says of such a class -/
structure OexB (K : PySem.W.Frag) (C : Addr) : Prop where
  made : ∃ (B newId initId : String) (bmB bm : List Value) (nm q : Str) (N : Addr) (bs : List Value) (hdct : Bool) (sn : List Str) (sub : List Value) (ab : Bool) (col : Option Bool) (dd : Option Addr) (k0 k1 k2 k3 k5 : Option Value),
    PySem.ExcBaseFacts B newId initId bmB ∧ Above B bm ∧ K.lookup C = some (excClassObj nm q C N bs bm hdct sn sub ab col dd k0 k1 k2 k3 k5 newId)
  st : ∃ (T : String) (bmT : List Value), PySem.StoreFacts T bmT "object.__setattr__" "object" ∧ PySem.W.excOver K C bmT = true
  hd : PySem.W.hasDictIn K C = true
  sa : PySem.W.findIn K (.ref C) "__setattr__" = some (some (.builtin "object.__setattr__"))
  exC : PySem.W.subIn K (.ref C) (.type "BaseException") = some true
  tyC : PySem.W.typeIn K (.ref C) = some (.type "type")
  kC : PySem.W.keepIn K (.ref C) = true
theorem OexB.cd {K : PySem.W.Frag} {C : Addr} (T : OexB K C) : ∃ cd, PySem.W.clsIn K C = some cd ∧ cd.hasDict = true := PySem.W.any_some T.hd
theorem taker_none {K : PySem.W.Frag} {C : Addr} {f : Str} (h : PySem.W.findIn K (.ref C) f = some none) : PySem.W.takerIn K C f = some none := by
  unfold PySem.W.takerIn
  rw [h]
  rfl
variable {prog : Program} {w : World} {A : Around} {R : Result → Shared → Prop} {hp : Heap} {g : Array GenState} {d : Drawn} {t : Nat} {os : OsState} {K : PySem.W.Frag} {name : Str} {tk : Tok} {v : Value} {x C : Addr} {fv : Array Value}
theorem sa_first (T : OexB K C) (X : K.In hp) (hx : hp.get? x = some { cls := .ref C, data := .fields fv }) (ha : PySem.W.findIn K (.ref C) name = some none)
    (hq : ∀ h' tk' dx, (∀ b o, b ≠ x → hp.get? b = some o → h'.get? b = some o) → hp.objs.size ≤ dx → dx ≠ x → h'.get? x = some { cls := .ref C, dict := some dx, data := .fields fv } → h'.Ns1 dx (fun y => if y = name then some v else none) → R (.ok (.ret .none)) ⟨h', g, d, tk', os⟩) :
    codeAny (model prog w) A (.call (.builtin "object.__setattr__") ⟨[.ref x, .str name tk, v], []⟩) R ⟨hp, g, d, t, os⟩ := by
  obtain ⟨TT, bmT, SF, ov⟩ := T.st
  obtain ⟨cd, hcd, hdd⟩ := T.cd
  have I : PySem.W.InstAt hp x { cls := .ref C, data := .fields fv } C none := ⟨hx, rfl, rfl, trivial⟩
  have hxs : x ≠ hp.objs.size := Nat.ne_of_lt (Heap.lt_size hx)
  refine PySem.W.osa_openX SF X I ov (taker_none ha) (fun b => ?_)
  have lc : PySem.W.Looks (model prog w) hp (classData C) cd := PySem.W.looks_clsIn X hcd
  obtain ⟨z1, z2, z3, z4, z5, z6, z7, z8, z9, z10, z11⟩ := cd
  dsimp only at hdd
  subst hdd
  show wpAny _ _ (storeInOwnDict (.ref x) (.ref C) (.str name tk) name v b) _ _ _
  unfold storeInOwnDict ownDictForStores
  cases b <;>
  · repeat (first | with_reducible refine PySem.HandSPX.store_in_new ?_ ?_ | with_reducible refine wpAny_loadPart_at hx ?_ | with_reducible refine lc.at ?_ | wp_step)
    · exact ⟨_, #[], _, (Heap.get?_update_ne _ _ _ _ hxs.symm).trans (Heap.get?_push_at rfl rfl), rfl, fun e he => absurd he (by simp), fun _ => rfl⟩
    · intro h' tk' hn' hs
      have hx1 : (hp.push { cls := .type "dict", data := .dict #[] }).get? x = some { cls := .ref C, data := .fields fv } := Heap.get?_push_of_some _ hx
      refine hq h' tk' hp.objs.size ?_ (Nat.le_refl _) hxs.symm ?_ hn'
      · intro b o hb ho
        have e1 := hs.2 b (Nat.ne_of_lt (Heap.lt_size ho))
        rw [e1, Heap.get?_update_ne _ _ _ _ hb]
        exact Heap.get?_push_of_some _ ho
      · rw [hs.2 x hxs]
        exact Heap.get?_update_self _ hx1 rfl
theorem sa_further {dx : Addr} {m0 : Str → Option Value} {nl : List Str} (T : OexB K C) (X : K.In hp) (hx : hp.get? x = some { cls := .ref C, dict := some dx, data := .fields fv }) (hns : hp.Ns1 dx m0) (hw : Within m0 nl) (hz : nl.length ≤ 1000) (ha : PySem.W.findIn K (.ref C) name = some none)
    (hq : ∀ h' tk', (∀ b o, b ≠ dx → hp.get? b = some o → h'.get? b = some o) → h'.Ns1 dx (fun y => if y = name then some v else m0 y) → R (.ok (.ret .none)) ⟨h', g, d, tk', os⟩) :
    codeAny (model prog w) A (.call (.builtin "object.__setattr__") ⟨[.ref x, .str name tk, v], []⟩) R ⟨hp, g, d, t, os⟩ := by
  obtain ⟨TT, bmT, SF, ov⟩ := T.st
  obtain ⟨cd, hcd, hdd⟩ := T.cd
  obtain ⟨oD, _, _, hoD, _, _⟩ := hns.count hw
  have I : PySem.W.InstAt hp x { cls := .ref C, dict := some dx, data := .fields fv } C (some oD) := ⟨hx, rfl, rfl, hoD⟩
  refine PySem.W.osa_openX SF X I ov (taker_none ha) (fun b => ?_)
  have lc : PySem.W.Looks (model prog w) hp (classData C) cd := PySem.W.looks_clsIn X hcd
  obtain ⟨z1, z2, z3, z4, z5, z6, z7, z8, z9, z10, z11⟩ := cd
  dsimp only at hdd
  subst hdd
  show wpAny _ _ (storeInOwnDict (.ref x) (.ref C) (.str name tk) name v b) _ _ _
  unfold storeInOwnDict ownDictForStores
  cases b <;>
  · repeat (first | with_reducible refine PySem.OEX.store_in_old hns hw hz ?_ | with_reducible refine wpAny_loadPart_at hx ?_ | with_reducible refine lc.at ?_ | wp_step)
    intro h' tk' hn' hs
    exact hq h' tk' (fun b o hb ho => (hs.2 b hb).trans ho) hn'
end
section
variable {X : Cx} {pins : List (Addr × Obj)} {σ : L2.St} {H : Hp} {s : Shared} {a C dx : Addr} {f : Str} {y : V} {u : Value} {fs : List (Str × V)} {Q : Unit → Shared → Prop} {E : Value → Shared → Prop} {A : Around}
theorem put_first (T : OexB X.K C) (I : Inv X pins σ H s) (e : H a = some (exo a C none)) (hno : PySem.W.findIn X.K (.ref C) f = some none) (ry : RelV y u)
    (h : ∀ dx s', H dx = none → dx ≠ a → Inv X pins σ (upd (upd H dx (exd dx [(f, y)])) a (exo a C (some dx))) s' → Q () s') : wpAny (model X.prog X.w) A (setAttr (.ref a) f u) Q E s := by
  obtain ⟨t1, ho⟩ := exo_at I.hok e
  obtain ⟨hp, g, d, t, os⟩ := s
  refine PySem.W.set_plain I.kIn (od := none) ⟨ho, rfl, rfl, trivial⟩ T.sa (sa_first T I.kIn ho hno ?_)
  intro h' tk' dx k big ne hx hn
  have fresh : H dx = none := I.hok.fresh big
  have notd : ∀ {b : Addr} {o : Obj}, hp.get? b = some o → b ≠ dx := by
    intro b o q
    exact Nat.ne_of_lt (Nat.lt_of_lt_of_le (Heap.lt_size q) big)
  have nota : ∀ {b : Addr}, H b = none → b ≠ a := by
    intro b n z
    rw [z, e] at n
    cases n
  have step : Un X.fs [] H (upd (upd H dx (exd dx [(f, y)])) a (exo a C (some dx))) hp h' := by
    constructor
    case keep => exact fun b o q n _ _ => k b o (nota n) q
    case slot => exact fun b o q n _ _ => ⟨o.slots, k b o (nota n) q⟩
    case free =>
      intro b o q n _
      rw [upd_ne (nota n), upd_ne (notd q)]
      exact n
    case there =>
      intro b o q _
      by_cases hb : b = a
      · subst hb
        exact ⟨_, hx⟩
      · exact ⟨o, k b o hb q⟩
    case tups =>
      intro b xs q
      rw [upd_ne (at_ne e q exo_tup), upd_ne (ne_of_none q fresh)]
      exact q
    case frzs =>
      intro b o v q
      rw [upd_ne (at_ne e q exo_frz), upd_ne (ne_of_none q fresh)]
      exact q
    case tbls =>
      intro b ps q
      refine ⟨#[], ?_⟩
      rw [upd_ne (at_ne e q exo_tbl), upd_ne (ne_of_none q fresh), q]
      simp
  refine h dx _ fresh ne (I.un (t' := tk') step ?_)
  intro b o q
  by_cases hb : b = a
  · subst hb
    rw [upd_same] at q
    cases q
    exact exo_ok hx
  rw [upd_ne hb] at q
  by_cases hd : b = dx
  · subst hd
    rw [upd_same] at q
    cases q
    exact exd_ok hn (relO_put (fs := []) ry fun _ => True.intro)
  rw [upd_ne hd] at q
  refine (I.hok b o q).stay (fun c v hc z => k c v ?_ z) (fun c hc => ?_) (fun c xs hc => ?_)
  · rcases hc with rfl | hc
    · exact hb
    · exact at_ne e hc exo_own
  · rw [upd_ne (at_ne e hc exo_own), upd_ne (ne_of_none hc fresh)]
    exact hc
  · rw [upd_ne (at_ne e hc exo_tup), upd_ne (ne_of_none hc fresh)]
    exact hc
theorem put_further (T : OexB X.K C) (I : Inv X pins σ H s) (e : H a = some (exo a C (some dx))) (ed : H dx = some (exd dx fs)) (hl : fs.length ≤ 900) (hno : PySem.W.findIn X.K (.ref C) f = some none) (ry : RelV y u)
    (h : ∀ s', Inv X pins σ (upd H dx (exd dx ((f, y) :: fs))) s' → Q () s') : wpAny (model X.prog X.w) A (setAttr (.ref a) f u) Q E s := by
  obtain ⟨t1, ho⟩ := exo_at I.hok e
  obtain ⟨mA, hns, rel⟩ := exd_at I.hok ed
  have hw := within_of rel
  obtain ⟨hp, g, d, t, os⟩ := s
  obtain ⟨oD, _, _, hoD, _, _⟩ := hns.count hw
  refine PySem.W.set_plain I.kIn (od := some oD) ⟨ho, rfl, rfl, hoD⟩ T.sa (sa_further T I.kIn ho hns hw ?_ hno ?_)
  · rw [List.length_map]
    omega
  · intro h' tk' k hn
    have there : ∃ o, h'.get? dx = some o := by
      obtain ⟨o, _, _, e', _⟩ := hn
      exact ⟨o, e'⟩
    refine h _ (I.write (t' := tk') (x := dx) (e := dx) (o := exd dx ((f, y) :: fs)) ?_ (.inl rfl) k there (exd_ok hn (relO_put ry rel)))
    rw [ed]
    exact True.intro
end
/-- self.f = y in the __init__ of an exception -/
def tPut (K : PySem.W.Frag) (f : Str) (to te : TE) : TS := fun D σ H => te σ H fun y H1 => to σ H1 fun x H2 => ∃ a C : Addr, x = .ref a ∧ OexB K C ∧ PySem.W.findIn K (.ref C) f = some none ∧
  ((H2 a = some (exo a C none) ∧ ∀ dx, H2 dx = none → dx ≠ a → D.nx σ (upd (upd H2 dx (exd dx [(f, y)])) a (exo a C (some dx)))) ∨
    ∃ (dx : Addr) (fs : List (Str × V)), H2 a = some (exo a C (some dx)) ∧ H2 dx = some (exd dx fs) ∧ fs.length ≤ 900 ∧ D.nx σ (upd H2 dx (exd dx ((f, y) :: fs))))
section
variable {X : Cx} {o e : Expr} {es : List Expr} {to te : TE} {ta : TA} {f : Str} {p p' pos : Pos}
theorem ps_put (ho : PE X o to) (he : PE X e te) (hs : swapsWith e (some (.Attribute o f p')) pos.line X.env = pure false := by rfl) : PS X (.Assign [.Attribute o f p'] e pos) (tPut X.K f to te) := by
  constructor
  intro pins s σ H D I h
  refine plainObj_wpAny_Assign_Attribute (thn (he.run pins s σ H _ I h) ?_) hs
  rintro v s1 ⟨y, H1, I1, r1, q1⟩
  refine thn (ho.run pins s1 σ H1 _ I1 q1) ?_
  rintro u s2 ⟨x, H2, I2, r2, a, C, rfl, T, hno, q⟩
  obtain rfl : u = Value.ref a := r2
  rcases q with ⟨ea, q⟩ | ⟨dx, fs, ea, ed, hl, q⟩
  · exact put_first T I2 ea hno r1 fun dx s' n ne J => ⟨σ, _, J, q dx n ne⟩
  · exact put_further T I2 ea ed hl hno r1 fun s' J => ⟨σ, _, J, q⟩
/-- C(e, ..) of such a class, to be raised -/
theorem pmk_oexB {CX : CXT} {x : Str} {C fI : Addr} {k : Nat} {fd : FuncData} {ps : List Str} {sp : Sp} (T : OexB X.K C) (iC : PySem.W.findIn X.K (.ref C) "__init__" = some (some (.ref fI))) (tI : PySem.W.typeIn X.K (.ref fI) = some (.type "function"))
    (G : FnOk X.prog X.w X.K X.mg X.base CX k fI fd ps sp) (hr : Room (k + 1) X.A) (hb : Binds X.K fd ps []) (hx : Passes CX X (fun _ _ _ => False)) (hg : Gl X x) (hm : X.mg x = some (.ref C)) (ha : PA X (e :: es) ta)
    (hdb : (x == ("__debug__" : Str)) = false := by decide) (he : starEach (e :: es) X.env = (false, eval e X.env) :: starEach es X.env := by rfl) (hpl : (backTo pos (starEach es X.env)).any (·.1) = false := by rfl) :
    PMk X (.Call (.Name x p) (e :: es) [] pos) (tMkO C sp [] ta) := by
  intro pins s σ H Q I h
  obtain ⟨B, newId, initId, bmB, bm, nm, qn, N, bs, hdct, sn, sub, ab, col, dd, k0, k1, k2, k3, k5, FB, hT, hC0⟩ := T.made
  refine wpAny_Call_Name_kw (ld_glob I hg hm ?_ hdb)
  refine PySem.W.callWith_K (h₀ := X.base) I.ok.mod.kin T.kC (thn (ha.run pos pins s σ H _ I h) ?_) he hpl
  rintro us s1 ⟨vs, H1, I1, r1, hz, q1⟩
  refine ⟨I1.kIn, ?_⟩
  show wpAny _ _ (call (.ref C) us) _ _ _
  obtain ⟨hp, g, dr, tk, os⟩ := s1
  have hC := I1.kIn _ _ hC0
  let A1 := hp.objs.size + 1
  let hp2 := (hp.push (PySem.W.kdv_tup us)).push (PySem.HandSPX.excO C hp.objs.size)
  have big : hp.objs.size ≤ A1 := Nat.le_succ _
  have q2 := q1 A1 (I1.hok.fresh big)
  have kk : ∀ b o, hp.get? b = some o → hp2.get? b = some o := fun b o e => Heap.get?_push_of_some _ (Heap.get?_push_of_some _ e)
  have got : hp2.get? A1 = some (PySem.HandSPX.excO C hp.objs.size) := by
    show ((hp.push (PySem.W.kdv_tup us)).push (PySem.HandSPX.excO C hp.objs.size)).get? (hp.objs.size + 1) = _
    heap_get
  have I2 : Inv X pins σ (upd H1 A1 (exo A1 C none)) ⟨hp2, g, dr, tk, os⟩ := I1.laid (t' := tk) (a := A1) (o := exo A1 C none) (h' := hp2) kk big (exo_ok got)
  have r2 : Vals (V.ref A1 :: (vs ++ [])) (Value.ref A1 :: us) := by
    rw [List.append_nil]
    exact .cons rfl r1
  have hlen : (Value.ref A1 :: us).length = ps.length := by
    rw [← r2.length]
    exact G.len _ _ _ _ q2
  have hus : us.length ≤ sizeLine := by
    rw [← Paired.length r1, sizeLine_eq]
    omega
  have bd := hb ⟨hp2, g, dr, tk, os⟩ (Value.ref A1 :: us) I2.kIn (by rw [List.append_nil]; exact hlen)
  rw [List.append_nil] at bd
  refine wpAny_call (mk_call FB hT hC (PySem.W.looks_findIn I1.kIn iC) (fun self => PySem.W.bind_fn I1.kIn self tI) hus ?_)
  refine codeAny_mono (G.run _ X.stack _ _ ⟨Value.ref A1 :: us, []⟩ (Value.ref A1 :: us) _ _ (fun _ _ _ => False) (hr.make C us []) (I2.env0.make C us []) bd r2 q2) ?_
  intro r s' hq'
  match r, hq' with
  | .error er, hq' => exact hx pins σ _ _ er s' I2 hq'
  | .ok (.ret u), ⟨v, H2, os2, bare2, un2, hok2, rv, ev, d, fs, ea, ed, hd1, q3⟩ =>
    subst ev
    obtain ⟨h2, g2, d2, t2, os'⟩ := s'
    exact ⟨rv, mk_end (raises_own T.exC T.tyC) I1 big kk un2 hok2 os2 bare2 ea ed hd1 q3⟩
end
/-! ### a kept exception, looked at -/
/-- at a stands a kept exception of the class C with these fields -/
def KeptE (H : Hp) (a C : Addr) (fs : List (Str × V)) : Prop := ∃ dd : Addr, H a = some (keptX (.ref C) (some dd) a) ∧ H dd = some (.xd fs)
theorem keptE_inst {X : Cx} {pins : List (Addr × Obj)} {σ : L2.St} {H : Hp} {s : Shared} {a C : Addr} {fs : List (Str × V)} (I : Inv X pins σ H s) (h : KeptE H a C fs) : ∃ (ox od : Obj), PySem.W.InstAt s.heap a ox C (some od) ∧
    ∀ f, ∃ u, RelO (fs.lookup f) u ∧ PySem.W.lookIn f od = some u := by
  obtain ⟨dd, ea, ed⟩ := h
  obtain ⟨oe, vs, ho, hz, hd⟩ := keptX_at I.hok ea
  have hx : ObjOk X.prog X.w H s.heap dd (.xd fs) := I.hok dd _ ed
  obtain ⟨mA, hns, hr⟩ := hx
  obtain ⟨od, h1, hl⟩ := lookIn_ns hns
  refine ⟨oe, od, ⟨ho, hz.1, ?_, ?_⟩, fun f => ⟨mA f, hr f, hl f⟩⟩
  · unfold PySem.W.notCls
    rw [hd] <;> rfl
  · rw [hz.2]
    exact h1
/-- e.f, e a kept exception -/
def tFldX (K : PySem.W.Frag) (f : Str) (te : TE) : TE := fun σ H Q => te σ H fun x H1 => ∃ (a C : Addr) (fs : List (Str × V)) (v : V), x = .ref a ∧ XfC K C ∧ PySem.W.findIn K (.ref C) f = some none ∧ KeptE H1 a C fs ∧ fs.lookup f = some v ∧ Q v H1
theorem pe_fldX {X : Cx} {e : Expr} {te : TE} {pos : Pos} {n : Str} (he : PE X e te) (hb : attributeBase e n X.env (eval e X.env) = eval e X.env := by rfl) : PE X (.Attribute e n pos) (tFldX X.K n te) := by
  constructor
  intro pins s σ H Q I h
  refine attr_of hb (thn (he.run pins s σ H _ I h) ?_)
  rintro u s1 ⟨x, H1, I1, rx, a, C, fs, v, rfl, T, hno, hk, l, q⟩
  obtain rfl : u = Value.ref a := rx
  obtain ⟨ox, od, J, look⟩ := keptE_inst I1 hk
  obtain ⟨m, r, hl⟩ := look n
  obtain ⟨u, hu, ru⟩ := RelO.some_of (v := v) (o := m) (by rw [← l]; exact r)
  exact HandSPX.exc_get I1.kIn J T.ga T.gg T.exC (PySem.W.findObj_own T.hdC hno rfl (by rw [hl, hu])) (handed_of ru) ⟨v, H1, I1.tok _, ru, q⟩
theorem keptE_kit {K : PySem.W.Frag} {a C : Addr} {od : Option Obj} {ox : Obj} (T : ExcC K C) : PySem.W.KitX K (.ref a) (.ref C) (fun h => PySem.W.InstAt h a ox C od) := by
  obtain ⟨cd, hc, _⟩ := PySem.W.any_some T.hd
  exact PySem.W.kitx_exc (by rw [hc]; rfl) T.hg T.hk T.hs T.ha T.hn T.ht T.hm
/-- isinstance(e, c) of a kept exception, or of what the layer knows already -/
def rIsO (K : PySem.W.Frag) : List V → Hp → VK → Prop := fun xs H Q => rIsi K xs H Q ∨ ∃ (a C : Addr) (fs : List (Str × V)) (c : V) (u : Value) (b : Bool), xs = [.ref a, c] ∧ KeptE H a C fs ∧ ExcC K C ∧ ClsV c u ∧ PySem.W.kitOne K (.ref C) u = some b ∧ Q (.bl b) H
theorem call_isO {X : Cx} : CallR X (.builtin "isinstance") (rIsO X.K) := by
  intro pins s σ H xs us Q I r h
  rcases h with h | ⟨a, C, fs, c, u, b, rfl, hk, T, k, e, q⟩
  · exact call_isi pins s σ H xs us Q I r h
  obtain ⟨u1, u2, rfl, r1, r2⟩ := vals2 r
  obtain rfl : u1 = Value.ref a := r1
  have e2 := k.eq r2
  subst e2
  obtain ⟨ox, od, J, _⟩ := keptE_inst I hk
  exact PySem.W.kia_one (keptE_kit T) I.kIn J e (fun z => nomatch z) fun tk => ⟨.bl b, H, I.tok tk, rfl, q⟩
/-- isinstance(e, (c1, c2, ..)) of a kept exception, or of what the layer knows already -/
def rIsOT (K : PySem.W.Frag) : List V → Hp → VK → Prop := fun xs H Q => rIsiT K xs H Q ∨ ∃ (a C : Addr) (fs : List (Str × V)) (tp : Addr) (cs : List V) (us : List Value) (b : Bool), xs = [.ref a, .ref tp] ∧ KeptE H a C fs ∧ ExcC K C ∧ H tp = some (.tup cs) ∧ Paired ClsV cs us ∧
  PySem.W.kitAny K (.ref C) us = some b ∧ Q (.bl b) H
theorem call_isOT {X : Cx} : CallR X (.builtin "isinstance") (rIsOT X.K) := by
  intro pins s σ H xs us Q I r h
  rcases h with h | ⟨a, C, fs, tp, cs, ws, b, rfl, hk, T, hT, k, e, q⟩
  · exact call_isiT pins s σ H xs us Q I r h
  obtain ⟨u1, u2, rfl, r1, r2⟩ := vals2 r
  obtain rfl : u1 = Value.ref a := r1
  obtain rfl : u2 = Value.ref tp := r2
  obtain ⟨ox, od, J, _⟩ := keptE_inst I hk
  have ht : ObjOk X.prog X.w H s.heap tp (.tup cs) := I.hok tp _ hT
  obtain ⟨_, its, rv, o, h1, h2, n, h3⟩ := ht
  have e3 := ClsV.all k rv
  subst e3
  obtain ⟨oc, od', dt, sl⟩ := o
  simp only at h2 h3
  subst h2 h3
  exact PySem.W.kia_tup (keptE_kit T) I.kIn J h1 e (fun z => nomatch z) fun tk => ⟨.bl b, H, I.tok tk, rfl, q⟩
/-! ### an object made that may refuse -/
section
variable {X : Cx} {CX : CXT} {k : Nat} {f C : Addr} {fd : FuncData} {ps : List Str} {sp : Sp} {dvs : List V} {ds : List Value} {E : L2.St → XK} {x : Str} {p pos : Pos} {e : Expr} {es : List Expr} {t : TA}
def tMakeS (C : Addr) (sp : Sp) (dvs : List V) (E : L2.St → XK) (t : TA) : TE := fun σ H Q => t σ H fun vs H1 => ∀ x dx, H1 x = none → H1 dx = none → dx ≠ x → sp (.ref x :: (vs ++ dvs)) (upd (upd H1 dx (.own x)) x (.ins C dx [])) (fun v H2 => v = .non ∧ Q (.ref x) H2) (E σ)
theorem pe_makeS (M : Mk X.K C f) (G : FnOk X.prog X.w X.K X.mg X.base CX k f fd ps sp) (hr : Room (k + 1) X.A) (hg : Gl X x) (hm : X.mg x = some (.ref C)) (hb : Binds X.K fd ps ds) (hd : Vals dvs ds) (hx : ∀ σ, PassesAt CX X σ (E σ))
    (ha : PA X (e :: es) t) (hdb : (x == ("__debug__" : Str)) = false := by decide) (he : starEach (e :: es) X.env = (false, eval e X.env) :: starEach es X.env := by rfl) (hpl : (backTo pos (starEach es X.env)).any (·.1) = false := by rfl) :
    PE X (.Call (.Name x p) (e :: es) [] pos) (tMakeS C sp dvs E t) := by
  constructor
  intro pins s σ H Q I h
  refine wpAny_Call_Name_kw (ld_glob I hg hm ?_ hdb)
  refine PySem.W.callWith_K (h₀ := X.base) I.ok.mod.kin M.kp (thn (ha.run pos pins s σ H _ I h) ?_) he hpl
  rintro us s1 ⟨vs, H1, I1, r, q⟩
  refine ⟨I1.kIn, ?_⟩
  have q2 := q (s1.heap.objs.size + 1) s1.heap.objs.size (I1.hok.fresh (Nat.le_succ _)) (I1.hok.fresh (Nat.le_refl _)) (Nat.ne_of_lt (Nat.lt_succ_self _))
  have J := Inv.made (C := C) I1
  have r2 : Vals (V.ref (s1.heap.objs.size + 1) :: (vs ++ dvs)) (Value.ref (s1.heap.objs.size + 1) :: (us ++ ds)) := .cons rfl (r.append hd)
  have hl : (Value.ref (s1.heap.objs.size + 1) :: us ++ ds).length = ps.length := by
    have e := r2.length
    rw [G.len _ _ _ _ q2] at e
    exact e.symm
  refine wpAny_call (make_map (f := f) I1.kIn M.makes M.init (beq_iff_eq.mp M.fn) (codeAny_mono (G.run _ X.stack _ _ ⟨Value.ref (s1.heap.objs.size + 1) :: us, []⟩ (Value.ref (s1.heap.objs.size + 1) :: (us ++ ds)) _ _ (E σ) (hr.make C us [])
    (J.env0.make C us []) (hb _ (Value.ref (s1.heap.objs.size + 1) :: us) J.kIn hl) r2 q2) ?_))
  intro r s' hq
  match r, hq with
  | .error er, hq => exact hx σ pins _ _ er s' J hq
  | .ok (.ret u), hq =>
    obtain ⟨v, H', I3, rv, ev, q3⟩ := J.after hq
    subst ev
    exact ⟨rv, ⟨V.ref (s1.heap.objs.size + 1), H', I3, rfl, q3⟩⟩
end
theorem oex_of {K : PySem.W.Frag} {B newId initId : String} {nm q : Str} {C N : Addr} {bs bm : List Value} {sn : List Str} {sub : List Value} {ab : Bool} {col : Option Bool} {dd : Option Addr} {m0 m1 m2 m3 m5 : Option Value}
    (FB : PySem.ExcBaseFacts B newId initId bm) (SF : PySem.StoreFacts B bm "object.__setattr__" "object") (xL : K.lookup C = some (excClassObj nm q C N bs bm true sn sub ab col dd m0 m1 m2 m3 m5 newId)) (ht : PySem.W.excTail bm bm = true)
    (hd : PySem.W.hasDictIn K C = true) (sa : PySem.W.findIn K (.ref C) "__setattr__" = some (some (.builtin "object.__setattr__"))) (exC : PySem.W.subIn K (.ref C) (.type "BaseException") = some true) (tyC : PySem.W.typeIn K (.ref C) = some (.type "type")) (kC : PySem.W.keepIn K (.ref C) = true) : OexB K C := by
  refine ⟨⟨B, newId, initId, bm, bm, nm, q, N, bs, true, sn, sub, ab, col, dd, m0, m1, m2, m3, m5, FB, ⟨FB.hasB, FB.noAttr, FB.noName⟩, xL⟩, ⟨B, bm, SF, ?_⟩, hd, sa, exC, tyC, kC⟩
  unfold PySem.W.excOver PySem.W.clsIn
  rw [xL]
  simp [excClassObj, ht]
/-- KeyError: stores by its own facts, made by LookupError's __new__ -/
abbrev keyTail : List Value := [.type "KeyError", .type "LookupError", .type "Exception", .type "BaseException", .type "object"]
theorem store_KeyError : PySem.StoreFacts "KeyError" keyTail "object.__setattr__" "object" :=
  ⟨by kernel_rfl, .of (n := "__setattr__") (owner := "object") (by rw [typeLookup_type, builtinLookup_eq_fast]; kernel_rfl) (by decide +kernel) (by decide +kernel) (by decide +kernel) (.inl (by decide +kernel)) (by rw [isSubtype_type]; kernel_rfl),
    PySem.F.entry_object_sa, by decide +kernel, by decide +kernel, by decide +kernel, fun a b c => by unfold argsOk; kernel_rfl, fun self => by kernel_rfl⟩
theorem oex_key {K : PySem.W.Frag} {nm q : Str} {C N : Addr} {bs : List Value} {sn : List Str} {sub : List Value} {ab : Bool} {col : Option Bool} {dd : Option Addr} {m0 m1 m2 m3 m5 : Option Value}
    (xL : K.lookup C = some (excClassObj nm q C N bs keyTail true sn sub ab col dd m0 m1 m2 m3 m5 "LookupError.__new__"))
    (hd : PySem.W.hasDictIn K C = true) (sa : PySem.W.findIn K (.ref C) "__setattr__" = some (some (.builtin "object.__setattr__"))) (exC : PySem.W.subIn K (.ref C) (.type "BaseException") = some true) (tyC : PySem.W.typeIn K (.ref C) = some (.type "type")) (kC : PySem.W.keepIn K (.ref C) = true) : OexB K C := by
  refine ⟨⟨"LookupError", _, _, _, keyTail, nm, q, N, bs, true, sn, sub, ab, col, dd, m0, m1, m2, m3, m5, PySem.F.excBase_LookupError, ⟨by decide +kernel, by decide +kernel, by decide +kernel⟩, xL⟩, ⟨"KeyError", keyTail, store_KeyError, ?_⟩, hd, sa, exC, tyC, kC⟩
  unfold PySem.W.excOver PySem.W.clsIn
  rw [xL]
  simp [excClassObj, show PySem.W.excTail keyTail keyTail = true by decide +kernel]
theorem kit_up {K : PySem.W.Frag} {C : Addr} {T : String} (m : PySem.W.kitMeta T = true) (s : PySem.W.subIn K (.ref C) (.type T) = some true) : PySem.W.kitOne K (.ref C) (.type T) = some true := by
  show (if (Value.ref C == Value.type T) = true then some true else if PySem.W.kitMeta T = true then PySem.W.subIn K (.ref C) (.type T) else none) = some true
  rw [if_neg (by intro z; cases z), if_pos m]
  exact s
theorem kit_cls2 {K : PySem.W.Frag} {C D : Addr} {b : Bool} (ic : PySem.W.isClsIn K D = true) (ty : PySem.W.typeIn K (.ref D) = some (.type "type")) (s : PySem.W.subIn K (.ref C) (.ref D) = some b) : PySem.W.kitCls K (.ref C) (.ref D) = some b := by
  have ic' : (PySem.W.clsIn K D).isSome = true := ic
  have e : ((PySem.W.clsIn K D).isSome && PySem.W.typeIn K (.ref D) == some (.type "type")) = true := by rw [ic', ty]; rfl
  show (if ((PySem.W.clsIn K D).isSome && PySem.W.typeIn K (.ref D) == some (.type "type")) = true then PySem.W.subIn K (.ref C) (.ref D) else none) = some b
  rw [if_pos e]
  exact s
theorem kit_other {K : PySem.W.Frag} {C D : Addr} (self : PySem.W.subIn K (.ref C) (.ref C) = some true) (ic : PySem.W.isClsIn K D = true) (ty : PySem.W.typeIn K (.ref D) = some (.type "type")) (s : PySem.W.subIn K (.ref C) (.ref D) = some false) : PySem.W.kitOne K (.ref C) (.ref D) = some false := by
  have ne : ¬ (Value.ref C == Value.ref D) = true := by
    intro z
    have e := eq_of_beq z
    injection e with e
    subst e
    rw [self] at s
    cases s
  show (if (Value.ref C == Value.ref D) = true then some true else PySem.W.kitCls K (.ref C) (.ref D)) = some false
  rw [if_neg ne]
  exact kit_cls2 ic ty s
theorem exm_hit {K : PySem.W.Frag} {C : Addr} (ex : PySem.W.subIn K (.ref C) (.type "BaseException") = some true) (ic : PySem.W.isClsIn K C = true) (ty : PySem.W.typeIn K (.ref C) = some (.type "type")) (s : PySem.W.subIn K (.ref C) (.ref C) = some true) : PySem.W.exmOne K (.ref C) (.ref C) = some true := by
  show (if (PySem.W.subIn K (.ref C) (.type "BaseException") == some true) = true then PySem.W.kitCls K (.ref C) (.ref C) else none) = some true
  rw [if_pos (by rw [ex]; rfl)]
  exact kit_cls2 ic ty s
theorem any_no {K : PySem.W.Frag} {t c : Value} {cs : List Value} (h : PySem.W.kitOne K t c = some false) (r : PySem.W.kitAny K t cs = some false) : PySem.W.kitAny K t (c :: cs) = some false := kitAny_cons h (fun _ => r) (fun z => nomatch z)
/-! ### a block by a reading of one's own -/
theorem pss_imp {X : Cx} {b : List Stmt} {t t' : TS} (h : PSs X b t) (i : ∀ D σ H, t' D σ H → t D σ H) : PSs X b t' := ⟨fun pins s σ H D I z => h.run pins s σ H D I (i _ _ _ z)⟩
/-! ### o.m(e, .., k = v, ..), what is raised wished for at the caller's slots -/
section
variable {X : Cx} {CX : CXT} {k n : Nat} {f C : Addr} {fd : FuncData} {ps ks : List Str} {sp : Sp} {E : L2.St → XK} {m : Str} {apos pos : Pos} {o e : Expr} {es : List Expr} {kws : List Keyword} {ta : TE} {t tk : TA} {g : List Value → List Value → List Value} {gV : List V → List V → List V}
theorem passNo {P : Program} {w : World} {σ : L2.St} (hP : X.prog = P) (hw : X.w = w) : PassesAt (L2.CX P w) X σ E0 := by
  intro pins H s e s' I h
  obtain ⟨_, _, _, _, _, _, _, _, _, _, _, _, z⟩ := h
  exact (show False from z).elim
theorem run_kbn {pins : List (Addr × Obj)} {σ : L2.St} {H : Hp} {s : Shared} {Q : VK} {us ws : List Value} {vs zs : List V} (F : FnOk X.prog X.w X.K X.mg X.base CX k f fd ps sp) (hr : Room k X.A) (hb : KBn X.K fd ps n ks g gV) (hx : PassesAt CX X σ (E σ))
    (I : L2.Inv X pins σ H s) (r : Vals vs us) (rz : Vals zs ws) (l1 : vs.length = n) (l2 : zs.length = ks.length) (h : sp (gV vs zs) H Q (E σ)) : wpAny (model X.prog X.w) X.A (call (.ref f) us (ks.zip ws)) (EP X pins σ Q) X.xe s := by
  have bd := hb.to s us ws I.kIn (r.length.symm.trans l1) (rz.length.symm.trans l2)
  refine wpAny_call (codeAny_mono (F.run X.A X.stack s H ⟨us, ks.zip ws⟩ (g us ws) (gV vs zs) Q (E σ) hr I.env0 bd (hb.rel r rz) h) fun z s' hz => ?_)
  match z, hz with
  | .error er, hz => exact hx pins H s er s' I hz
  | .ok (.ret u), hz => exact I.after hz
  | .ok .next, hz => exact (show False from hz).elim
  | .ok .brk, hz => exact (show False from hz).elim
  | .ok .cont, hz => exact (show False from hz).elim
def tMethA (C : Addr) (m : Str) (n nk : Nat) (sp : Sp) (gV : List V → List V → List V) (E : L2.St → XK) (ta : TE) (t tk : TA) : TE := fun σ H Q => ta σ H fun x H1 => ∃ a dx fs, x = .ref a ∧ H1 a = some (.ins C dx fs) ∧ fs.lookup m = none ∧
  t σ H1 fun vs H2 => tk σ H2 fun zs H3 => vs.length = n ∧ zs.length = nk ∧ sp (gV (.ref a :: vs) zs) H3 Q (E σ)
theorem pe_methA {pl : Sem Bool} (he : PE X o ta) (c : Cls X.K C) (hm : Meth X.K C m f) (F : FnOk X.prog X.w X.K X.mg X.base CX k f fd ps sp) (hr : Room k X.A) (hb : KBn X.K fd ps (n + 1) ks g gV) (hx : ∀ σ, PassesAt CX X σ (E σ))
    (ha : PA X (e :: es) t) (hkw : PK X kws tk) (n1 : (backToKw pos (keywordEach kws X.env)).all (·.1.isSome) = true := by rfl) (n2 : (backToKw pos (keywordEach kws X.env)).filterMap (·.1) = ks := by rfl)
    (n3 : starEach (e :: es) X.env = (false, eval e X.env) :: starEach es X.env := by rfl) (n4 : ((backTo pos (starEach (e :: es) X.env)).any (·.1) || (backToKw pos (keywordEach kws X.env)).any (·.1.isNone)) = false := by rfl)
    (n5 : eval (.Call (.Attribute o m apos) (e :: es) kws pos) X.env = (do
      let ov ← eval o X.env
      standAt apos.atName
      let (f, first) ← holding [ov] (getMethod ov m pl)
      callWith pos f first (backTo pos (starEach (e :: es) X.env)) (backToKw pos (keywordEach kws X.env))) := by rfl) :
    PE X (.Call (.Attribute o m apos) (e :: es) kws pos) (tMethA C m n ks.length sp gV E ta t tk) := by
  constructor
  intro pins s σ H Q I h
  refine PySem.W.methodCall_KW (pl := pl) (thn (he.run pins s σ H _ I h) ?_) n5
  rintro u s1 ⟨x, H1, I1, rx, a, dx, fs, rfl, ea, l, q⟩
  cases (show u = Value.ref a from rx)
  refine getmeth_ok I1 ea c hm l ?_
  refine PySem.W.callWith_KW (first := [.ref a]) (h₀ := X.base) I.ok.mod.kin hm.kp n1 (thn (ha.run pos pins s1 σ H1 _ I1 q) ?_) n4 n3
  rintro us s2 ⟨vs, H2, I2, r, q2⟩
  refine thn (hkw.run pos pins s2 σ H2 _ I2 q2) ?_
  rintro ws s3 ⟨zs, H3, I3, rz, l1, l2, q3⟩
  refine ⟨I3.kIn, ?_⟩
  rw [n2]
  exact run_kbn (us := .ref a :: us) (vs := .ref a :: vs) F hr hb (hx σ) I3 (.cons rfl r) rz (congrArg Nat.succ l1) l2 q3
/-- o.m(k = v, ..) -/
theorem pe_methA0 {pl : Sem Bool} (he : PE X o ta) (c : Cls X.K C) (hm : Meth X.K C m f) (F : FnOk X.prog X.w X.K X.mg X.base CX k f fd ps sp) (hr : Room k X.A) (hb : KBn X.K fd ps 1 ks g gV) (hx : ∀ σ, PassesAt CX X σ (E σ))
    (hkw : PK X kws tk) (n1 : (backToKw pos (keywordEach kws X.env)).all (·.1.isSome) = true := by rfl) (n2 : (backToKw pos (keywordEach kws X.env)).filterMap (·.1) = ks := by rfl)
    (n4 : ((backTo pos (starEach [] X.env)).any (·.1) || (backToKw pos (keywordEach kws X.env)).any (·.1.isNone)) = false := by rfl)
    (n5 : eval (.Call (.Attribute o m apos) [] kws pos) X.env = (do
      let ov ← eval o X.env
      standAt apos.atName
      let (f, first) ← holding [ov] (getMethod ov m pl)
      callWith pos f first (backTo pos (starEach [] X.env)) (backToKw pos (keywordEach kws X.env))) := by rfl) :
    PE X (.Call (.Attribute o m apos) [] kws pos) (tMethA C m 0 ks.length sp gV E ta tNil tk) := by
  constructor
  intro pins s σ H Q I h
  refine PySem.W.methodCall_KW (pl := pl) (thn (he.run pins s σ H _ I h) ?_) n5
  rintro u s1 ⟨x, H1, I1, rx, a, dx, fs, rfl, ea, l, q⟩
  cases (show u = Value.ref a from rx)
  refine getmeth_ok I1 ea c hm l ?_
  refine PySem.W.callWith_KW0 (first := [.ref a]) (h₀ := X.base) I.ok.mod.kin hm.kp n1 ?_ n4
  refine thn (hkw.run pos pins s1 σ H1 _ I1 q) ?_
  rintro ws s3 ⟨zs, H3, I3, rz, l1, l2, q3⟩
  refine ⟨I3.kIn, ?_⟩
  rw [n2]
  exact run_kbn (us := [.ref a]) (vs := [.ref a]) F hr hb (hx σ) I3 (.cons rfl .nil) rz rfl l2 q3
/-- places alone, as a case of both -/
theorem kbn_of {K : Frag} {ds : List Value} {dvs : List V} (hb : L2.Binds K fd ps ds) (hd : Vals dvs ds) (hn : n + ds.length = ps.length) : KBn K fd ps n [] (fun us _ => us ++ ds) (fun vs _ => vs ++ dvs) :=
  ⟨fun s us ws X l1 l2 => hb s us X (by rw [List.length_append, l1, hn]), fun a _ => a.append hd⟩
end
/-! ### max(xs, default=d) of a list of ints -/
section
variable {prog : Program} {w : World} {A : Around} {R : Result → Shared → Prop} {I : Addr} {fp wr : List Addr} {n : Nat} {Pi : Nat → Value → Prop} {St : Nat → Heap → Prop}
theorem max_turns (W : Walks prog w A.in1 I fp wr n Pi St) (bt : Nat → Nat → Bool) (cm : CmpOf prog w A.in1 .Gt Pi bt) (S : Addr) (out : S ∉ fp) (kw : List (Str × Value)) : ∀ (k j : Nat) (s : Shared) (vb : Value) (c : Nat), n - (j + 1) = k → j + 1 ≤ n → St (j + 1) s.heap → Pi (argBest bt j) vb →
    s.heap.get? S = some { cls := .type "list", dict := none, data := .seq #[vb, vb] c, slots := #[] } →
    (∀ v h' tk, Pi (argBest bt (n - 1)) v → (∀ b o, b ∉ wr → b ≠ S → s.heap.get? b = some o → h'.get? b = some o) → R (.ok (.ret v)) { s with heap := h', toks := tk }) → codeAny (model prog w) A (.builtin "max.loop" ⟨[.ref I, .none, .ref S], kw⟩) R s := by
  have outW : S ∉ wr := fun z => out (W.sub _ z)
  have nm : (toString "max" ++ toString ".loop" : String) = "max.loop" := by decide
  intro k
  induction k with
  | zero =>
    intro j s vb c hk hj st hP hS q
    have last : j + 1 = n := by omega
    refine codeAny_builtin PySem.F.entry_max_loop ?_; rw [Around.under_plainId PySem.F.plain_max_loop _]
    show wpAny _ A.in1 (seqItems? (.ref S) >>= _) _ _ s; refine wpAny_bind (wpAny_seqItems hS rfl ?_)
    show wpAny _ A.in1 (tryCatch (pyNext (.ref I)) _ >>= _) _ _ s; refine wpAny_bind (wpAny_tryCatch (W.done s _ _ (last ▸ st) fun h' tk kk => ?_))
    have hS2 := kk S _ outW hS
    show wpAny _ A.in1 (updateSeq S (fun _ => #[]) >>= _) _ _ _; refine wpAny_bind (wpAny_updateSeq hS2 rfl (wpAny_bind (wpAny_letGo (wpAny_pure ?_))))
    exact q vb _ tk (by rw [← last]; exact hP) fun b o nb nS e => (Heap.get?_update_other _ _ (Ne.symm nS)).trans (kk b o nb e)
  | succ k ih =>
    intro j s vb c hk hj st hP hS q
    have more : j + 1 < n := by omega
    refine codeAny_builtin PySem.F.entry_max_loop ?_; rw [Around.under_plainId PySem.F.plain_max_loop _]
    show wpAny _ A.in1 (seqItems? (.ref S) >>= _) _ _ s; refine wpAny_bind (wpAny_seqItems hS rfl ?_)
    show wpAny _ A.in1 (tryCatch (pyNext (.ref I)) _ >>= _) _ _ s; refine wpAny_bind (wpAny_tryCatch (W.item (j + 1) s _ _ more st fun v h' tk hv st2 kk => ?_))
    have hS2 := kk S _ outW hS
    show wpAny _ A.in1 (tryCatch (holding [v, v] (richCompare .Gt v vb >>= _)) _ >>= _) _ _ _; refine wpAny_bind (wpAny_tryCatch (wpAny_holding (wpAny_bind (cm (j + 1) (argBest bt j) v vb _ _ _ hv hP ?_))))
    refine wpAny_bind (wpAny_holding (wpAny_truthy_bool (wpAny_bind (wpAny_letGo (wpAny_pure ?_)))))
    cases hb : bt (j + 1) (argBest bt j) with
    | true =>
      simp only [if_true]; refine wpAny_bind (wpAny_updateSeq hS2 rfl (wpAny_bind (wpAny_letGo ?_))); rw [nm]
      refine wpAny_pure ⟨plainId_quiet PySem.F.plain_max_loop _, ih (j + 1) _ v _ (by omega) more (W.frame _ _ _ st2 fun b nb o e => ?_) (by simp only [argBest, hb, if_true]; exact hv) (Heap.get?_update_self _ hS2 rfl) fun v3 h3 tk3 hv3 kk3 => ?_⟩
      · exact (Heap.get?_update_other _ _ (fun z : S = b => out (by rw [z]; exact nb))).trans e
      · exact q v3 h3 tk3 hv3 fun b o nb nS e => kk3 b o nb nS ((Heap.get?_update_other _ _ (Ne.symm nS)).trans (kk b o nb e))
    | false =>
      simp only [Bool.false_eq_true, if_false]; refine wpAny_bind (wpAny_letGo ?_); rw [nm]
      refine wpAny_pure ⟨plainId_quiet PySem.F.plain_max_loop _, ih (j + 1) _ vb c (by omega) more st2 (by simp only [argBest, hb, Bool.false_eq_true, if_false]; exact hP) hS2 fun v3 h3 tk3 hv3 kk3 => ?_⟩
      exact q v3 h3 tk3 hv3 fun b o nb nS e => kk3 b o nb nS (kk b o nb e)
theorem max_first (W : Walks prog w A.in1 I fp wr n Pi St) (bt : Nat → Nat → Bool) (cm : CmpOf prog w A.in1 .Gt Pi bt) (S : Addr) (out : S ∉ fp) (kw : List (Str × Value)) (hn : 0 < n) {s : Shared} {c : Nat} (st : St 0 s.heap)
    (hS : s.heap.get? S = some { cls := .type "list", dict := none, data := .seq #[] c, slots := #[] })
    (q : ∀ v h' tk, Pi (argBest bt (n - 1)) v → (∀ b o, b ∉ wr → b ≠ S → s.heap.get? b = some o → h'.get? b = some o) → R (.ok (.ret v)) { s with heap := h', toks := tk }) : codeAny (model prog w) A (.builtin "max.loop" ⟨[.ref I, .none, .ref S], kw⟩) R s := by
  have outW : S ∉ wr := fun z => out (W.sub _ z)
  have nm : (toString "max" ++ toString ".loop" : String) = "max.loop" := by decide
  refine codeAny_builtin PySem.F.entry_max_loop ?_; rw [Around.under_plainId PySem.F.plain_max_loop _]
  show wpAny _ A.in1 (seqItems? (.ref S) >>= _) _ _ s; refine wpAny_bind (wpAny_seqItems hS rfl ?_)
  show wpAny _ A.in1 (tryCatch (pyNext (.ref I)) _ >>= _) _ _ s; refine wpAny_bind (wpAny_tryCatch (W.item 0 s _ _ hn st fun v h' tk hv st2 kk => ?_))
  have hS2 := kk S _ outW hS
  show wpAny _ A.in1 (updateSeq S (fun _ => #[v, v]) >>= _) _ _ _; refine wpAny_bind (wpAny_updateSeq hS2 rfl ?_); rw [nm]
  refine wpAny_pure ⟨plainId_quiet PySem.F.plain_max_loop _, max_turns W bt cm S out kw _ 0 _ v _ rfl hn (W.frame _ _ _ st2 fun b nb o e => ?_) hv (Heap.get?_update_self _ hS2 rfl) fun v3 h3 tk3 hv3 kk3 => ?_⟩
  · exact (Heap.get?_update_other _ _ (fun z : S = b => out (by rw [z]; exact nb))).trans e
  · exact q v3 h3 tk3 hv3 fun b o nb nS e => kk3 b o nb nS ((Heap.get?_update_other _ _ (Ne.symm nS)).trans (kk b o nb e))
theorem max_empty (W : Walks prog w A.in1 I fp wr 0 Pi St) (S : Addr) (out : S ∉ fp) (d : Value) {s : Shared} {c : Nat} (st : St 0 s.heap)
    (hS : s.heap.get? S = some { cls := .type "list", dict := none, data := .seq #[] c, slots := #[] })
    (q : ∀ h' tk, (∀ b o, b ∉ wr → s.heap.get? b = some o → h'.get? b = some o) → R (.ok (.ret d)) { s with heap := h', toks := tk }) : codeAny (model prog w) A (.builtin "max.loop" ⟨[.ref I, .none, .ref S], [(Str.ofString "default", d)]⟩) R s := by
  refine codeAny_builtin PySem.F.entry_max_loop ?_; rw [Around.under_plainId PySem.F.plain_max_loop _]
  show wpAny _ A.in1 (seqItems? (.ref S) >>= _) _ _ s; refine wpAny_bind (wpAny_seqItems hS rfl ?_)
  show wpAny _ A.in1 (tryCatch (pyNext (.ref I)) _ >>= _) _ _ s; refine wpAny_bind (wpAny_tryCatch (W.done s _ _ st fun h' tk kk => ?_))
  refine wpAny_bind (wpAny_rule ?_)
  exact wpAny_pure (q h' tk kk)
end
section
variable {prog : Program} {w : World} {A : Around} {E : Value → Shared → Prop} {s : Shared} {l : Addr} {its : List Value} {ns : List Int} {Q : Value → Shared → Prop}
theorem max_args (a v : Value) : argsOk "max" ⟨[a], [(Str.ofString "default", v)]⟩ := by unfold argsOk; kernel_rfl
theorem max_dflt (d : Value) (hh : A.handled = none) (hl : s.heap.IsList l its.toArray) (hi : IntsAre its ns)
    (q0 : ns = [] → ∀ h' tk, (∀ b o, s.heap.get? b = some o → h'.get? b = some o) → Q d { s with heap := h', toks := tk })
    (q1 : ∀ h' tk M t', (∀ b o, s.heap.get? b = some o → h'.get? b = some o) → M ∈ ns → (∀ a, a ∈ ns → a ≤ M) → Q (.int M t') { s with heap := h', toks := tk }) : wpAny (model prog w) A (call (.builtin "max") [.ref l] [(Str.ofString "default", d)]) Q E s := by
  obtain ⟨xs, e⟩ := hi.allInts.items
  have hn : numsOf (intItems xs).toList = ns := by rw [← e]; exact hi.numsOf
  rw [nums_intItems] at hn
  subst hn
  rw [e] at hl
  have nm : (toString "max" ++ toString ".loop" : String) = "max.loop" := by decide
  refine kmk_tree PySem.F.kind_max PySem.F.plain_max PySem.F.entry_max (max_args _ _) ?_
  show wpAny _ A.in1 (Builtin.Builtins.bindParams "max" ["key", "default"] 0 ⟨[], [(Str.ofString "default", d)]⟩ >>= _) _ _ s
  refine wpAny_bind (wpAny_of_eq (show Builtin.Builtins.bindParams "max" ["key", "default"] 0 ⟨[], [(Str.ofString "default", d)]⟩ = pure [none, some d] from rfl) (wpAny_bind (wpAny_pure (wpAny_bind ?_))))
  refine iter_intList hl fun s₂ es st hfp hlI => ?_
  subst es
  refine wpAny_bind (wpAny_newObj_type ?_); rw [nm]
  have out : (s.heap.push { cls := .type "list_iterator", data := .fields #[.ref l, .int 0 0] }).objs.size ∉ [s.heap.objs.size, l] := fun z => Nat.lt_irrefl _ (hfp _ z)
  have W := Walks.list (prog := prog) (w := w) (A := A.in1) hh s.heap.objs.size l hlI (intItems xs)
  have hsz : (intItems xs).size = xs.size := by simp [intItems]
  rcases Nat.eq_zero_or_pos xs.size with z | z
  · have ez : (xs.toList.map (·.1)) = [] := by
      have : xs = #[] := Array.eq_empty_of_size_eq_zero z
      rw [this]; rfl
    rw [hsz, z] at W
    refine wpAny_pure ⟨plainId_quiet PySem.F.plain_max_loop _, max_empty W _ out d (W.frame _ _ _ st fun b _ o e => Heap.get?_push_of_some _ e) (Heap.get?_push_size _ rfl) fun h' tk kk => ?_⟩
    exact q0 ez h' tk (old_kept fun b o nb e => kk b o nb (Heap.get?_push_of_some _ e))
  · refine wpAny_pure ⟨plainId_quiet PySem.F.plain_max_loop _, max_first W _ (CmpOf.ints_gt (numAt xs) (fun _ _ => intItems_at)) _ out _ (by rw [hsz]; exact z) (W.frame _ _ _ st fun b _ o e => Heap.get?_push_of_some _ e) (Heap.get?_push_size _ rfl) fun v h' tk hv kk => ?_⟩
    rw [hsz] at hv
    obtain ⟨t, rfl⟩ := intItems_at hv
    obtain ⟨h1, h2⟩ := argBest_gt (numAt xs) (xs.size - 1)
    refine q1 h' tk _ t (old_kept fun b o nb e => kk b o nb (Nat.ne_of_lt (Heap.lt_size e)) (Heap.get?_push_of_some _ e)) ?_ fun a ha => ?_
    · rw [numAt_eq]; exact PySem.getD_mem (by rw [List.length_map, Array.length_toList]; omega)
    · obtain ⟨j, hj, rfl⟩ := mem_getD ha
      rw [List.length_map, Array.length_toList] at hj
      rw [← numAt_eq]; exact h2 j (by omega)
/-- max(xs, default=d): d of none -/
def rDmax (K : PySem.W.Frag) : List V → List V → Hp → VK → Prop := fun vs zs H Q => ∃ (a : Addr) (ns : List Int) (d : V), vs = [V.ref a] ∧ zs = [d] ∧ SqL K H a (ns.map V.int) ∧ (ns = [] → Q d H) ∧ ∀ M, M ∈ ns → (∀ a, a ∈ ns → a ≤ M) → Q (.int M) H
theorem call_Dmax {X : Cx} (hc : X.calm = true) : CallRK X (.builtin "max") ["default"] (rDmax X.K) := by
  intro pins s σ H xs zs us ws Q I r rz h
  obtain ⟨a, ns, d, rfl, rfl, hs, q0, q1⟩ := h
  obtain ⟨its, rv, hl, _⟩ := I.list hs
  obtain ⟨ud, rfl, rd⟩ := Vals.one rz
  rw [Vals.ref1 r]
  exact max_dflt ud (I.ok.hd hc) hl.isList rv.ints (fun e h' tk hk => ⟨d, H, I.kept hk, rd, q0 e⟩) fun h' tk M t' hk h1 h2 => ⟨.int _, H, I.kept hk, ⟨_, rfl⟩, q1 M h1 h2⟩
end
/-! ### min(xs, default=d) of a list of ints -/
section
variable {prog : Program} {w : World} {A : Around} {R : Result → Shared → Prop} {I : Addr} {fp wr : List Addr} {n : Nat} {Pi : Nat → Value → Prop} {St : Nat → Heap → Prop}
theorem min_turns (W : Walks prog w A.in1 I fp wr n Pi St) (bt : Nat → Nat → Bool) (cm : CmpOf prog w A.in1 .Lt Pi bt) (S : Addr) (out : S ∉ fp) (kw : List (Str × Value)) : ∀ (k j : Nat) (s : Shared) (vb : Value) (c : Nat), n - (j + 1) = k → j + 1 ≤ n → St (j + 1) s.heap → Pi (argBest bt j) vb →
    s.heap.get? S = some { cls := .type "list", dict := none, data := .seq #[vb, vb] c, slots := #[] } →
    (∀ v h' tk, Pi (argBest bt (n - 1)) v → (∀ b o, b ∉ wr → b ≠ S → s.heap.get? b = some o → h'.get? b = some o) → R (.ok (.ret v)) { s with heap := h', toks := tk }) → codeAny (model prog w) A (.builtin "min.loop" ⟨[.ref I, .none, .ref S], kw⟩) R s := by
  have outW : S ∉ wr := fun z => out (W.sub _ z)
  have nm : (toString "min" ++ toString ".loop" : String) = "min.loop" := by decide
  intro k
  induction k with
  | zero =>
    intro j s vb c hk hj st hP hS q
    have last : j + 1 = n := by omega
    refine codeAny_builtin PySem.F.entry_min_loop ?_; rw [Around.under_plainId PySem.F.plain_min_loop _]
    show wpAny _ A.in1 (seqItems? (.ref S) >>= _) _ _ s; refine wpAny_bind (wpAny_seqItems hS rfl ?_)
    show wpAny _ A.in1 (tryCatch (pyNext (.ref I)) _ >>= _) _ _ s; refine wpAny_bind (wpAny_tryCatch (W.done s _ _ (last ▸ st) fun h' tk kk => ?_))
    have hS2 := kk S _ outW hS
    show wpAny _ A.in1 (updateSeq S (fun _ => #[]) >>= _) _ _ _; refine wpAny_bind (wpAny_updateSeq hS2 rfl (wpAny_bind (wpAny_letGo (wpAny_pure ?_))))
    exact q vb _ tk (by rw [← last]; exact hP) fun b o nb nS e => (Heap.get?_update_other _ _ (Ne.symm nS)).trans (kk b o nb e)
  | succ k ih =>
    intro j s vb c hk hj st hP hS q
    have more : j + 1 < n := by omega
    refine codeAny_builtin PySem.F.entry_min_loop ?_; rw [Around.under_plainId PySem.F.plain_min_loop _]
    show wpAny _ A.in1 (seqItems? (.ref S) >>= _) _ _ s; refine wpAny_bind (wpAny_seqItems hS rfl ?_)
    show wpAny _ A.in1 (tryCatch (pyNext (.ref I)) _ >>= _) _ _ s; refine wpAny_bind (wpAny_tryCatch (W.item (j + 1) s _ _ more st fun v h' tk hv st2 kk => ?_))
    have hS2 := kk S _ outW hS
    show wpAny _ A.in1 (tryCatch (holding [v, v] (richCompare .Lt v vb >>= _)) _ >>= _) _ _ _; refine wpAny_bind (wpAny_tryCatch (wpAny_holding (wpAny_bind (cm (j + 1) (argBest bt j) v vb _ _ _ hv hP ?_))))
    refine wpAny_bind (wpAny_holding (wpAny_truthy_bool (wpAny_bind (wpAny_letGo (wpAny_pure ?_)))))
    cases hb : bt (j + 1) (argBest bt j) with
    | true =>
      simp only [if_true]; refine wpAny_bind (wpAny_updateSeq hS2 rfl (wpAny_bind (wpAny_letGo ?_))); rw [nm]
      refine wpAny_pure ⟨plainId_quiet PySem.F.plain_min_loop _, ih (j + 1) _ v _ (by omega) more (W.frame _ _ _ st2 fun b nb o e => ?_) (by simp only [argBest, hb, if_true]; exact hv) (Heap.get?_update_self _ hS2 rfl) fun v3 h3 tk3 hv3 kk3 => ?_⟩
      · exact (Heap.get?_update_other _ _ (fun z : S = b => out (by rw [z]; exact nb))).trans e
      · exact q v3 h3 tk3 hv3 fun b o nb nS e => kk3 b o nb nS ((Heap.get?_update_other _ _ (Ne.symm nS)).trans (kk b o nb e))
    | false =>
      simp only [Bool.false_eq_true, if_false]; refine wpAny_bind (wpAny_letGo ?_); rw [nm]
      refine wpAny_pure ⟨plainId_quiet PySem.F.plain_min_loop _, ih (j + 1) _ vb c (by omega) more st2 (by simp only [argBest, hb, Bool.false_eq_true, if_false]; exact hP) hS2 fun v3 h3 tk3 hv3 kk3 => ?_⟩
      exact q v3 h3 tk3 hv3 fun b o nb nS e => kk3 b o nb nS (kk b o nb e)
theorem min_first (W : Walks prog w A.in1 I fp wr n Pi St) (bt : Nat → Nat → Bool) (cm : CmpOf prog w A.in1 .Lt Pi bt) (S : Addr) (out : S ∉ fp) (kw : List (Str × Value)) (hn : 0 < n) {s : Shared} {c : Nat} (st : St 0 s.heap)
    (hS : s.heap.get? S = some { cls := .type "list", dict := none, data := .seq #[] c, slots := #[] })
    (q : ∀ v h' tk, Pi (argBest bt (n - 1)) v → (∀ b o, b ∉ wr → b ≠ S → s.heap.get? b = some o → h'.get? b = some o) → R (.ok (.ret v)) { s with heap := h', toks := tk }) : codeAny (model prog w) A (.builtin "min.loop" ⟨[.ref I, .none, .ref S], kw⟩) R s := by
  have outW : S ∉ wr := fun z => out (W.sub _ z)
  have nm : (toString "min" ++ toString ".loop" : String) = "min.loop" := by decide
  refine codeAny_builtin PySem.F.entry_min_loop ?_; rw [Around.under_plainId PySem.F.plain_min_loop _]
  show wpAny _ A.in1 (seqItems? (.ref S) >>= _) _ _ s; refine wpAny_bind (wpAny_seqItems hS rfl ?_)
  show wpAny _ A.in1 (tryCatch (pyNext (.ref I)) _ >>= _) _ _ s; refine wpAny_bind (wpAny_tryCatch (W.item 0 s _ _ hn st fun v h' tk hv st2 kk => ?_))
  have hS2 := kk S _ outW hS
  show wpAny _ A.in1 (updateSeq S (fun _ => #[v, v]) >>= _) _ _ _; refine wpAny_bind (wpAny_updateSeq hS2 rfl ?_); rw [nm]
  refine wpAny_pure ⟨plainId_quiet PySem.F.plain_min_loop _, min_turns W bt cm S out kw _ 0 _ v _ rfl hn (W.frame _ _ _ st2 fun b nb o e => ?_) hv (Heap.get?_update_self _ hS2 rfl) fun v3 h3 tk3 hv3 kk3 => ?_⟩
  · exact (Heap.get?_update_other _ _ (fun z : S = b => out (by rw [z]; exact nb))).trans e
  · exact q v3 h3 tk3 hv3 fun b o nb nS e => kk3 b o nb nS ((Heap.get?_update_other _ _ (Ne.symm nS)).trans (kk b o nb e))
theorem min_empty (W : Walks prog w A.in1 I fp wr 0 Pi St) (S : Addr) (out : S ∉ fp) (d : Value) {s : Shared} {c : Nat} (st : St 0 s.heap)
    (hS : s.heap.get? S = some { cls := .type "list", dict := none, data := .seq #[] c, slots := #[] })
    (q : ∀ h' tk, (∀ b o, b ∉ wr → s.heap.get? b = some o → h'.get? b = some o) → R (.ok (.ret d)) { s with heap := h', toks := tk }) : codeAny (model prog w) A (.builtin "min.loop" ⟨[.ref I, .none, .ref S], [(Str.ofString "default", d)]⟩) R s := by
  refine codeAny_builtin PySem.F.entry_min_loop ?_; rw [Around.under_plainId PySem.F.plain_min_loop _]
  show wpAny _ A.in1 (seqItems? (.ref S) >>= _) _ _ s; refine wpAny_bind (wpAny_seqItems hS rfl ?_)
  show wpAny _ A.in1 (tryCatch (pyNext (.ref I)) _ >>= _) _ _ s; refine wpAny_bind (wpAny_tryCatch (W.done s _ _ st fun h' tk kk => ?_))
  refine wpAny_bind (wpAny_rule ?_)
  exact wpAny_pure (q h' tk kk)
end
section
variable {prog : Program} {w : World} {A : Around} {E : Value → Shared → Prop} {s : Shared} {l : Addr} {its : List Value} {ns : List Int} {Q : Value → Shared → Prop}
theorem min_args (a v : Value) : argsOk "min" ⟨[a], [(Str.ofString "default", v)]⟩ := by unfold argsOk; kernel_rfl
theorem min_dflt (d : Value) (hh : A.handled = none) (hl : s.heap.IsList l its.toArray) (hi : IntsAre its ns)
    (q0 : ns = [] → ∀ h' tk, (∀ b o, s.heap.get? b = some o → h'.get? b = some o) → Q d { s with heap := h', toks := tk })
    (q1 : ∀ h' tk M t', (∀ b o, s.heap.get? b = some o → h'.get? b = some o) → M ∈ ns → (∀ a, a ∈ ns → M ≤ a) → Q (.int M t') { s with heap := h', toks := tk }) : wpAny (model prog w) A (call (.builtin "min") [.ref l] [(Str.ofString "default", d)]) Q E s := by
  obtain ⟨xs, e⟩ := hi.allInts.items
  have hn : numsOf (intItems xs).toList = ns := by rw [← e]; exact hi.numsOf
  rw [nums_intItems] at hn
  subst hn
  rw [e] at hl
  have nm : (toString "min" ++ toString ".loop" : String) = "min.loop" := by decide
  refine kmk_tree PySem.F.kind_min PySem.F.plain_min PySem.F.entry_min (min_args _ _) ?_
  show wpAny _ A.in1 (Builtin.Builtins.bindParams "min" ["key", "default"] 0 ⟨[], [(Str.ofString "default", d)]⟩ >>= _) _ _ s
  refine wpAny_bind (wpAny_of_eq (show Builtin.Builtins.bindParams "min" ["key", "default"] 0 ⟨[], [(Str.ofString "default", d)]⟩ = pure [none, some d] from rfl) (wpAny_bind (wpAny_pure (wpAny_bind ?_))))
  refine iter_intList hl fun s₂ es st hfp hlI => ?_
  subst es
  refine wpAny_bind (wpAny_newObj_type ?_); rw [nm]
  have out : (s.heap.push { cls := .type "list_iterator", data := .fields #[.ref l, .int 0 0] }).objs.size ∉ [s.heap.objs.size, l] := fun z => Nat.lt_irrefl _ (hfp _ z)
  have W := Walks.list (prog := prog) (w := w) (A := A.in1) hh s.heap.objs.size l hlI (intItems xs)
  have hsz : (intItems xs).size = xs.size := by simp [intItems]
  rcases Nat.eq_zero_or_pos xs.size with z | z
  · have ez : (xs.toList.map (·.1)) = [] := by
      have : xs = #[] := Array.eq_empty_of_size_eq_zero z
      rw [this]; rfl
    rw [hsz, z] at W
    refine wpAny_pure ⟨plainId_quiet PySem.F.plain_min_loop _, min_empty W _ out d (W.frame _ _ _ st fun b _ o e => Heap.get?_push_of_some _ e) (Heap.get?_push_size _ rfl) fun h' tk kk => ?_⟩
    exact q0 ez h' tk (old_kept fun b o nb e => kk b o nb (Heap.get?_push_of_some _ e))
  · refine wpAny_pure ⟨plainId_quiet PySem.F.plain_min_loop _, min_first W _ (CmpOf.ints_lt (numAt xs) (fun _ _ => intItems_at)) _ out _ (by rw [hsz]; exact z) (W.frame _ _ _ st fun b _ o e => Heap.get?_push_of_some _ e) (Heap.get?_push_size _ rfl) fun v h' tk hv kk => ?_⟩
    rw [hsz] at hv
    obtain ⟨t, rfl⟩ := intItems_at hv
    obtain ⟨h1, h2⟩ := argBest_lt (numAt xs) (xs.size - 1)
    refine q1 h' tk _ t (old_kept fun b o nb e => kk b o nb (Nat.ne_of_lt (Heap.lt_size e)) (Heap.get?_push_of_some _ e)) ?_ fun a ha => ?_
    · rw [numAt_eq]; exact PySem.getD_mem (by rw [List.length_map, Array.length_toList]; omega)
    · obtain ⟨j, hj, rfl⟩ := mem_getD ha
      rw [List.length_map, Array.length_toList] at hj
      rw [← numAt_eq]; exact h2 j (by omega)
/-- min(xs, default=d): d of none -/
def rDmin (K : PySem.W.Frag) : List V → List V → Hp → VK → Prop := fun vs zs H Q => ∃ (a : Addr) (ns : List Int) (d : V), vs = [V.ref a] ∧ zs = [d] ∧ SqL K H a (ns.map V.int) ∧ (ns = [] → Q d H) ∧ ∀ M, M ∈ ns → (∀ a, a ∈ ns → M ≤ a) → Q (.int M) H
theorem call_Dmin {X : Cx} (hc : X.calm = true) : CallRK X (.builtin "min") ["default"] (rDmin X.K) := by
  intro pins s σ H xs zs us ws Q I r rz h
  obtain ⟨a, ns, d, rfl, rfl, hs, q0, q1⟩ := h
  obtain ⟨its, rv, hl, _⟩ := I.list hs
  obtain ⟨ud, rfl, rd⟩ := Vals.one rz
  rw [Vals.ref1 r]
  exact min_dflt ud (I.ok.hd hc) hl.isList rv.ints (fun e h' tk hk => ⟨d, H, I.kept hk, rd, q0 e⟩) fun h' tk M t' hk h1 h2 => ⟨.int _, H, I.kept hk, ⟨_, rfl⟩, q1 M h1 h2⟩
end
/-! ### a stable sort, as a plain function -/
section
open SrtO (Swo Srtd Stb)
variable {α β : Type} {lt : α → α → Bool}
def ins (lt : α → α → Bool) (x : α) : List α → List α
  | [] => [x]
  | y :: r => if lt x y = true then x :: y :: r else y :: ins lt x r
def iSort (lt : α → α → Bool) (l : List α) : List α := l.foldl (fun acc x => ins lt x acc) []
theorem ins_perm (x : α) : ∀ l : List α, (ins lt x l).Perm (x :: l)
  | [] => List.Perm.refl _
  | y :: r => by
    unfold ins
    split
    · exact List.Perm.refl _
    · exact ((ins_perm x r).cons y).trans (List.Perm.swap x y r)
theorem ins_srtd (O : Swo lt) (x : α) : ∀ l : List α, Srtd lt l → Srtd lt (ins lt x l)
  | [], _ => List.pairwise_singleton _ _
  | y :: r, h => by
    have hy := List.pairwise_cons.mp h
    unfold ins
    split
    · rename_i c
      refine List.pairwise_cons.mpr ⟨fun z hz => ?_, h⟩
      rcases List.mem_cons.mp hz with rfl | hz
      · exact O.asym _ _ c
      · exact O.tr x y z (O.asym _ _ c) (hy.1 z hz)
    · rename_i c
      refine List.pairwise_cons.mpr ⟨fun z hz => ?_, ins_srtd O x r hy.2⟩
      rcases List.mem_cons.mp ((ins_perm x r).mem_iff.mp hz) with rfl | hz
      · exact Bool.eq_false_iff.mpr c
      · exact hy.1 z hz
theorem filt_none {p : α → Bool} {l : List α} (h : ∀ x ∈ l, p x = false) : l.filter p = [] := List.filter_eq_nil_iff.mpr fun x hx z => by rw [h x hx] at z; cases z
/-- past what isn't above it, in a class of its own place -/
theorem ins_cls (O : Swo lt) (x z : α) : ∀ l : List α, Srtd lt l → (ins lt x l).filter (SrtO.eqv lt z) = l.filter (SrtO.eqv lt z) ++ [x].filter (SrtO.eqv lt z)
  | [], _ => rfl
  | y :: r, h => by
    have hy := List.pairwise_cons.mp h
    unfold ins
    split
    · rename_i c
      by_cases hx : SrtO.eqv lt z x = true
      · have e := SrtO.eqv_iff.mp hx
        have no : ∀ w ∈ y :: r, SrtO.eqv lt z w = false := fun w hw => by
          apply Bool.eq_false_iff.mpr
          intro q
          have q2 := SrtO.eqv_iff.mp q
          have xw : lt x w = true := by
            rcases List.mem_cons.mp hw with rfl | hw
            · exact c
            · exact O.ltle c (hy.1 w hw)
          have := O.tr w z x q2.1 e.2
          rw [xw] at this; cases this
        rw [List.filter_cons_of_pos hx, filt_none no, List.nil_append, List.filter_cons_of_pos hx]; rfl
      · rw [List.filter_cons_of_neg hx, List.filter_cons_of_neg (l := []) hx]
        simp
    · by_cases hyz : SrtO.eqv lt z y = true
      · rw [List.filter_cons_of_pos hyz, List.filter_cons_of_pos hyz, ins_cls O x z r hy.2]; rfl
      · rw [List.filter_cons_of_neg hyz, List.filter_cons_of_neg hyz, ins_cls O x z r hy.2]
theorem iSort_go (O : Swo lt) : ∀ (l acc : List α), Srtd lt acc → Srtd lt (l.foldl (fun acc x => ins lt x acc) acc) ∧ Stb lt (l.foldl (fun acc x => ins lt x acc) acc) (acc ++ l)
  | [], acc, h => ⟨h, Stb.of_eq (by rw [List.append_nil]; rfl)⟩
  | x :: l, acc, h => by
    obtain ⟨a, b⟩ := iSort_go O l (ins lt x acc) (ins_srtd O x acc h)
    refine ⟨a, b.trans ?_⟩
    have : Stb lt (ins lt x acc) (acc ++ [x]) := ⟨(ins_perm x acc).trans (List.perm_append_comm (l₁ := [x]) (l₂ := acc)), fun z => by rw [ins_cls O x z acc h, List.filter_append]⟩
    have e : acc ++ x :: l = (acc ++ [x]) ++ l := by rw [List.append_assoc]; rfl
    rw [e]
    exact this.app (Stb.refl l)
theorem iSort_ok (O : Swo lt) (l : List α) : Srtd lt (iSort lt l) ∧ Stb lt (iSort lt l) l := iSort_go O l [] List.Pairwise.nil
theorem srt_one (O : Swo lt) : ∀ (l m : List α), Srtd lt l → Srtd lt m → Stb lt l m → l = m
  | [], m, _, _, h => (List.perm_nil.mp h.perm.symm).symm
  | x :: l, [], _, _, h => absurd h.perm.length_eq (by simp)
  | x :: l, y :: m, hl, hm, h => by
    have hx := List.pairwise_cons.mp hl
    have hy := List.pairwise_cons.mp hm
    have yl : y ∈ x :: l := h.perm.mem_iff.mpr List.mem_cons_self
    have xm : x ∈ y :: m := h.perm.mem_iff.mp List.mem_cons_self
    have a : lt y x = false := by
      rcases List.mem_cons.mp yl with rfl | z
      · exact O.refl _
      · exact hx.1 y z
    have b : lt x y = false := by
      rcases List.mem_cons.mp xm with rfl | z
      · exact O.refl _
      · exact hy.1 x z
    have c := h.cls x
    rw [List.filter_cons_of_pos (SrtO.eqv_iff.mpr ⟨O.refl x, O.refl x⟩), List.filter_cons_of_pos (SrtO.eqv_iff.mpr ⟨b, a⟩)] at c
    have exy : x = y := (List.cons.inj c).1
    subst exy
    refine congrArg (x :: ·) (srt_one O l m hx.2 hy.2 ⟨List.Perm.cons_inv h.perm, fun z => ?_⟩)
    have d := h.cls z
    by_cases q : SrtO.eqv lt z x = true
    · rw [List.filter_cons_of_pos q, List.filter_cons_of_pos q] at d
      exact (List.cons.inj d).2
    · rw [List.filter_cons_of_neg q, List.filter_cons_of_neg q] at d
      exact d
theorem srt_iSort (O : Swo lt) {out l : List α} (a : Srtd lt out) (b : Stb lt out l) : out = iSort lt l := by
  obtain ⟨c, d⟩ := iSort_ok O l
  exact srt_one O _ _ a c (b.trans ⟨d.perm.symm, fun z => (d.cls z).symm⟩)
/-- lists side by side are sorted side by side -/
theorem ins_two {lt' : β → β → Bool} {R : α → β → Prop} (hR : ∀ a b a' b', R a b → R a' b' → lt a a' = lt' b b') {x : α} {y : β} (hx : R x y) : ∀ {l : List α} {m : List β}, Paired R l m → Paired R (ins lt x l) (ins lt' y m)
  | _, _, .nil => .cons hx .nil
  | _, _, .cons (a := a) (b := b) r t => by
    unfold ins
    rw [hR _ _ _ _ hx r]
    split
    · exact .cons hx (.cons r t)
    · exact .cons r (ins_two hR hx t)
theorem iSort_two {lt' : β → β → Bool} {R : α → β → Prop} (hR : ∀ a b a' b', R a b → R a' b' → lt a a' = lt' b b') {l : List α} {m : List β} (h : Paired R l m) : Paired R (iSort lt l) (iSort lt' m) := by
  have go : ∀ {l : List α} {m : List β}, Paired R l m → ∀ {acc : List α} {bcc : List β}, Paired R acc bcc → Paired R (l.foldl (fun acc x => ins lt x acc) acc) (m.foldl (fun acc x => ins lt' x acc) bcc) := by
    intro l m h
    induction h with
    | nil => exact fun h => h
    | cons r _ ih => exact fun h2 => ih (ins_two hR r h2)
  exact go h .nil
theorem ins_at (x : α) : ∀ (l : List α) (k : Nat), k ≤ l.length → (∀ j y, j < k → l[j]? = some y → lt x y = false) → (∀ y, l[k]? = some y → lt x y = true) → ins lt x l = l.take k ++ [x] ++ l.drop k
  | [], 0, _, _, _ => rfl
  | [], k + 1, h, _, _ => absurd h (by simp)
  | y :: r, 0, _, _, h => by
    unfold ins
    rw [if_pos (h y rfl)]; rfl
  | y :: r, k + 1, hk, h1, h2 => by
    unfold ins
    rw [if_neg (by rw [h1 0 y (Nat.succ_pos k) rfl]; decide), ins_at x r k (by simpa using hk) (fun j z hj e => h1 (j + 1) z (by omega) e) (fun z e => h2 z e)]
    rfl
theorem srtd_at (O : Swo lt) : ∀ {l : List α}, Srtd lt l → ∀ {i j : Nat} {x y : α}, i < j → l[i]? = some x → l[j]? = some y → lt y x = false
  | [], _, _, _, _, _, _, e, _ => by cases e
  | a :: r, h, 0, 0, _, _, hij, _, _ => absurd hij (by decide)
  | a :: r, h, 0, j + 1, x, y, _, e1, e2 => by
    cases e1
    exact (List.pairwise_cons.mp h).1 y (List.mem_of_getElem? e2)
  | a :: r, h, i + 1, 0, _, _, hij, _, _ => absurd hij (by omega)
  | a :: r, h, i + 1, j + 1, x, y, hij, e1, e2 => srtd_at O (List.pairwise_cons.mp h).2 (i := i) (j := j) (by omega) e1 e2
theorem iSort_succ {l : List α} {i : Nat} {x : α} (h : l[i]? = some x) : iSort lt (l.take (i + 1)) = ins lt x (iSort lt (l.take i)) := by
  unfold iSort
  rw [List.take_succ, h, List.foldl_append]; rfl
theorem ins_len (x : α) (l : List α) : (ins lt x l).length = l.length + 1 := by rw [(ins_perm x l).length_eq]; rfl
theorem iSort_len (l : List α) : (iSort lt l).length = l.length := by
  have go : ∀ (l acc : List α), (l.foldl (fun acc x => ins lt x acc) acc).length = acc.length + l.length := by
    intro l
    induction l with
    | nil => intro acc; rfl
    | cons x r ih => intro acc; rw [List.foldl_cons, ih, ins_len, List.length_cons]; omega
  have := go l []
  unfold iSort
  simpa using this
theorem iSort_mem {x : α} : ∀ {l : List α}, x ∈ iSort lt l ↔ x ∈ l := by
  have go : ∀ (l acc : List α), x ∈ l.foldl (fun acc x => ins lt x acc) acc ↔ x ∈ acc ∨ x ∈ l := by
    intro l
    induction l with
    | nil => intro acc; simp
    | cons y r ih =>
      intro acc
      rw [List.foldl_cons, ih, (ins_perm y acc).mem_iff, List.mem_cons, List.mem_cons]
      constructor
      · rintro ((h | h) | h)
        · exact .inr (.inl h)
        · exact .inl h
        · exact .inr (.inr h)
      · rintro (h | h | h)
        · exact .inl (.inr h)
        · exact .inl (.inl h)
        · exact .inr h
  intro l
  have := go l []
  unfold iSort
  rw [this]; simp
end
/-! ### sorted(xs, key=f), f any callable -/
set_option maxHeartbeats 8000000
section
open SrtO (Swo Srtd Stb lt2 swo2 SortableO)
open PySem.Builtin
/-- from s to s', as behind a call: what stood at s stands, but what is tracked -/
structure Gone (X : Cx) (H : Hp) (s : Shared) (H' : Hp) (s' : Shared) : Prop where
  os : s'.os = s.os
  bare : AllBare s'.gens
  un : Un (frs X.stack) [] H H' s.heap s'.heap
  hok : HOk X.prog X.w H' s'.heap
variable {X : Cx} {pins : List (Addr × Obj)} {σ : L2.St} {H H1 H2 : Hp} {s s1 s2 : Shared}
theorem Gone.refl (I : Inv X pins σ H s) : Gone X H s H s := ⟨rfl, I.bare, Un.refl, I.hok⟩
theorem Gone.inv (I : Inv X pins σ H s) (g : Gone X H s H1 s1) : Inv X pins σ H1 s1 := I.call' g.os g.un g.hok g.bare fun b z => absurd z (by simp)
theorem Gone.on (g : Gone X H s H1 s1) (g2 : Gone X H1 s1 H2 s2) : Gone X H s H2 s2 := ⟨g2.os.trans g.os, g2.bare, g.un.trans g2.un, g2.hok⟩
theorem un_poke {fs ex : List Addr} {h h1 h2 : Heap} {a : Addr} (u : Un fs ex H H1 h h1) (na : h.objs.size ≤ a) (k : ∀ b o, b ≠ a → h1.get? b = some o → h2.get? b = some o) : Un fs ex H H1 h h2 := by
  have ne : ∀ {b : Addr} {o : Obj}, h.get? b = some o → b ≠ a := fun e => Nat.ne_of_lt (Nat.lt_of_lt_of_le (Heap.lt_size e) na)
  exact ⟨fun b o e n f x => k b o (ne e) (u.keep b o e n f x), fun b o e n f x => let ⟨sl, z⟩ := u.slot b o e n f x; ⟨sl, k b _ (ne e) z⟩, u.free, fun b o e x => let ⟨o', z⟩ := u.there b o e x; ⟨o', k b _ (ne e) z⟩, u.tups, u.frzs, u.tbls⟩
theorem hok_poke {P : Program} {w : World} {h1 h2 : Heap} {a : Addr} (x : HOk P w H h1) (n : H a = none) (k : ∀ b o, b ≠ a → h1.get? b = some o → h2.get? b = some o) : HOk P w H h2 := fun b o e =>
  (x b o e).stay (fun c v hc q => k c v (fun z => by
    subst z
    rcases hc with rfl | hc
    · rw [n] at e; cases e
    · rw [n] at hc; cases hc) q) (fun _ q => q) fun _ _ q => q
theorem Gone.poke {a : Addr} {h2 : Heap} {t : Nat} (g : Gone X H s H1 s1) (na : s.heap.objs.size ≤ a) (n : H1 a = none) (k : ∀ b o, b ≠ a → s1.heap.get? b = some o → h2.get? b = some o) : Gone X H s H1 { s1 with heap := h2, toks := t } :=
  ⟨g.os, g.bare, un_poke g.un na k, hok_poke g.hok n k⟩
theorem Gone.kept {h2 : Heap} {t : Nat} (g : Gone X H s H1 s1) (k : ∀ b o, s1.heap.get? b = some o → h2.get? b = some o) : Gone X H s H1 { s1 with heap := h2, toks := t } :=
  ⟨g.os, g.bare, g.un.trans (Un.kept k), g.hok.kept k⟩
theorem nostk (I : Inv X pins σ H s) {a : Addr} (na : s.heap.objs.size ≤ a) : a ∉ frs X.stack := fun z => by
  rcases List.mem_cons.mp (I.stkSub a z) with e | e
  · exact absurd I.lt (by rw [← e]; exact Nat.not_lt.mpr na)
  · exact I.nofs na e
/-- a call of the key, and what stands apart from it -/
def Keyed1 (X : Cx) (A : Around) (q : Value) (v : Value) (H1 : Hp) (s1 : Shared) (R : Hp → Value → Prop) : Prop :=
  wpAny (model X.prog X.w) A (call q [v]) (fun u s2 => ∃ H2, Gone X H1 s1 H2 s2 ∧ R H2 u) (fun _ _ => False) s1
section
variable {a kS : Addr} {q : Value} {vs : List Value} {A : Around} {Pq : PySem.Fin → Shared → Prop} {E : Value → Shared → Prop} {R : Nat → Hp → List Value → Prop} {ltv : Value → Value → Bool}
theorem sk_tail {st : SortSt} {keys : List Value} {e e1 : Nat} (I : Inv X pins σ H s) (g : Gone X H s H1 s1) (na : s.heap.objs.size ≤ a) (nk : s.heap.objs.size ≤ kS) (n1 : H1 a = none) (n2 : H1 kS = none) (nak : kS ≠ a)
    (ea : s1.heap.get? a = some (seqObj "list" #[] e1)) (ek : s1.heap.get? kS = some (seqObj "list" keys.toArray e)) (hz : keys.length ≤ sizeLine) (ho : (arrOf st).size ≤ sizeLine) (hf : failedOf st = none)
    (fin : ∀ s2, Gone X H s H1 s2 → (∃ c, s2.heap.get? a = some (seqObj "list" ((arrOf st).toList.map (·.2)).toArray c)) → Pq (.done (.ret .none)) s2) : wpAny (model X.prog X.w) A (ksk_tail a false e1 (.ref kS) st) Pq E s1 := by
  have b1 := Heap.SameBut.update s1.heap kS (Obj.mapSeq fun _ => (#[] : Array Value))
  have a1 : (s1.heap.update kS (Obj.mapSeq fun _ => (#[] : Array Value))).get? a = some (seqObj "list" #[] e1) := (b1.2 a nak.symm).trans ea
  have b2 := Heap.SameBut.update (s1.heap.update kS (Obj.mapSeq fun _ => (#[] : Array Value))) a (Obj.mapSeq fun _ => (arrOf st).map (·.2))
  have g1 := g.poke (t := s1.toks) (h2 := s1.heap.update kS (Obj.mapSeq fun _ => (#[] : Array Value))) nk n2 fun b o nb z => (b1.2 b nb).trans z
  have g2 := g1.poke (t := s1.toks) (h2 := (s1.heap.update kS (Obj.mapSeq fun _ => (#[] : Array Value))).update a (Obj.mapSeq fun _ => (arrOf st).map (·.2))) na n1 fun b o nb z => (b2.2 b nb).trans z
  unfold ksk_tail
  try dsimp only
  refine wpAny_bind (listUpdate_at ek rfl ?_ (by rw [List.size_toArray]; exact hz) (Nat.zero_le _)); refine wpAny_bind (wpAny_letGo ?_); refine wpAny_bind (seqEpoch_at a1 rfl ?_)
  refine wpAny_bind (listUpdate_at a1 rfl ?_ (Nat.zero_le _) (Nat.le_succ_of_le (by rw [if_neg (by decide), Array.size_map]; exact ho)))
  rw [hf]; simp only [bne_self_eq_false, Bool.false_eq_true, if_false]
  obtain ⟨c2, e3⟩ : ∃ c, ((s1.heap.update kS (Obj.mapSeq fun _ => (#[] : Array Value))).update a (Obj.mapSeq fun _ => (arrOf st).map (·.2))).get? a = some (seqObj "list" ((arrOf st).map (·.2)) c) := ⟨_, get?_update_seq a1 fun _ => (arrOf st).map (·.2)⟩
  have e4 : (arrOf st).map (·.2) = ((arrOf st).toList.map (·.2)).toArray := by rw [← Array.toList_map, Array.toArray_toList]
  exact wpAny_pure (fin _ g2 ⟨c2, e3.trans (by rw [e4])⟩)
theorem sk_end {keys : List Value} {e e1 : Nat} (O : Swo ltv) (I : Inv X pins σ H s) (g : Gone X H s H1 s1) (na : s.heap.objs.size ≤ a) (nk : s.heap.objs.size ≤ kS) (n1 : H1 a = none) (n2 : H1 kS = none) (nak : kS ≠ a)
    (ea : s1.heap.get? a = some (seqObj "list" #[] e1)) (ek : s1.heap.get? kS = some (seqObj "list" keys.toArray e)) (hl : keys.length = vs.length) (hz : vs.length ≤ sizeLine) (hS : 2 ≤ keys.length → SortableO X.prog X.w A s1 a keys ltv)
    (fin : ∀ s2 (out : List Keyed), Srtd (lt2 ltv) out → Stb (lt2 ltv) out (keys.zip vs) → Gone X H s H1 s2 → (∃ c, s2.heap.get? a = some (seqObj "list" (out.map (·.2)).toArray c)) → Pq (.done (.ret .none)) s2) : wpAny (model X.prog X.w) A (ksk_end a false vs.toArray e1 (.ref kS) keys.toArray) Pq E s1 := by
  have zl : (keys.toArray.zip vs.toArray).toList = keys.zip vs := by simp [Array.toList_zip]
  have zs : (keys.toArray.zip vs.toArray).size = vs.length := by rw [Array.size_zip, List.size_toArray, List.size_toArray]; omega
  unfold ksk_end
  try dsimp only
  rw [if_neg (by decide)]
  have hsz : vs.toArray.size = vs.length := List.size_toArray ..
  by_cases h2 : vs.toArray.size < 2
  · rw [if_pos h2, if_pos h2]
    refine wpAny_bind (wpAny_pure ?_); rw [StateT.run_pure]; refine wpAny_bind (wpAny_pure ?_)
    try dsimp only
    have ez : arrOf (SortSt.mk' general' (keys.toArray.zip vs.toArray) #[] 7 none) = keys.toArray.zip vs.toArray := rfl
    refine sk_tail (st := SortSt.mk' general' (keys.toArray.zip vs.toArray) #[] 7 none) I g na nk n1 n2 nak ea ek (by omega) (by rw [ez, zs]; exact hz) rfl fun s2 g2 e2 => fin s2 (keys.zip vs) ?_ (Stb.refl _) g2 (by rw [ez, zl] at e2; exact e2)
    rw [hsz] at h2
    match hk : keys.zip vs with
    | [] => exact List.Pairwise.nil
    | [x] => exact List.pairwise_singleton _ _
    | x :: y :: r =>
      have := congrArg List.length hk
      rw [List.length_zip, hl, Nat.min_self, List.length_cons, List.length_cons] at this
      omega
  · rw [if_neg h2, if_neg h2]
    rw [hsz] at h2
    obtain ⟨κ, hk, hT⟩ := hS (by omega) s1.heap fun _ _ _ z => z
    refine wpAny_bind (hk _ _ ?_)
    have all : SrtO.AllL (fun p : Keyed => p.1 ∈ keys) (keys.toArray.zip vs.toArray).toList := fun p hm => by
      rw [zl] at hm
      exact (List.of_mem_zip hm).1
    refine wpAny_bind (wpAny_mono (SrtO.wpS_sortO (st0 := SortSt.mk' κ (keys.toArray.zip vs.toArray) #[] 7 none) (Q := fun _ st' => Srtd (lt2 ltv) (arrOf st').toList ∧ Stb (lt2 ltv) (arrOf st').toList (keys.toArray.zip vs.toArray).toList ∧ failedOf st' = none) (swo2 O) hT rfl all rfl rfl fun st' a1 a2 a3 => ⟨a1, a2, a3⟩) ?_ fun _ _ z => z)
    rintro ⟨⟨⟩, st'⟩ s' ⟨rfl, p1, p2, p3⟩
    try dsimp only
    rw [zl] at p2
    have hlen : (arrOf st').size = vs.length := by
      have := p2.len
      rw [Array.length_toList, List.length_zip, hl, Nat.min_self] at this; exact this
    exact sk_tail I g na nk n1 n2 nak ea ek (by omega) (by rw [hlen]; exact hz) p3 fun s2 g2 e2 => fin s2 _ p1 p2 g2 e2
/-- the keys are asked one by one, then the pairs are sorted -/
theorem sk_rest {e1 : Nat} {Z : (Value → Value → Bool) → List Value → Hp → Prop} (I : Inv X pins σ H s) (g : Gone X H s H1 s1) (na : s.heap.objs.size ≤ a) (nk : s.heap.objs.size ≤ kS) (n1 : H1 a = none) (n2 : H1 kS = none) (nak : kS ≠ a)
    (ea : s1.heap.get? a = some (seqObj "list" #[] e1)) (ek : s1.heap.get? kS = some (seqObj "list" #[] 0)) (hz : vs.length ≤ sizeLine) (R0 : R 0 H1 [])
    (turn : ∀ (j : Nat) (v : Value) (H2 : Hp) (s2 : Shared) (us : List Value), vs[j]? = some v → R j H2 us → Gone X H s H2 s2 → Keyed1 X A q v H2 s2 fun H3 u => R (j + 1) H3 (us ++ [u]))
    (hS : ∀ (H2 : Hp) (s2 : Shared) (us : List Value), R vs.length H2 us → Gone X H s H2 s2 → us.length = vs.length → H2 a = none → (∃ e, s2.heap.get? a = some (seqObj "list" #[] e)) → ∃ ltv, Swo ltv ∧ (2 ≤ us.length → SortableO X.prog X.w A s2 a us ltv) ∧ Z ltv us H2)
    (fin : ∀ (H2 : Hp) (s2 : Shared) (us : List Value) (out : List Keyed) (ltv : Value → Value → Bool), Z ltv us H2 → Swo ltv → R vs.length H2 us → us.length = vs.length → Srtd (lt2 ltv) out → Stb (lt2 ltv) out (us.zip vs) → Gone X H s H2 s2 → H2 a = none → (∃ c, s2.heap.get? a = some (seqObj "list" (out.map (·.2)).toArray c)) → Pq (.done (.ret .none)) s2) :
    wpAny (model X.prog X.w) A (ksk_rest a q false vs.toArray e1 (.ref kS)) Pq E s1 := by
  have na' := nostk I na
  have nk' := nostk I nk
  unfold ksk_rest
  refine wpAny_bind (wpAny_rule ?_)
  rw [List.forIn_toArray]
  refine wpAny_bind (ksk_fold (fun i s2 => ∃ (H2 : Hp) (us : List Value) (e : Nat), Gone X H s H2 s2 ∧ H2 a = none ∧ H2 kS = none ∧ s2.heap.get? a = some (seqObj "list" #[] e1) ∧ s2.heap.get? kS = some (seqObj "list" us.toArray e) ∧ us.length = i ∧ R i H2 us) vs 0 s1 ⟨H1, [], 0, g, n1, n2, ea, ek, rfl, R0⟩ ?step ?done)
  case step =>
    rintro j x s2 hx ⟨H2, us, e, g2, m1, m2, ea2, ek2, hl, hR⟩
    simp only [Nat.zero_add] at hl hR ⊢
    have hj : j < vs.length := (List.getElem?_eq_some_iff.mp hx).1
    refine wpAny_bind (wpAny_attempt (wpAny_mono (turn j x H2 s2 us hx hR g2) (fun u s3 he => ?_) fun _ _ z => z.elim))
    obtain ⟨H3, g23, hR3⟩ := he
    have g3 := g2.on g23
    have m3 := g23.un.free a _ ea2 m1 (by simp)
    have m4 := g23.un.free kS _ ek2 m2 (by simp)
    have ea3 := g23.un.keep a _ ea2 m1 na' (by simp)
    have ek3 := g23.un.keep kS _ ek2 m2 nk' (by simp)
    try dsimp only
    have b1 := Heap.SameBut.update s3.heap kS (Obj.mapSeq (·.push u))
    have g4 := g3.poke (t := s3.toks) (h2 := s3.heap.update kS (Obj.mapSeq (·.push u))) nk m4 fun b o nb z => (b1.2 b nb).trans z
    refine wpAny_bind (listUpdate_at ek3 rfl ?_ (by rw [List.size_toArray]; omega) (by rw [Array.size_push, List.size_toArray]; omega))
    obtain ⟨c5, e5⟩ : ∃ c, (s3.heap.update kS (Obj.mapSeq (·.push u))).get? kS = some (seqObj "list" (us.toArray.push u) c) := ⟨_, get?_update_seq ek3 (·.push u)⟩
    rw [List.push_toArray] at e5
    exact wpAny_pure ⟨rfl, H3, us ++ [u], c5, g4, m3, m4, (b1.2 a nak.symm).trans ea3, e5, by rw [List.length_append, hl]; rfl, hR3⟩
  case done =>
    rintro s2 ⟨H2, us, e, g2, m1, m2, ea2, ek2, hl, hR⟩
    rw [Nat.zero_add] at hl hR
    try dsimp only
    refine wpAny_bind (listItems_at ek2 rfl ?_)
    obtain ⟨ltv, O, hS2, hZ⟩ := hS H2 s2 us hR g2 hl m1 ⟨_, ea2⟩
    exact sk_end O I g2 na nk m1 m2 nak ea2 ek2 hl hz hS2 fun s3 out p1 p2 g3 e3 => fin H2 s3 us out ltv hZ O hR hl p1 p2 g3 m1 e3
/-- sorted(l, key=q) -/
theorem sk_sorted {l q : Addr} {Qq : Value → Shared → Prop} {Z : (Value → Value → Bool) → List Value → Hp → Prop} (I : Inv X pins σ H s) (hl : s.heap.IsList l vs.toArray) (hz : vs.length ≤ sizeLine) (R0 : R 0 H [])
    (turn : ∀ (j : Nat) (v : Value) (H2 : Hp) (s2 : Shared) (us : List Value), vs[j]? = some v → R j H2 us → Gone X H s H2 s2 → Keyed1 X X.A.in1.in1 (.ref q) v H2 s2 fun H3 u => R (j + 1) H3 (us ++ [u]))
    (hS : ∀ (H2 : Hp) (s2 : Shared) (a : Addr) (us : List Value), R vs.length H2 us → Gone X H s H2 s2 → us.length = vs.length → H2 a = none → (∃ e, s2.heap.get? a = some (seqObj "list" #[] e)) → ∃ ltv, Swo ltv ∧ (2 ≤ us.length → SortableO X.prog X.w X.A.in1.in1 s2 a us ltv) ∧ Z ltv us H2)
    (fin : ∀ (a : Addr) (H2 : Hp) (s2 : Shared) (us : List Value) (out : List Keyed) (ltv : Value → Value → Bool), Z ltv us H2 → Swo ltv → s.heap.objs.size ≤ a → R vs.length H2 us → us.length = vs.length → Srtd (lt2 ltv) out → Stb (lt2 ltv) out (us.zip vs) → Gone X H s H2 s2 → H2 a = none → (∃ c, s2.heap.get? a = some (seqObj "list" (out.map (·.2)).toArray c)) → Qq (.ref a) s2) :
    wpAny (model X.prog X.w) X.A (call (.builtin "sorted") [.ref l] [(Str.ofString "key", .ref q)]) Qq E s := by
  refine call_function_entry_kw kind_sorted plain_sorted entry_sorted (by unfold argsOk; kernel_rfl) ?_
  unfold Builtin.«sorted»
  refine wpAny_bind (m := checkCount "sorted" 1 1 _) (wpAny_pure (wpAny_bind (collect_list hl (wpAny_bind (wpAny_newList ?_ hz)) hz)))
  have sz : ((s.heap.push (seqObj "list" #[] 0)).update s.heap.objs.size (Obj.mapSeq (· ++ vs.toArray))).objs.size = s.heap.objs.size + 1 := by rw [Heap.size_update, size_push']
  generalize hh : (s.heap.push (seqObj "list" #[] 0)).update s.heap.objs.size (Obj.mapSeq (· ++ vs.toArray)) = hp at sz
  have k0 : ∀ b o, s.heap.get? b = some o → hp.get? b = some o := fun b o e => by
    have lt : b < s.heap.objs.size := Heap.lt_size e
    rw [← hh, Heap.get?_update_ne _ _ _ _ (Nat.ne_of_lt lt), Heap.get?_push_ne _ _ _ (Nat.ne_of_lt lt)]; exact e
  show wpAny _ _ _ _ _ { s with heap := hp.push (seqObj "list" vs.toArray 0) }
  rw [sz]
  have oA : (hp.push (seqObj "list" vs.toArray 0)).get? (s.heap.objs.size + 1) = some (seqObj "list" vs.toArray 0) := by rw [← sz]; exact Heap.get?_push_size _ rfl
  refine wpAny_bind (wpAny_holding (wpAny_call_entry_kw slot_list_sort ⟨_, oA, rfl⟩ entry_list_sort ?_ (ksk_l1 _ _)))
  rw [ksk_t1]
  have ba := Heap.SameBut.update (hp.push (seqObj "list" vs.toArray 0)) (s.heap.objs.size + 1) (Obj.mapSeq fun _ => (#[] : Array Value))
  obtain ⟨e1, oA1⟩ : ∃ e1, ((hp.push (seqObj "list" vs.toArray 0)).update (s.heap.objs.size + 1) (Obj.mapSeq fun _ => (#[] : Array Value))).get? (s.heap.objs.size + 1) = some (seqObj "list" #[] e1) := ⟨_, get?_update_seq oA fun _ => #[]⟩
  have sz2 : ((hp.push (seqObj "list" vs.toArray 0)).update (s.heap.objs.size + 1) (Obj.mapSeq fun _ => (#[] : Array Value))).objs.size = s.heap.objs.size + 2 := by rw [Heap.size_update, size_push', sz]
  have k1 : ∀ b o, s.heap.get? b = some o → ((hp.push (seqObj "list" vs.toArray 0)).update (s.heap.objs.size + 1) (Obj.mapSeq fun _ => (#[] : Array Value))).get? b = some o := fun b o e =>
    (ba.2 b (Nat.ne_of_lt (Nat.lt_succ_of_lt (Heap.lt_size e)))).trans (Heap.get?_push_of_some _ (k0 b o e))
  let hq := (hp.push (seqObj "list" vs.toArray 0)).update (s.heap.objs.size + 1) (Obj.mapSeq fun _ => (#[] : Array Value))
  have k2 : ∀ b o, s.heap.get? b = some o → ((hq.push (seqObj "tuple" vs.toArray 0)).push (seqObj "list" #[] 0)).get? b = some o := fun b o e => Heap.get?_push_of_some _ (Heap.get?_push_of_some _ (k1 b o e))
  have sz3 : (hq.push (seqObj "tuple" vs.toArray 0)).objs.size = s.heap.objs.size + 3 := by rw [size_push', sz2]
  have g0 : Gone X H s H { s with heap := (hq.push (seqObj "tuple" vs.toArray 0)).push (seqObj "list" #[] 0) } := (Gone.refl I).kept (t := s.toks) k2
  have eA : ((hq.push (seqObj "tuple" vs.toArray 0)).push (seqObj "list" #[] 0)).get? (s.heap.objs.size + 1) = some (seqObj "list" #[] e1) := Heap.get?_push_of_some _ (Heap.get?_push_of_some _ oA1)
  have eK : ((hq.push (seqObj "tuple" vs.toArray 0)).push (seqObj "list" #[] 0)).get? (s.heap.objs.size + 3) = some (seqObj "list" #[] 0) := by rw [← sz3]; exact Heap.get?_push_size _ rfl
  unfold ksk_tree
  refine wpAny_bind (listItems_at oA rfl (wpAny_bind (listUpdate_at oA rfl ?_ (by rw [List.size_toArray]; exact hz) (Nat.zero_le _))))
  refine wpAny_bind (seqEpoch_at oA1 rfl (wpAny_bind (wpAny_newTuple (wpAny_bind (wpAny_newList (wpAny_holding ?_) (Nat.zero_le _))) hz)))
  show wpAny _ _ (ksk_rest (s.heap.objs.size + 1) (.ref q) false vs.toArray e1 (.ref (hq.push (seqObj "tuple" vs.toArray 0)).objs.size)) _ _ { s with heap := (hq.push (seqObj "tuple" vs.toArray 0)).push (seqObj "list" #[] 0) }
  rw [sz3]
  refine sk_rest (Z := Z) I g0 (Nat.le_succ _) (Nat.le_add_right _ 3) (I.hok.fresh (Nat.le_succ _)) (I.hok.fresh (Nat.le_add_right _ 3)) (show s.heap.objs.size + 3 ≠ s.heap.objs.size + 1 by omega) eA eK hz R0 turn (fun H2 s2 us r g l1 n z => hS H2 s2 _ us r g l1 n z) fun H2 s2 us out ltv z o r l1 p1 p2 g n e => ⟨_, rfl, ?_⟩
  exact wpAny_pure ⟨_, rfl, fin _ H2 s2 us out ltv z o (Nat.le_succ _) r l1 p1 p2 g n e⟩
end
end
/-! ### sorted(xs, key=f) over the layer -/
section
open SrtO (Swo Srtd Stb lt2 swo2 SortableO)
variable {X : Cx} {pins : List (Addr × Obj)} {σ : L2.St} {H HJ : Hp} {s sJ : Shared}
/-- what has been made meanwhile is told to the ledger -/
theorem inv_track {a : Addr} {o : HO} (J : Inv X pins σ HJ sJ) (ge : sJ.heap.objs.size ≤ a) (I : Inv X pins σ H s) (na : H a = none) (ok : ObjOk X.prog X.w (upd H a o) s.heap a o) : Inv X pins σ (upd H a o) s := by
  have ne : ∀ {b : Addr} {o : Obj}, sJ.heap.get? b = some o → b ≠ a := fun e => Nat.ne_of_lt (Nat.lt_of_lt_of_le (Heap.lt_size e) ge)
  have n0 : ∀ {b : Addr} {o : Obj}, X.s_0.heap.get? b = some o → b ≠ a := fun e => Nat.ne_of_lt (Nat.lt_of_lt_of_le (Heap.lt_size e) (Nat.le_trans J.sz ge))
  have bs : Un X.fs X.ex X.H_0 (upd H a o) X.s_0.heap s.heap := {
    keep := I.base.keep
    slot := I.base.slot
    there := I.base.there
    free := fun b o e n q => by rw [upd_ne (n0 e)]; exact I.base.free b o e n q
    tups := fun b xs e => by
      have z := I.base.tups b xs e
      rw [upd_ne (ne_of_none z na)]; exact z
    frzs := fun b o u e => by
      have z := I.base.frzs b o u e
      rw [upd_ne (ne_of_none z na)]; exact z
    tbls := fun b ps e => by
      obtain ⟨m, z⟩ := I.base.tbls b ps e
      exact ⟨m, by rw [upd_ne (ne_of_none z na)]; exact z⟩ }
  have fr : X.env.locals ≠ a := by
    obtain ⟨m, ⟨o, es, ep, ho, _⟩, _⟩ := J.loc
    exact ne ho
  refine ⟨I.ok, I.os, I.bare, bs, I.loc, I.cell, by rw [upd_ne fr]; exact I.free, fun x c e => ?_, fun p hp => ?_, fun b o e => ?_, I.len⟩
  · obtain ⟨v, o, ho, _⟩ := J.cell x c e
    rw [upd_ne (ne ho)]; exact I.freeC x c e
  · obtain ⟨e, n, r⟩ := I.pin p hp
    exact ⟨e, by rw [upd_ne (ne (J.pin p hp).1)]; exact n, r⟩
  · by_cases hb : b = a
    · subst hb
      rw [upd_same] at e; cases e; exact ok
    · rw [upd_ne hb] at e
      exact (I.hok b o e).stay (fun c v _ q => q) (fun c q => by rw [upd_ne (ne_of_none q na)]; exact q) fun c xs q => by rw [upd_ne (ne_of_none q na)]; exact q
/-- keys: how they stand in the heap, and their order -/
structure KeyOk (X : Cx) {α : Type} (KR : Hp → V → α → Prop) (lt : α → α → Bool) : Prop where
  keep : ∀ {H H' : Hp} {v : V} {k : α}, KR H v k → Same H H' → KR H' v k
  sort : ∀ {pins : List (Addr × Obj)} {σ : L2.St} {H : Hp} {s : Shared} {A : Around} {b : Addr} {ys : List V} {us : List Value} {ks : List α}, Inv X pins σ H s → H b = none → (∃ e, s.heap.get? b = some (seqObj "list" #[] e)) → Paired (KR H) ys ks → Vals ys us →
    ∃ ltv, Swo ltv ∧ (2 ≤ us.length → SortableO X.prog X.w A s b us ltv) ∧ ∀ p ∈ us.zip ks, ∀ q ∈ us.zip ks, ltv p.1 q.1 = lt p.2 q.2
theorem paired_mono {α β : Type} {F G : α → β → Prop} (f : ∀ a b, F a b → G a b) : ∀ {l : List α} {m : List β}, Paired F l m → Paired G l m
  | _, _, .nil => .nil
  | _, _, .cons r t => .cons (f _ _ r) (paired_mono f t)
theorem paired_snoc {α β : Type} {F : α → β → Prop} {x : α} {y : β} (r : F x y) : ∀ {l : List α} {m : List β}, Paired F l m → Paired F (l ++ [x]) (m ++ [y])
  | _, _, .nil => .cons r .nil
  | _, _, .cons q t => .cons q (paired_snoc r t)
theorem paired_zip {α : Type} {xs : List V} {vs us : List Value} {ks : List α} (r : Vals xs vs) (l1 : us.length = vs.length) (l2 : ks.length = xs.length) : Paired (fun (p : Value × Value) (q : α × V) => (p.1, q.1) ∈ us.zip ks ∧ RelV q.2 p.2) (us.zip vs) (ks.zip xs) := by
  have go : ∀ (us0 : List Value) (ks0 : List α) (us : List Value) (ks : List α) (vs : List Value) (xs : List V), Vals xs vs → us.length = vs.length → ks.length = xs.length → (∀ p ∈ us.zip ks, p ∈ us0.zip ks0) → Paired (fun (p : Value × Value) (q : α × V) => (p.1, q.1) ∈ us0.zip ks0 ∧ RelV q.2 p.2) (us.zip vs) (ks.zip xs) := by
    intro us0 ks0 us
    induction us with
    | nil =>
      intro ks vs xs r l1 l2 _
      cases r with
      | nil => rw [List.zip_nil_right, List.zip_nil_right]; exact .nil
      | cons _ _ => cases l1
    | cons u us ih =>
      intro ks vs xs r l1 l2 hm
      cases r with
      | nil => cases l1
      | cons r1 r2 =>
        cases ks with
        | nil => cases l2
        | cons k ks => exact .cons ⟨hm _ List.mem_cons_self, r1⟩ (ih ks _ _ r2 (by simpa using l1) (by simpa using l2) fun p hp => hm p (List.mem_cons_of_mem _ hp))
  exact go us ks us ks vs xs r l1 l2 fun _ h => h
theorem vals_snd {α : Type} {P : Value × Value → α × V → Prop} : ∀ {l : List (Value × Value)} {m : List (α × V)}, Paired (fun p q => P p q ∧ RelV q.2 p.2) l m → Vals (m.map (·.2)) (l.map (·.2))
  | _, _, .nil => .nil
  | _, _, .cons r t => .cons r.2 (vals_snd t)
/-- the list by the keys ks -/
def byKeys {α : Type} (lt : α → α → Bool) (ks : List α) (xs : List V) : List V := (iSort (fun a b : α × V => lt a.1 b.1) (ks.zip xs)).map (·.2)
theorem key_sorted {α : Type} {KR : Hp → V → α → Prop} {lt : α → α → Bool} (KO : KeyOk X KR lt) {l q : Addr} {xs : List V} {ks : List α} {Q : VK} {E : Value → Shared → Prop} (I : Inv X pins σ H s) (hs : SqL X.K H l xs) (hk : ks.length = xs.length)
    (turn : ∀ (j : Nat) (x : V) (k : α) (H2 : Hp) (s2 : Shared) (u : Value), xs[j]? = some x → ks[j]? = some k → Gone X H s H2 s2 → Same H H2 → RelV x u →
      wpAny (model X.prog X.w) X.A.in1.in1 (call (.ref q) [u]) (fun r s3 => ∃ H3, Gone X H2 s2 H3 s3 ∧ Same H2 H3 ∧ ∃ y, RelV y r ∧ KR H3 y k) (fun _ _ => False) s2)
    (fin : ∀ H2 p, Same H H2 → H2 p = none → Q (.ref p) (upd H2 p (.lst (byKeys lt ks xs)))) :
    wpAny (model X.prog X.w) X.A (call (.builtin "sorted") [.ref l] [(Str.ofString "key", .ref q)]) (EP X pins σ Q) E s := by
  obtain ⟨vs, rv, hl, hz⟩ := I.list hs
  have lv := rv.length
  refine sk_sorted (Z := fun ltv us H2 => Swo ltv ∧ ∀ p ∈ us.zip ks, ∀ q ∈ us.zip ks, ltv p.1 q.1 = lt p.2 q.2) (R := fun j H2 us => Same H H2 ∧ ∃ ys, Vals ys us ∧ Paired (KR H2) ys (ks.take j)) I hl.isList (by omega) ⟨fun _ _ e => e, [], .nil, .nil⟩ ?_ ?_ ?_
  · rintro j v H2 s2 us hv ⟨s12, ys, ry, rk⟩ g
    have hj : j < vs.length := (List.getElem?_eq_some_iff.mp hv).1
    obtain ⟨x, hx⟩ : ∃ x, xs[j]? = some x := ⟨_, List.getElem?_eq_getElem (by omega)⟩
    obtain ⟨k, hkj⟩ : ∃ k, ks[j]? = some k := ⟨_, List.getElem?_eq_getElem (by omega)⟩
    obtain ⟨v', hv', rx⟩ := rv.get hx
    rw [hv] at hv'; cases hv'
    refine wpAny_mono (turn j x k H2 s2 v hx hkj g s12 rx) (fun r s3 h => ?_) fun _ _ z => z
    obtain ⟨H3, g3, s23, y, ry2, hK⟩ := h
    refine ⟨H3, g3, s12.trans s23, ys ++ [y], paired_snoc ry2 ry, ?_⟩
    rw [List.take_add_one, hkj]
    exact paired_snoc hK (paired_mono (fun a b z => KO.keep z s23) rk)
  · rintro H2 s2 a us ⟨s12, ys, ry, rk⟩ g l1 ha hb
    rw [List.take_of_length_le (by omega)] at rk
    have I2 := g.inv I
    obtain ⟨ltv, O, h1, h2⟩ := KO.sort (A := X.A.in1.in1) (b := a) I2 ha hb rk ry
    exact ⟨ltv, O, h1, O, h2⟩
  · rintro a H2 s2 us out ltv ⟨O, hag⟩ _ ha ⟨s12, ys, ry, rk⟩ l1 p1 p2 g n ⟨c, ec⟩
    have e : out = iSort (lt2 ltv) (us.zip vs) := srt_iSort (swo2 O) p1 p2
    have pz := paired_zip (us := us) (ks := ks) rv l1 hk
    have ps := iSort_two (lt := lt2 ltv) (lt' := fun a b : α × V => lt a.1 b.1) (fun a b a' b' h1 h2 => hag _ h1.1 _ h2.1) pz
    rw [← e] at ps
    have vz := vals_snd (P := fun p q => (p.1, q.1) ∈ us.zip ks) ps
    have zl : (byKeys lt ks xs).length ≤ sizeLine := by
      have h1 := vz.length
      have h2 := p2.len
      rw [List.length_map, List.length_map, h2, List.length_zip, l1, Nat.min_self] at h1
      show ((iSort _ _).map _).length ≤ _
      rw [List.length_map, h1]; omega
    have I2 := g.inv I
    exact ⟨.ref a, upd H2 a (.lst (byKeys lt ks xs)), inv_track I ha I2 n ⟨zl, _, c, vz, ec⟩, rfl, fin H2 a s12 n⟩
end
/-! ### keys: ints, texts, pairs of ints -/
section
open SrtO (Swo Srtd Stb lt2 swo2 SortableO ltIv swo_int ints_sortable iv)
variable {X : Cx}
def KI (_ : Hp) (v : V) (k : Int) : Prop := v = .int k
def ltI (a b : Int) : Bool := decide (a < b)
theorem ki_ints {H : Hp} : ∀ {ys : List V} {us : List Value} {ks : List Int}, Paired (KI H) ys ks → Vals ys us → IntsAre us ks
  | _, _, _, .nil, .nil => .nil
  | _, _, _, .cons e t, .cons r q => by
    cases e
    obtain ⟨z, rfl⟩ := r
    exact .cons _ _ (ki_ints t q)
theorem ints_agree : ∀ {us : List Value} {ks : List Int}, IntsAre us ks → ∀ p ∈ us.zip ks, iv p.1 = p.2
  | _, _, .nil, p, h => by cases h
  | _, _, .cons n t r, p, h => by
    rcases List.mem_cons.mp h with rfl | h
    · rfl
    · exact ints_agree r p h
theorem keyI : KeyOk X KI ltI := ⟨fun h _ => h, fun {pins σ H s A b ys us ks} I _ _ rk ry => by
  have hI := ki_ints rk ry
  refine ⟨ltIv, swo_int, fun h2 => ints_sortable hI h2, fun p hp q hq => ?_⟩
  show decide (iv p.1 < iv q.1) = decide (p.2 < q.2)
  rw [ints_agree hI p hp, ints_agree hI q hq]⟩
theorem swo_ltI : Swo ltI := ⟨fun x y h => decide_eq_false (by have := of_decide_eq_true h; omega), fun x y z h1 h2 => decide_eq_false (by have := of_decide_eq_false h1; have := of_decide_eq_false h2; omega)⟩
def KS (_ : Hp) (v : V) (k : Str) : Prop := v = .str k
def ltS (a b : Str) : Bool := decide (a.cps.toList < b.cps.toList)
def sv : Value → Str
  | .str x _ => x
  | _ => Str.empty
def ltSv (v u : Value) : Bool := ltS (sv v) (sv u)
theorem swo_ltS : Swo ltS := by
  refine ⟨fun x y h => ?_, fun x y z h1 h2 => ?_⟩
  · have a : x.cps.toList < y.cps.toList := of_decide_eq_true h
    exact decide_eq_false (fun b => absurd (List.lt_trans a b) (List.lt_irrefl _))
  · have a : ¬ y.cps.toList < x.cps.toList := of_decide_eq_false h1
    have b : ¬ z.cps.toList < y.cps.toList := of_decide_eq_false h2
    refine decide_eq_false (fun c => ?_)
    have a' := List.not_lt.mp a
    have b' := List.not_lt.mp b
    exact absurd c (List.not_lt.mpr (List.le_trans a' b'))
theorem ks_strs {H : Hp} : ∀ {ys : List V} {us : List Value} {ks : List Str}, Paired (KS H) ys ks → Vals ys us → StrsAre us ks
  | _, _, _, .nil, .nil => .nil
  | _, _, _, .cons e t, .cons r q => by
    cases e
    obtain ⟨z, rfl⟩ := r
    exact .cons _ _ (ks_strs t q)
theorem strs_agree : ∀ {us : List Value} {ks : List Str}, StrsAre us ks → ∀ p ∈ us.zip ks, ∃ t, p.1 = .str p.2 t
  | _, _, .nil, p, h => by cases h
  | _, _, .cons n t r, p, h => by
    rcases List.mem_cons.mp h with rfl | h
    · exact ⟨_, rfl⟩
    · exact strs_agree r p h
theorem strs_mem : ∀ {us : List Value} {ks : List Str}, StrsAre us ks → ∀ u ∈ us, ∃ x t, u = .str x t
  | _, _, .nil, p, h => by cases h
  | _, _, .cons n t r, p, h => by
    rcases List.mem_cons.mp h with rfl | h
    · exact ⟨_, _, rfl⟩
    · exact strs_mem r p h
theorem keyS : KeyOk X KS ltS := ⟨fun h _ => h, fun {pins σ H s A b ys us ks} I _ _ rk ry => by
  have hS := ks_strs rk ry
  refine ⟨ltSv, ⟨fun x y => swo_ltS.asym _ _, fun x y z => swo_ltS.tr _ _ _⟩, fun h2 h' _ => ⟨oneType', fun Q E hq => ?_, fun p q hp hq => ?_⟩, fun p hp q hq => ?_⟩
  · match us, hS, h2 with
    | v1 :: v2 :: rest, hS, _ =>
      rw [keyKind_strs hS]
      exact wpAny_pure hq
    | [], _, h => exact absurd h (by decide)
    | [v], _, h => exact absurd h (by simp)
  · obtain ⟨x, t, e1⟩ := strs_mem hS _ hp
    obtain ⟨y, u, e2⟩ := strs_mem hS _ hq
    show wpAny _ A (keyLt' oneType' p.1 q.1) (fun r s' => s' = _ ∧ r = ltSv p.1 q.1) (fun _ _ => False) _
    rw [e1, e2, keyLt'_oneType]
    exact oneLt_str ⟨rfl, rfl⟩
  · obtain ⟨t, e1⟩ := strs_agree hS p hp
    obtain ⟨u, e2⟩ := strs_agree hS q hq
    rw [e1, e2]; rfl⟩
/-- a tuple of two ints -/
def KP (H : Hp) (v : V) (k : Int × Int) : Prop := ∃ t, v = .ref t ∧ H t = some (.tup [.int k.1, .int k.2])
theorem kp_pairs {P : Program} {w : World} {H : Hp} {h : Heap} (ok : HOk P w H h) : ∀ {ys : List V} {us : List Value} {ks : List (Int × Int)}, Paired (KP H) ys ks → Vals ys us → ∀ p ∈ us.zip ks, Srt.IsPair h p.1 p.2.1 p.2.2
  | _, _, _, .nil, .nil, p, hp => by cases hp
  | _, _, _, .cons (b := k) e t, .cons r q, p, hp => by
    rcases List.mem_cons.mp hp with rfl | hp
    · obtain ⟨a, rfl, ha⟩ := e
      cases r
      obtain ⟨_, its, rv, o, ho, hc, n, hd⟩ := ok a _ ha
      match its, rv, hd with
      | [u1, u2], .cons ⟨t1, e1⟩ (.cons ⟨t2, e2⟩ .nil), hd =>
        subst e1 e2
        exact ⟨a, o, t1, t2, n, rfl, ho, hc, hd⟩
    · exact kp_pairs ok t q p hp
theorem isPair_one {h : Heap} {v : Value} {a b c d : Int} (x : Srt.IsPair h v a b) (y : Srt.IsPair h v c d) : a = c ∧ b = d := by
  obtain ⟨p, o, t, u, n, rfl, ho, _, hd⟩ := x
  obtain ⟨p', o', t', u', n', e, ho', _, hd'⟩ := y
  cases e
  rw [ho] at ho'
  cases ho'
  rw [hd] at hd'
  cases hd'
  exact ⟨rfl, rfl⟩
open Classical in
noncomputable def pairOf (h : Heap) (v : Value) : Int × Int := if z : ∃ k : Int × Int, Srt.IsPair h v k.1 k.2 then Classical.choose z else (0, 0)
theorem pairOf_eq {h : Heap} {v : Value} {k : Int × Int} (x : Srt.IsPair h v k.1 k.2) : pairOf h v = k := by
  have z : ∃ k : Int × Int, Srt.IsPair h v k.1 k.2 := ⟨k, x⟩
  unfold pairOf
  rw [dif_pos z]
  have := isPair_one (Classical.choose_spec z) x
  exact Prod.ext this.1 this.2
theorem keyP : KeyOk X KP SrtO.lexB := ⟨fun ⟨t, e, h⟩ s => ⟨t, e, s _ _ h⟩, fun {pins σ H s A b ys us ks} I _ ⟨e, hb⟩ rk ry => by
  have hp := kp_pairs I.hok rk ry
  have hm : ∀ u ∈ us, ∃ k, (u, k) ∈ us.zip ks := by
    have : us.length = ks.length := by rw [← ry.length]; exact Paired.length rk
    intro u hu
    obtain ⟨i, hi, rfl⟩ := List.getElem_of_mem hu
    exact ⟨ks[i]'(by omega), by
      have : (us.zip ks)[i]'(by rw [List.length_zip]; omega) = (us[i], ks[i]'(by omega)) := List.getElem_zip
      rw [← this]; exact List.getElem_mem _⟩
  refine ⟨fun v u => SrtO.lexB (pairOf s.heap v) (pairOf s.heap u), SrtO.swo_lex _, fun h2 => SrtO.pairs_sortableO (by omega) (fun v hv => ?_) (fun o ho => ?_), fun p hpz q hqz => ?_⟩
  · obtain ⟨k, hk⟩ := hm v hv
    rw [pairOf_eq (hp _ hk)]; exact hp _ hk
  · rw [hb] at ho; cases ho; exact fun z => absurd (Value.type.inj z) (by decide)
  · show SrtO.lexB (pairOf s.heap p.1) (pairOf s.heap q.1) = _
    rw [pairOf_eq (hp _ hpz), pairOf_eq (hp _ hqz)]⟩
end
/-! ### lambdas with parameters, told to the ledger -/
section
open LamX (CodeO TabS Tabs ExtN TabB inv_table among_app codeO_ne)
/-- at f: the function of a lambda without captured names, its code object at c -/
def LamO (f : Addr) (qual : Str) (params : Arguments) (body : Expr) (scope : Scope) (c : Addr) : HO := .ext fun h => ∃ pm ctv, h.get? f = some (PySem.W.kla_obj "<lambda>" qual params body scope [] pm c ctv)
variable {X : Cx} {pins : List (Addr × Obj)} {σ : L2.St} {H : Hp} {s : Shared}
theorem lamO_ok {P : Program} {w : World} {h : Heap} {f c : Addr} {qual : Str} {params : Arguments} {body : Expr} {scope : Scope} {pm ctv : Value} (e : h.get? f = some (PySem.W.kla_obj "<lambda>" qual params body scope [] pm c ctv)) : ObjOk P w H h f (LamO f qual params body scope c) :=
  ⟨⟨pm, ctv, e⟩, ⟨_, e⟩, fun h1 h2 ⟨a, b, z⟩ k => ⟨a, b, k _ z⟩⟩
theorem lamO_at {P : Program} {w : World} {h : Heap} {f c : Addr} {qual : Str} {params : Arguments} {body : Expr} {scope : Scope} (ok : HOk P w H h) (e : H f = some (LamO f qual params body scope c)) : ∃ pm ctv, h.get? f = some (PySem.W.kla_obj "<lambda>" qual params body scope [] pm c ctv) := by
  have x : ObjOk P w H h f (.ext fun h => ∃ pm ctv, h.get? f = some (PySem.W.kla_obj "<lambda>" qual params body scope [] pm c ctv)) := ok f _ e
  exact x.1
theorem codeO_at {P : Program} {w : World} {h : Heap} {c : Addr} {q : Str} (ok : HOk P w H h) (e : H c = some (CodeO c q)) : ∃ (oc : Obj) (vs : Array Value) (t : Tok), h.get? c = some oc ∧ oc.data = .fields vs ∧ vs[1]? = some (.str q t) := by
  have x : ObjOk P w H h c (.ext fun h => ∃ (oc : Obj) (vs : Array Value) (t : Tok), h.get? c = some oc ∧ oc.data = .fields vs ∧ vs[1]? = some (.str q t)) := ok c _ e
  exact x.1
theorem lamO_ne {f c : Addr} {qual : Str} {params : Arguments} {body : Expr} {scope : Scope} (ps : Array Value) : LamO f qual params body scope c ≠ .tbl ps := fun z => by
  unfold LamO at z
  cases z
/-- the tables, over a heap in which nothing of them changes but P's own -/
theorem tabs_snoc {T : List (Addr × Str)} {P c : Addr} {q : Str} {ps : Array Value} {pos : Pos} (hT : Tabs T H) (hu : ∀ p ∈ T, p.1 = P → p.2 = q) (hP : H P = some (.tbl ps)) (ht : TriplesOk ps.toList) (nc : H c = none)
    (old : ∀ (p : Pos) (cv : Value), codeAmong p ps.toList = some cv → ∃ c0, cv = .ref c0 ∧ H c0 = some (CodeO c0 q)) (E : ExtN H (upd (upd H P (.tbl (ps ++ #[rawInt pos.line, rawInt pos.col, .ref c]))) c (CodeO c q))) :
    Tabs T (upd (upd H P (.tbl (ps ++ #[rawInt pos.line, rawInt pos.col, .ref c]))) c (CodeO c q)) := by
  intro p hp
  have el : (ps ++ #[rawInt pos.line, rawInt pos.col, .ref c]).toList = ps.toList ++ [rawInt pos.line, rawInt pos.col, .ref c] := by simp
  by_cases hb : p.1 = P
  · rw [hu p hp hb, hb]
    refine ⟨_, by rw [upd_ne (ne_of_none hP nc), upd_same], by rw [el]; exact PySem.TriplesOk_snoc _ _ _ _ ht, fun p' cv h => ?_⟩
    rw [el] at h
    rcases among_app _ ht h with z | z
    · obtain ⟨c0, e1, e2⟩ := old p' cv z
      exact ⟨c0, e1, E _ _ e2 codeO_ne⟩
    · exact ⟨c, z, upd_same⟩
  · obtain ⟨ps', a1, a2, a3⟩ := hT p hp
    refine ⟨ps', by rw [upd_ne (ne_of_none a1 nc), upd_ne hb]; exact a1, a2, fun p' cv h => ?_⟩
    obtain ⟨c0, e1, e2⟩ := a3 p' cv h
    exact ⟨c0, e1, E _ _ e2 codeO_ne⟩
theorem extN_table {P c : Addr} {ps qs : Array Value} {o : HO} (hP : H P = some (.tbl ps)) (nc : H c = none) : ExtN H (upd (upd H P (.tbl qs)) c o) := fun b u e n => by
  rw [upd_ne (ne_of_none e nc), upd_ne (fun z => n ps (Option.some.inj (e.symm.trans (by rw [z]; exact hP))))]
  exact e
theorem extN_new {H1 : Hp} {f : Addr} {o : HO} (E : ExtN H H1) (n : H1 f = none) : ExtN H (upd H1 f o) := fun b u e q => by
  rw [upd_ne (ne_of_none (E b u e q) n)]; exact E b u e q
theorem tabs_new {T : List (Addr × Str)} {f : Addr} {o : HO} (hT : Tabs T H) (n : H f = none) : Tabs T (upd H f o) := hT.ext fun b u e => by rw [upd_ne (ne_of_none e n)]; exact e
theorem upd_none {H : Hp} {p b : Addr} {o : HO} (h : upd H p o b = none) : H b = none := by
  by_cases c : b = p
  · subst c; rw [upd_same] at h; cases h
  · rw [upd_ne c] at h; exact h
theorem lam_make3 {T : List (Addr × Str)} {c P : Addr} {params : Arguments} {body : Expr} {scope : Scope} {pos : Pos} {E : Value → Shared → Prop} {Q : Value → Shared → Prop} (I : Inv X pins σ H s) (B : TabB X.base X.mg c P) (code : X.env.code = .ref c)
    (hm : (P, X.env.qual ++ "<lambda>") ∈ T) (hu : ∀ p ∈ T, p.1 = P → p.2 = X.env.qual ++ "<lambda>") (hT : Tabs T H) (hd : defaultsOf params X.env = ([], [])) (hcl : closureFor scope X.env = pure []) 
    (h : ∀ (f c' : Addr) (H1 : Hp) (s' : Shared), Inv X pins σ H1 s' → ExtN H H1 → Tabs T H1 → (∀ b, H1 b = none → H b = none) → H1 f = some (LamO f (X.env.qual ++ "<lambda>") params body scope c') → H1 c' = some (CodeO c' (X.env.qual ++ "<lambda>")) → Q (.ref f) s') :
    wpAny (model X.prog X.w) X.A (eval (.Lambda params body scope pos) X.env) Q E s := by
  obtain ⟨ps, hP, ht, ha⟩ := hT _ hm
  refine PySem.W.kla_eval hd ?_
  have bP : s.heap.BuiltinsAt X.mg P := B.bm.keeps I.bk
  have oP : s.heap.get? P = some { cls := .none, data := .fields ps } := I.hok P _ hP
  cases hc : codeAmong pos ps.toList with
  | some cv =>
    obtain ⟨c', e, hco⟩ := ha pos cv hc
    subst e
    refine PySem.W.kla_makeFunctionHit (mg := X.mg) (c := c) (P := P) (ps := ps) hcl I.ok.glob (I.mod.glob.keeps I.bk) code (B.code.keeps I.bk) oP ht hc bP fun ctv h' tk hx hsz => ?_
    have I1 : Inv X pins σ H { s with heap := h', toks := tk } := I.kept hx
    have nf : H h'.objs.size = none := I.hok.fresh hsz
    have I2 := I1.laid (a := h'.objs.size) (o := LamO h'.objs.size (X.env.qual ++ "<lambda>") params body scope c') (t' := tk) (h' := h'.push (PySem.W.kla_obj "<lambda>" (X.env.qual ++ "<lambda>") params body scope [] ((X.mg "__name__").getD .none) c' ctv))
      (fun b o e => Heap.get?_push_of_some _ e) (Nat.le_refl _) (lamO_ok (Heap.get?_push_size _ rfl))
    exact h _ c' _ _ I2 (extN_new (ExtN.refl H) nf) (tabs_new hT nf) (fun b => upd_none) upd_same (by rw [upd_ne (ne_of_none hco nf)]; exact hco)
  | none =>
    refine PySem.W.kla_makeFunction (mg := X.mg) (c := c) (P := P) (ps := ps) hcl I.ok.glob (I.mod.glob.keeps I.bk) code (B.code.keeps I.bk) oP ht hc B.gP bP fun c' ctv h' tk hx hge hlt hrec htb => ?_
    obtain ⟨c2, oc, vs, t, e2, hoc, hd2, hv⟩ := hrec
    cases e2
    have nc : H c' = none := I.hok.fresh hge
    have ee := extN_table (qs := ps ++ #[rawInt pos.line, rawInt pos.col, .ref c']) (o := CodeO c' (X.env.qual ++ "<lambda>")) hP nc
    have t1 := tabs_snoc (pos := pos) hT hu hP ht nc ha ee
    have I1 := inv_table (t' := tk) (q := X.env.qual ++ "<lambda>") (more := #[rawInt pos.line, rawInt pos.col, .ref c']) (h' := h') I hP (fun b o hb e => hx b o hb e) htb hge ⟨oc, vs, t, hoc, hd2, hv⟩
    have hsz : s.heap.objs.size ≤ h'.objs.size := Nat.le_trans hge (Nat.le_of_lt hlt)
    have nf : (upd (upd H P (.tbl (ps ++ #[rawInt pos.line, rawInt pos.col, .ref c']))) c' (CodeO c' (X.env.qual ++ "<lambda>"))) h'.objs.size = none := by
      rw [upd_ne (Nat.ne_of_gt hlt), upd_ne (Nat.ne_of_gt (Nat.lt_of_lt_of_le (Heap.lt_size oP) hsz))]
      exact I.hok.fresh hsz
    have I2 := I1.laid (a := h'.objs.size) (o := LamO h'.objs.size (X.env.qual ++ "<lambda>") params body scope c') (t' := tk) (h' := h'.push (PySem.W.kla_obj "<lambda>" (X.env.qual ++ "<lambda>") params body scope [] ((X.mg "__name__").getD .none) c' ctv))
      (fun b o e => Heap.get?_push_of_some _ e) (Nat.le_refl _) (lamO_ok (Heap.get?_push_size _ rfl))
    exact h _ c' _ _ I2 (extN_new ee nf) (tabs_new t1 nf) (fun b z => upd_none (upd_none (upd_none z))) upd_same (by rw [upd_ne (ne_of_none upd_same nf)]; exact upd_same)
end
/-! ### the law's end, where defs make lambdas: their code objects' tables are told from the start -/
section
open LamX (TabB)
variable {P : Program} {w : World} {K : PySem.W.Frag} {mg mb : Str → Option Value} {k : Nat} {fa a : Addr} {fd : FuncData} {x : Str} {sp : Sp} {s₁ : Shared} {vs : List Value} {ns : List Int}
/-- tables alone, and the script -/
def OnlyT (ts : List Addr) (H : Hp) : Prop := ∀ b, H b = none ∨ (b ∈ ts ∧ H b = some (.tbl #[])) ∨ ∃ o xs, H b = some (.frz o (.lst xs))
theorem lawT0 {cs : List (Addr × Addr)} (KX : K.In s₁.heap) (g1 : s₁.heap.Ns mainGlobals mg) (g2 : s₁.heap.Ns builtinsNs mb) (g3 : ∀ x : Str, x ≠ "__name__" → mb x = bootBuiltins x) (g4 : s₁.heap.NoLimit) (g5 : s₁.gens = #[])
    (g6 : ∃ (bm : Addr) (ob : Obj), mg "__builtins__" = some (.ref bm) ∧ bm ≠ builtinsNs ∧ s₁.heap.get? bm = some ob ∧ ob.cls = .type "module" ∧ ob.dict = some builtinsNs ∧ ob.data = .plain)
    (hT : ∀ p ∈ cs, s₁.heap.get? p.2 = some { cls := .none, data := .fields #[] }) (hC : ∀ p ∈ cs, PySem.W.CodeHd s₁.heap p.1 p.2)
    (ha : s₁.heap.get? a = some { cls := .type "list", data := .seq vs.toArray }) (hr : Room k callerA)
    (F : ∀ base : Heap, K.In base → base.Ns mainGlobals mg → (∀ p ∈ cs, TabB base mg p.1 p.2) → FnOkG P w K mg base CX0 k fa fd [x] sp) (bd : ∀ (s : Shared) (u : Value), BindsTo s fd ⟨[u], []⟩ [(x, u)])
    (H : Hp) (hO : OnlyT (cs.map (·.2)) H) (want : sp [.ref a] H (fun v _ => v = .bl true) fun _ _ _ => False) (ok : HOk P w H s₁.heap) (hA : ∀ b, H b ≠ none → b = a ∨ b ∈ cs.map (·.2)) (hK : ∀ b, H b ≠ none → K.lookup b = none) :
    codeAny (model P w) callerA (.call (.ref fa) ⟨[.ref a], []⟩) (fun r s' => r = .ok (.ret (.bool true)) ∧ OldK s₁.heap s'.heap ∧ s'.os = s₁.os ∧ AllBare s'.gens) s₁ := by
  have tab : ∀ b, b ∈ cs.map (·.2) → ∃ p ∈ cs, p.2 = b ∧ s₁.heap.get? b = some { cls := .none, data := .fields #[] } := by
    intro b hb
    obtain ⟨p, hp, rfl⟩ := List.mem_map.mp hb
    exact ⟨p, hp, rfl, hT p hp⟩
  have free : ∀ {b : Addr} {o : Obj}, s₁.heap.get? b = some o → (∀ us n, o.data ≠ .seq us n) → o.data ≠ .fields #[] → H b = none := by
    intro b o e h1 h2
    apply Classical.byContradiction
    intro z
    rcases hA b z with rfl | hb
    · rw [ha] at e; cases e; exact h1 _ _ rfl
    · obtain ⟨_, _, _, e2⟩ := tab b hb
      rw [e2] at e; cases e; exact h2 rfl
  have nsK : ∀ {b : Addr} {m : Str → Option Value}, s₁.heap.Ns b m → (hidT s₁.heap H).Ns b m := by
    rintro b m ⟨o, es, ep, e, d, r⟩
    exact ⟨o, es, ep, hidT_get e (free e (fun _ _ z => by rw [d] at z; cases z) fun z => by rw [d] at z; cases z), d, r⟩
  have kb : K.In (hidT s₁.heap H) := by
    intro b o e
    refine hidT_get (KX b o e) (Classical.byContradiction fun z => ?_)
    rw [hK b z] at e; cases e
  have M : Mod K mg (hidT s₁.heap H) := by
    obtain ⟨mc, h1, h2⟩ := g4
    exact ⟨kb, nsK g1, ⟨mb, nsK g2, g3⟩, ⟨mc, nsK h1, h2⟩⟩
  have gne : ∀ p ∈ cs, mainGlobals ≠ p.2 := by
    intro p hp z
    obtain ⟨o, es, ep, e, d, _⟩ := g1
    rw [z, hT p hp] at e; cases e; cases d
  have B : ∀ p ∈ cs, TabB (hidT s₁.heap H) mg p.1 p.2 := by
    intro p hp
    refine ⟨?_, ?_, gne p hp⟩
    · obtain ⟨o, us, file, tf, flags, tg, inF, text, tt, e1, r1, r2, r3, r⟩ := hC p hp
      refine ⟨o, us, file, tf, flags, tg, inF, text, tt, hidT_get e1 (free e1 (fun _ _ z => by rw [r2] at z; cases z) fun z => ?_), r1, r2, r3, r⟩
      rw [r2] at z; cases z; simp at r3
    · obtain ⟨bm, ob, b1, b2, b3, b4, b5, b6⟩ := g6
      refine ⟨bm, ob, b1, b2, ?_, ?_, hidT_get b3 (free b3 (fun _ _ z => by rw [b6] at z; cases z) fun z => by rw [b6] at z; cases z), b4, b5, b6⟩
      · intro z
        obtain ⟨o, es, ep, e, d, _⟩ := g1
        rw [z, e] at b3; cases b3; rw [d] at b6; cases b6
      · intro z
        rw [z, hT p hp] at b3; cases b3; cases b6
  have e0 : Env0 P w K mg (hidT s₁.heap H) callerA [] s₁ H :=
    { frames := rfl, mod := M, bs := fun b o e => of_hidT e, bsz := Nat.le_of_eq (hidT_size _ _), funs := trivial, frf := fun b z => absurd (show b ∈ ([] : List Addr) from z) (by simp), hok := ok, bare := .of_eq g5 }
  have run := (F _ kb (nsK g1) B).goes callerA [] s₁ H ⟨[.ref a], []⟩ [.ref a] [.ref a] _ _ rfl hr e0 (bd s₁ (.ref a)) (.cons rfl .nil) want
  refine codeAny_mono run fun r s' h => ?_
  match r, h with
  | .error e, h => exact (show False from h).elim
  | .ok .next, h => exact (show False from h).elim
  | .ok .brk, h => exact (show False from h).elim
  | .ok .cont, h => exact (show False from h).elim
  | .ok (.ret u), ⟨v, H', os, bare, un, ok', rv, (qv : v = .bl true)⟩ =>
    cases qv
    cases (show u = Value.bool true from rv)
    have same : ∀ b o, H b = none → s₁.heap.get? b = some o → s'.heap.get? b = some o := fun b o q e => un.keep b o e q (fun z => absurd (show b ∈ ([] : List Addr) from z) (by simp)) (by simp)
    have key : ∀ b o, s₁.heap.get? b = some o → s'.heap.get? b = some o ∨ (b ∈ cs.map (·.2) ∧ ∃ more : Array Value, s'.heap.get? b = some { cls := .none, data := .fields more }) := by
      intro b o e
      rcases hO b with z | ⟨hb, z⟩ | ⟨ob, xs, z⟩
      · exact .inl (same b o z e)
      · obtain ⟨more, z2⟩ := un.tbls b _ z
        exact .inr ⟨hb, _, ok' b _ z2⟩
      · have f1 := (ok b _ z).1
        have f2 := (ok' b _ (un.frzs b ob _ z)).1
        rw [f1] at e; cases e
        exact .inl f2
    refine ⟨rfl, ⟨fun b o e => ?_, fun b o e => ?_⟩, os, bare⟩
    · rcases key b o e with z | ⟨hb, more, z⟩
      · exact .inl z
      · obtain ⟨p, hp, rfl, et⟩ := tab b hb
        rw [et] at e; cases e
        exact .inr (.inl ⟨((hC p hp).tab et).isCodeTable, rfl, #[], more, rfl, by rw [Array.empty_append]; exact z⟩)
    · rcases key b o e with z | ⟨_, more, z⟩
      · exact ⟨_, z⟩
      · exact ⟨_, z⟩
theorem lawT {cs : List (Addr × Addr)} (KX : K.In s₁.heap) (g1 : s₁.heap.Ns mainGlobals mg) (g2 : s₁.heap.Ns builtinsNs mb) (g3 : ∀ x : Str, x ≠ "__name__" → mb x = bootBuiltins x) (g4 : s₁.heap.NoLimit) (g5 : s₁.gens = #[])
    (g6 : ∃ (bm : Addr) (ob : Obj), mg "__builtins__" = some (.ref bm) ∧ bm ≠ builtinsNs ∧ s₁.heap.get? bm = some ob ∧ ob.cls = .type "module" ∧ ob.dict = some builtinsNs ∧ ob.data = .plain)
    (hT : ∀ p ∈ cs, s₁.heap.get? p.2 = some { cls := .none, data := .fields #[] }) (hC : ∀ p ∈ cs, PySem.W.CodeHd s₁.heap p.1 p.2) (nT : ∀ p ∈ cs, K.lookup p.2 = none)
    (ha : s₁.heap.get? a = some { cls := .type "list", data := .seq vs.toArray }) (hi : IntsAre vs ns) (hl : ns.length ≤ sizeLine) (hr : Room k callerA)
    (F : ∀ base : Heap, K.In base → base.Ns mainGlobals mg → (∀ p ∈ cs, TabB base mg p.1 p.2) → FnOkG P w K mg base CX0 k fa fd [x] sp) (bd : ∀ (s : Shared) (u : Value), BindsTo s fd ⟨[u], []⟩ [(x, u)])
    (want : ∀ H : Hp, (∀ p ∈ cs, H p.2 = some (.tbl #[])) → SqL K H a (ns.map V.int) → sp [.ref a] H (fun v _ => v = .bl true) fun _ _ _ => False) :
    codeAny (model P w) callerA (.call (.ref fa) ⟨[.ref a], []⟩) (fun r s' => r = .ok (.ret (.bool true)) ∧ OldK s₁.heap s'.heap ∧ s'.os = s₁.os ∧ AllBare s'.gens) s₁ := by
  have rv := vals_ints hi
  have tab : ∀ b, b ∈ cs.map (·.2) → s₁.heap.get? b = some { cls := .none, data := .fields #[] } ∧ K.lookup b = none := by
    intro b hb
    obtain ⟨p, hp, rfl⟩ := List.mem_map.mp hb
    exact ⟨hT p hp, nT p hp⟩
  have na : a ∉ cs.map (·.2) := fun z => by
    have := (tab a z).1
    rw [ha] at this
    cases this
  have tok : ∀ {H : Hp} {b : Addr}, b ∈ cs.map (·.2) → ObjOk P w H s₁.heap b (.tbl #[]) := fun hb => (tab _ hb).1
  by_cases hk : K.lookup a = none
  · let H : Hp := fun b => if b = a then some (.frz { cls := .type "list", data := .seq vs.toArray } (.lst (ns.map V.int))) else if b ∈ cs.map (·.2) then some (.tbl #[]) else none
    have Ha : H a = some (.frz { cls := .type "list", data := .seq vs.toArray } (.lst (ns.map V.int))) := if_pos rfl
    have Ht : ∀ b ∈ cs.map (·.2), H b = some (.tbl #[]) := fun b hb => (if_neg fun z => na (by rw [← z]; exact hb)).trans (if_pos hb)
    have Hn : ∀ b, b ≠ a → b ∉ cs.map (·.2) → H b = none := fun b n m => (if_neg n).trans (if_neg m)
    have hA : ∀ b, H b ≠ none → b = a ∨ b ∈ cs.map (·.2) := fun b z => Classical.byContradiction fun q => z (Hn b (fun y => q (.inl y)) fun y => q (.inr y))
    refine lawT0 KX g1 g2 g3 g4 g5 g6 hT hC ha hr F bd H (fun b => ?_) (want H (fun p hp => Ht _ (List.mem_map.mpr ⟨p, hp, rfl⟩)) (.inl (.inr ⟨_, Ha⟩))) (fun b u z => ?_) hA (fun b z => ?_)
    · by_cases e : b = a
      · exact .inr (.inr ⟨_, _, e ▸ Ha⟩)
      · by_cases m : b ∈ cs.map (·.2)
        · exact .inr (.inl ⟨m, Ht b m⟩)
        · exact .inl (Hn b e m)
    · rcases hA b (by rw [z]; intro y; cases y) with rfl | m
      · rw [Ha] at z; cases z
        exact ⟨ha, by rw [List.length_map]; exact hl, vs, _, rv, ha⟩
      · rw [Ht b m] at z; cases z
        exact tok m
    · rcases hA b z with rfl | m
      · exact hk
      · exact (tab b m).2
  · obtain ⟨o, ho⟩ := Option.ne_none_iff_exists'.mp hk
    have e := KX a o ho
    rw [ha] at e
    cases e
    let H : Hp := fun b => if b ∈ cs.map (·.2) then some (.tbl #[]) else none
    have Ht : ∀ b ∈ cs.map (·.2), H b = some (.tbl #[]) := fun b hb => if_pos hb
    have hA : ∀ b, H b ≠ none → b ∈ cs.map (·.2) := fun b z => Classical.byContradiction fun q => z (if_neg q)
    refine lawT0 KX g1 g2 g3 g4 g5 g6 hT hC ha hr F bd H (fun b => ?_) (want H (fun p hp => Ht _ (List.mem_map.mpr ⟨p, hp, rfl⟩)) (.inr ⟨_, vs.toArray, _, ho, rfl, rfl, rfl, by rw [List.size_toArray, hi.length]; exact hl, by simpa using rv⟩)) (fun b u z => ?_) (fun b z => .inr (hA b z)) fun b z => (tab b (hA b z)).2
    · by_cases m : b ∈ cs.map (·.2)
      · exact .inr (.inl ⟨m, Ht b m⟩)
      · exact .inl (if_neg m)
    · have m := hA b (by rw [z]; intro y; cases y)
      rw [Ht b m] at z; cases z
      exact tok m
end
/-- ts: the tables of all defs that make lambdas -/
theorem walkM {l : PySem.W.OpenLaw} {n k : Nat} {q : Program} {loose : List Str} {XP : (Str → Option Value) → Heap → Prop} {YP : World → Heap → Prop} {d : DefRec} {K : Params → PySem.W.Frag} {x : Str} {ts : List Addr}
    (hn : l.most = some n) (hn2 : n ≤ sizeLine) (hdf : d.params.defaults = []) (hr : Room k callerA) (hY : ∀ (w : World) (h : Heap), YP w h → (K w.params).In h) (hT : ∀ (w : World) (h : Heap), YP w h → ∀ P ∈ ts, h.get? P = some (tabObj #[]))
    (F : ∀ (w : World) (mg : Str → Option Value) (fa : Addr) (h : Heap), (K w.params).In h → h.Ns mainGlobals mg → mg d.name = some (.ref fa) →
      ∃ (fd : FuncData) (cs : List (Addr × Addr)) (sp : Sp), (∀ t ∈ cs, t.2 ∈ ts ∧ PySem.W.codeHdIn (K w.params) t.1 t.2 = true ∧ (K w.params).lookup t.2 = none) ∧ (∀ (s : Shared) (u : Value), BindsTo s fd ⟨[u], []⟩ [(x, u)]) ∧
        (∀ (H : Hp) (a : Addr) (ns : List Int), ns.length ≤ n → (∀ t ∈ cs, H t.2 = some (.tbl #[])) → SqL (K w.params) H a (ns.map V.int) → sp [.ref a] H (fun v _ => v = .bl true) fun _ _ _ => False) ∧
        ∀ base : Heap, (K w.params).In base → base.Ns mainGlobals mg → (∀ t ∈ cs, LamX.TabB base mg t.1 t.2) → FnOkG l.prog w (K w.params) mg base CX0 k fa fd [x] sp) :
    PySem.W.WalkO q loose XP YP l.row.toRowW d [] (fun f vs => PySem.call f vs) := by
  apply Att.attach_call hn hdf
  intro w s₀ s₁ mg mb fa o pm cd doc a vs ns G Y ho hd hcd hmg hobj hints hlen hg
  have KX := hY w _ Y
  obtain ⟨fd, cs, sp, hcs, bd, want, hF⟩ := F w mg fa _ KX G.T.g hmg
  exact lawT (cs := cs) KX G.T.g G.T.b G.T.builtins G.T.nolimit hg G.T.bmain (fun p hp => hT w _ Y _ (hcs p hp).1) (fun p hp => PySem.W.codeHd_of_K KX (hcs p hp).2.1) (fun p hp => (hcs p hp).2.2) hobj hints (Nat.le_trans hlen hn2) hr hF bd fun H hH hS => want H a ns hlen hH hS
/-! ### lambdas made and called; sorted by them -/
section
open LamX (CodeO TabS Tabs ExtN TabB)
variable {X : Cx}
def tLamE (TT : List (Addr × Str)) (qual : Str) (params : Arguments) (body : Expr) (scope : Scope) : TE := fun _ H Q => Tabs TT H ∧ ∀ f c H1, ExtN H H1 → Tabs TT H1 → (∀ b, H1 b = none → H b = none) → H1 f = some (LamO f qual params body scope c) → H1 c = some (CodeO c qual) → Q (.ref f) H1
theorem pe_lam3 {TT : List (Addr × Str)} {c P : Addr} {params : Arguments} {body : Expr} {scope : Scope} {pos : Pos} (B : TabB X.base X.mg c P) (code : X.env.code = .ref c) (hm : (P, X.env.qual ++ "<lambda>") ∈ TT) (hu : ∀ p ∈ TT, p.1 = P → p.2 = X.env.qual ++ "<lambda>")
    (hd : defaultsOf params X.env = ([], []) := by rfl) (hcl : closureFor scope X.env = pure [] := by rfl) : PE X (.Lambda params body scope pos) (tLamE TT (X.env.qual ++ "<lambda>") params body scope) := by
  refine ⟨fun pins s σ H Q I h => ?_⟩
  obtain ⟨hT, q⟩ := h
  exact lam_make3 I B code hm hu hT hd hcl fun f c' H1 s' I1 e1 t1 h0 h1 h2 => ⟨.ref f, H1, I1, rfl, q f c' H1 e1 t1 h0 h1 h2⟩
theorem CE.gone {H : Hp} {s s' : Shared} {Q : VK} {u : Value} (h : CE X.stack X.prog X.w H s Q u s') : ∃ v H', Gone X H s H' s' ∧ RelV v u ∧ Q v H' := by
  obtain ⟨v, H', os, bare, un, hok, r, q⟩ := h
  exact ⟨v, H', ⟨os, bare, un, hok⟩, r, q⟩
theorem inv_env1 {pins : List (Addr × Obj)} {σ : L2.St} {H : Hp} {s : Shared} (I : L2.Inv X pins σ H s) : Env0 X.prog X.w X.K X.mg X.base X.A.in1.in1 X.stack s H := { I.env0 with frames := I.env0.frames }
section
variable {pins : List (Addr × Obj)} {σ : L2.St} {H : Hp} {s : Shared} {f c : Addr} {qual : Str} {params : Arguments} {body : Expr} {scope : Scope} {N ps : List Str} {tb : TE} {k : Nat} {us : List Value} {vs : List V} {Q : VK}
theorem run_lam3 (I : L2.Inv X pins σ H s) (hf : H f = some (LamO f qual params body scope c)) (hc : H c = some (CodeO c qual)) (S : FnScope N ps scope)
    (bind : ∀ (us : List Value) (pm cv ctv : Value), us.length = ps.length → bindArgs (PySem.W.kla_fn "<lambda>" qual params body scope [] pm cv ctv) ⟨us, []⟩ = pure (ps.zip us)) (hr : Room (k + 1) X.A.in1.in1)
    (hb : ∀ (A : Around) (outer : List Env) (s : Shared) (H : Hp), Room k (A.deeper (envOfC qual scope s.heap.objs.size f (.ref c))) → PE (cxOf CX0 X.prog X.w X.K X.mg X.base N qual scope f (.ref c) A outer s H E0).nox body tb)
    (r : Vals vs us) (hl : vs.length = ps.length) (want : tb (L2.start N vs) H Q) : wpAny (model X.prog X.w) X.A.in1.in1 (call (.ref f) us) (fun u s' => CE X.stack X.prog X.w H s Q u s') (fun _ _ => False) s := by
  obtain ⟨pm, ctv, of⟩ := lamO_at I.hok hf
  obtain ⟨oc, cvs, t, hoc, hdc, hvc⟩ := codeO_at I.hok hc
  have env := (inv_env1 I)
  have lim : s.heap.NoLimit := I.nolimit
  have hul : us.length = ps.length := r.length.symm.trans hl
  have vis : ∀ y ∈ ps.zip us, scope.names.lookup y.1 = some .local ∨ (scope.names.lookup y.1 = some .cell ∧ ((cellsFrom (s.heap.objs.size + 1) scope.names []).lookup y.1).isSome = true) := by
    rintro ⟨n, v⟩ hy
    exact (S.par n (List.of_mem_zip hy).1).elim Or.inl fun z => Or.inr ⟨z, PySem.W.cellsFrom_some _ _ _ (Or.inl z)⟩
  refine wpAny_call (PySem.W.kla_callFunE hr.depth of rfl S.co S.gen rfl ⟨c, oc, cvs, t, rfl, hoc, hdc, hvc⟩ ?_)
  rw [bind us _ _ _ hul]
  refine wpAny_pure (wpAny_newFunctionEnv_cells S.kind vis fun env' he s1 x => ?_)
  cases he
  refine ⟨lim.keeps x.toInCall.keep, PySem.W.kla_codeExpr ?_⟩
  have J : L2.Inv (cxOf CX0 X.prog X.w X.K X.mg X.base N qual scope f (.ref c) X.A.in1.in1 X.stack s H E0) [] (L2.start N vs) H s1 := inv_start S hr.hd env hl r x
  refine wpAny_mono ((hb _ _ s H (hr.deeper _)).run [] s1 _ H Q (J.wish _) want) (fun u s' z => ?_) fun e s' z => z.elim
  obtain ⟨v, H', J', rv, q⟩ := z
  exact ⟨v, H', J'.os, J'.bare, J'.base, J'.hok, rv, q⟩
end
/-- sorted(l, key=lambda ..: ..) -/
def rSortL (K : PySem.W.Frag) {α : Type} (KR : Hp → V → α → Prop) (lt : α → α → Bool) (qual : Str) (params : Arguments) (body : Expr) (scope : Scope) (N : List Str) (tb : TE) : List V → List V → Hp → VK → Prop := fun vs zs H Q =>
  ∃ (l f c : Addr) (xs : List V) (ks : List α), vs = [.ref l] ∧ zs = [.ref f] ∧ H f = some (LamO f qual params body scope c) ∧ H c = some (CodeO c qual) ∧ SqL K H l xs ∧ ks.length = xs.length ∧
    (∀ (j : Nat) (x : V) (k : α) (H2 : Hp), xs[j]? = some x → ks[j]? = some k → Same H H2 → tb (L2.start N [x]) H2 fun y H3 => Same H2 H3 ∧ KR H3 y k) ∧
    ∀ H2 p, Same H H2 → H2 p = none → Q (.ref p) (upd H2 p (.lst (byKeys lt ks xs)))
theorem call_sortL {α : Type} {KR : Hp → V → α → Prop} {lt : α → α → Bool} (KO : KeyOk X KR lt) {qual : Str} {params : Arguments} {body : Expr} {scope : Scope} {N : List Str} {px : Str} {tb : TE} {k : Nat} (S : FnScope N [px] scope)
    (bind : ∀ (us : List Value) (pm cv ctv : Value), us.length = 1 → bindArgs (PySem.W.kla_fn "<lambda>" qual params body scope [] pm cv ctv) ⟨us, []⟩ = pure ([px].zip us)) (hr : Room (k + 3) X.A)
    (hb : ∀ (f c : Addr) (A : Around) (outer : List Env) (s : Shared) (H : Hp), Room k (A.deeper (envOfC qual scope s.heap.objs.size f (.ref c))) → PE (cxOf CX0 X.prog X.w X.K X.mg X.base N qual scope f (.ref c) A outer s H E0).nox body tb) :
    CallRK X (.builtin "sorted") ["key"] (rSortL X.K KR lt qual params body scope N tb) := by
  intro pins s σ H xs zs us ws Q I r rz h
  obtain ⟨l, f, c, ys, ks, rfl, rfl, hf, hc, hs, hk, turn, fin⟩ := h
  obtain ⟨ud, rfl, rd⟩ := Vals.one rz
  obtain rfl : ud = Value.ref f := rd
  rw [Vals.ref1 r]
  refine key_sorted KO I hs hk (fun j x ky H2 s2 u hx hky g s12 rx => ?_) fin
  have I2 := g.inv I
  refine wpAny_mono (run_lam3 (ps := [px]) (vs := [x]) (us := [u]) I2 (s12 _ _ hf) (s12 _ _ hc) S bind hr.in1.in1 (hb f c) (.cons rx .nil) rfl (turn j x ky H2 hx hky s12)) (fun v s3 z => ?_) fun _ _ z => z
  obtain ⟨y, H3, g3, ry, s23, hK⟩ := CE.gone z
  exact ⟨H3, g3, s23, y, ry, hK⟩
/-- sorted(l, key=f), f a def of the module -/
def rSortF (K : PySem.W.Frag) {α : Type} (KR : Hp → V → α → Prop) (lt : α → α → Bool) (f : Addr) (sp : Sp) : List V → List V → Hp → VK → Prop := fun vs zs H Q =>
  ∃ (l : Addr) (xs : List V) (ks : List α), vs = [.ref l] ∧ zs = [.ref f] ∧ SqL K H l xs ∧ ks.length = xs.length ∧
    (∀ (j : Nat) (x : V) (k : α) (H2 : Hp), xs[j]? = some x → ks[j]? = some k → Same H H2 → sp [x] H2 (fun y H3 => Same H2 H3 ∧ KR H3 y k) E0) ∧
    ∀ H2 p, Same H H2 → H2 p = none → Q (.ref p) (upd H2 p (.lst (byKeys lt ks xs)))
theorem call_sortF {α : Type} {KR : Hp → V → α → Prop} {lt : α → α → Bool} (KO : KeyOk X KR lt) {f : Addr} {fd : FuncData} {px : Str} {sp : Sp} {k : Nat} (F : FnOk X.prog X.w X.K X.mg X.base CX0 k f fd [px] sp) (hb : L2.Binds X.K fd [px] []) (hr : Room (k + 2) X.A) :
    CallRK X (.builtin "sorted") ["key"] (rSortF X.K KR lt f sp) := by
  intro pins s σ H xs zs us ws Q I r rz h
  obtain ⟨l, ys, ks, rfl, rfl, hs, hk, turn, fin⟩ := h
  obtain ⟨ud, rfl, rd⟩ := Vals.one rz
  obtain rfl : ud = Value.ref f := rd
  rw [Vals.ref1 r]
  refine key_sorted KO I hs hk (fun j x ky H2 s2 u hx hky g s12 rx => ?_) fin
  have I2 := g.inv I
  have bd := hb s2 [u] I2.kIn rfl
  rw [List.append_nil] at bd
  refine wpAny_call (codeAny_mono (F.run X.A.in1.in1 X.stack s2 H2 ⟨[u], []⟩ [u] [x] _ E0 hr.in1.in1 (inv_env1 I2) bd (.cons rx .nil) (turn j x ky H2 hx hky s12)) fun z s3 hz => ?_)
  match z, hz with
  | .error er, hz => exact (show False from hz).elim
  | .ok (.ret v), hz =>
    obtain ⟨y, H3, g3, ry, s23, hK⟩ := CE.gone hz
    exact ⟨H3, g3, s23, y, ry, hK⟩
  | .ok .next, hz => exact (show False from hz).elim
  | .ok .brk, hz => exact (show False from hz).elim
  | .ok .cont, hz => exact (show False from hz).elim
end
/-! ### calls by places and names, defaults -/
def nthL {α : Type} : List α → Nat → List α
  | [], _ => []
  | a :: _, 0 => [a]
  | _ :: l, n + 1 => nthL l n
def pickL {α : Type} (l : List α) : List Nat → List α
  | [] => []
  | i :: r => nthL l i ++ pickL l r
theorem nthL_vals : ∀ {vs : List V} {us : List Value} (i : Nat), Vals vs us → Vals (nthL vs i) (nthL us i)
  | _, _, _, .nil => .nil
  | _, _, 0, .cons r _ => .cons r .nil
  | _, _, i + 1, .cons _ t => nthL_vals i t
theorem pickL_vals {vs : List V} {us : List Value} (h : Vals vs us) : ∀ is : List Nat, Vals (pickL vs is) (pickL us is)
  | [] => .nil
  | i :: r => (nthL_vals i h).append (pickL_vals h r)
theorem kbD {K : PySem.W.Frag} {x qual : Str} {params : Arguments} {body : List Stmt} {scope : Scope} {dvs : List V} {kws : List (Str × V)} {f : Addr} {fd : FuncData} {ps : List Str} (F : FunD K x qual params body scope dvs kws f fd) (n : Nat) (ks : List Str) (is : List Nat) (hd : dvs ≠ [])
    (h : ∀ (T : Addr) (kV doc pm : Value) (an : Option Addr) (cdv ct : Value) (us its ws : List Value), us.length = n → its.length = dvs.length → ws.length = ks.length →
      ∃ k, bindArgs (PySem.W.fnOf x qual params body scope (.ref T) kV doc pm an cdv ct) ⟨us, ks.zip ws⟩ = seqItems? (.ref T) >>= k ∧ k (some its.toArray) = pure (ps.zip (pickL (us ++ its ++ ws) is))) :
    ∃ its : List Value, KBn K fd ps n ks (fun us ws => pickL (us ++ its ++ ws) is) (fun vs zs => pickL (vs ++ dvs ++ zs) is) :=
  FunD.kbindsD F n ks (fun us its ws => pickL (us ++ its ++ ws) is) hd (fun a b c => pickL_vals ((a.append b).append c) is) h
theorem kbF {K : PySem.W.Frag} {x qual : Str} {st : Stmt} {f : Addr} {fd : FuncData} {ps : List Str} (F : Fun K x qual st f fd) (n : Nat) (ks : List Str) (is : List Nat)
    (h : ∀ (kV doc pm : Value) (an : Option Addr) (cdv ct : Value) (us ws : List Value), us.length = n → ws.length = ks.length → bindArgs (PySem.W.fnOf x qual (defArgs st) (defBody st) (defScope st) .none kV doc pm an cdv ct) ⟨us, ks.zip ws⟩ = pure (ps.zip (pickL (us ++ ws) is))) :
    KBn K fd ps n ks (fun us ws => pickL (us ++ ws) is) (fun vs zs => pickL (vs ++ zs) is) := by
  obtain ⟨oc, od, kV, doc, pm, an, cdv, ct, osl, rfl, lk, hcd⟩ := F.ex
  exact ⟨fun s us ws _ h1 h2 => .of_eq (h kV doc pm an cdv ct us ws h1 h2), fun a b => pickL_vals (a.append b) is⟩
section
variable {X : Cx} {CX : CXT} {k : Nat} {f : Addr} {fd : FuncData} {ps ks : List Str} {sp : Sp} {E : XK} {x : Str} {p pos : Pos} {kws : List Keyword} {tk : TA} {g : List Value → List Value → List Value} {gV : List V → List V → List V}
/-- f(k = v, ..) -/
theorem pe_callN0 (F : FnOk X.prog X.w X.K X.mg X.base CX k f fd ps sp) (hr : Room k X.A) (hg : Gl X x) (hm : X.mg x = some (.ref f)) (hk : PySem.W.keepIn X.K (.ref f) = true) (hb : KBn X.K fd ps 0 ks g gV) (hx : Passes CX X E)
    (hkw : PK X kws tk) (hall : (backToKw pos (keywordEach kws X.env)).all (·.1.isSome) = true := by rfl) (hks : (backToKw pos (keywordEach kws X.env)).filterMap (·.1) = ks := by rfl)
    (hdb : (x == ("__debug__" : Str)) = false := by decide)
    (hpl : ((backTo pos (starEach [] X.env)).any (·.1) || (backToKw pos (keywordEach kws X.env)).any (·.1.isNone)) = false := by rfl) :
    PE X (.Call (.Name x p) [] kws pos) (tCallN 0 ks.length sp gV E tNil tk) := by
  refine ⟨fun pins s σ H Q I h => ?_⟩
  refine wpAny_Call_Name_kw (ld_glob I hg hm ?_ hdb)
  refine PySem.W.callWith_KW0 (h₀ := X.base) I.ok.mod.kin hk hall ?_ hpl
  refine thn (hkw.run pos pins s σ H _ I h) fun ws s2 ⟨zs, H2, I2, rz, _, l2, q2⟩ => ⟨I2.kIn, ?_⟩
  rw [hks]
  exact run_fnN F hr hb hx I2 .nil rz rfl l2 q2
end
/-! ### == and != of lists of own objects, whatever comes of it -/
set_option maxHeartbeats 8000000
section
open PySem.SeqAt GQ
open AutoSeq1 (wpAny_loadPart')
open MeetsSeq MeetsSeq2 MeetsSeq3 SeqRoads2
section
variable {prog : Program} {w : World} {A : Around} {R : Result → Shared → Prop}
/-- the lists at l and b are read anew at each turn, N items each; the first k are equal, and the k-th, where there is one, is not -/
def ListB (prog : Program) (w : World) (A : Around) (E : Value → Shared → Prop) (l b : Addr) (N k : Nat) (I : Nat → Shared → Prop) : Prop :=
  ∀ i s, I i s → ∃ (items items2 : Array Value) (n n2 : Nat), s.heap.get? l = some { cls := .type "list", data := .seq items n } ∧ s.heap.get? b = some { cls := .type "list", data := .seq items2 n2 } ∧ items.size = N ∧ items2.size = N ∧
    ∀ (h1 : i < items.size) (h2 : i < items2.size), i ≤ k → wpAny (model prog w) A.in1 (eqBool items[i] items2[i]) (fun r s' => r = decide (i < k) ∧ I (i + 1) s') E s
theorem b_loop (l b : Addr) (N k : Nat) (hk : k ≤ N) (I : Nat → Shared → Prop) (hl : ListB prog w A (fun e s' => R (.error e) s') l b N k I) (neg : Bool)
    (fin : ∀ i s, I i s → R (.ok (.ret (.bool (neg != decide (k = N))))) s) (m : Nat) :
    ∀ i : Nat, k - i = m → i ≤ k → ∀ s, I i s →
      wpAny (model prog w) A.in1 (Builtin.«list.__eq__.loop» ⟨[.ref l, .ref b, rawInt i, rawInt (if neg = true then 3 else 2)], []⟩) (FinOf prog w A R) (fun e s' => R (.error e) s') s := by
  induction m with
  | zero =>
    intro i hm hi s h
    obtain ⟨items, items2, n, n2, hl1, hb1, hs1, hs2, turn⟩ := hl _ _ h
    have hi' : i = k := by omega
    subst hi'
    by_cases c : i = N
    · have hR : R (.ok (.ret (.bool (neg != true)))) s := by have := fin _ s h; rw [decide_eq_true c] at this; exact this
      obtain ⟨hp, g, d, tk, os⟩ := s
      have hi1 : items[((i : Nat) : Int).toNat]? = none := by simp; omega
      have hi2 : items2[((i : Nat) : Int).toNat]? = none := by simp; omega
      cases neg with
      | true =>
        rw [if_pos rfl]
        wp_walk using wpAny_loadPart' hl1, wpAny_loadPart' hb1
        rw [hi1, hi2]
        wp_walk using wpAny_loadPart' hl1, wpAny_loadPart' hb1
        show R (.ok (.ret (.bool (items.size != items2.size)))) _
        rw [hs1, hs2]
        simpa using hR
      | false =>
        rw [if_neg (by decide)]
        wp_walk using wpAny_loadPart' hl1, wpAny_loadPart' hb1
        rw [hi1, hi2]
        wp_walk using wpAny_loadPart' hl1, wpAny_loadPart' hb1
        show R (.ok (.ret (.bool (items.size == items2.size)))) _
        rw [hs1, hs2]
        simpa using hR
    · have hlt : i < items.size := by omega
      have hlt2 : i < items2.size := by omega
      have ht := turn hlt hlt2 (Nat.le_refl _)
      rw [decide_eq_false (Nat.lt_irrefl i)] at ht
      have hi1 : items[((i : Nat) : Int).toNat]? = some items[i] := by simp [hlt]
      have hi2 : items2[((i : Nat) : Int).toNat]? = some items2[i] := by simp [hlt2]
      have after : ∀ s2, I (i + 1) s2 → ∃ (js js2 : Array Value) (n n2 : Nat) (x y : Value), s2.heap.get? l = some { cls := .type "list", data := .seq js n } ∧ s2.heap.get? b = some { cls := .type "list", data := .seq js2 n2 } ∧ js[((i : Nat) : Int).toNat]? = some x ∧ js2[((i : Nat) : Int).toNat]? = some y ∧ R (.ok (.ret (.bool (neg != false)))) s2 := by
        intro s2 h2
        obtain ⟨js, js2, n, n2, a1, a2, b1, b2, _⟩ := hl _ _ h2
        have hR := fin _ s2 h2
        rw [decide_eq_false c] at hR
        have z1 : i < js.size := by omega
        have z2 : i < js2.size := by omega
        exact ⟨js, js2, n, n2, js[i], js2[i], a1, a2, by simp [z1], by simp [z2], hR⟩
      obtain ⟨hp, g, d, tk, os⟩ := s
      cases neg with
      | true =>
        rw [if_pos rfl]
        wp_walk using wpAny_loadPart' hl1, wpAny_loadPart' hb1
        rw [hi1, hi2]
        refine wpAny_bind (wpAny_mono ht (fun r s2 h2 => ?_) fun _ _ x => x)
        obtain ⟨hr, h2⟩ := h2
        subst hr
        obtain ⟨js, js2, n, n2, x, y, a1, a2, e1, e2, hR⟩ := after _ h2
        obtain ⟨hp2, g2, d2, tk2, os2⟩ := s2
        wp_walk using wpAny_loadPart' a1, wpAny_loadPart' a2
        rw [e1, e2]
        wp_walk
        exact hR
      | false =>
        rw [if_neg (by decide)]
        wp_walk using wpAny_loadPart' hl1, wpAny_loadPart' hb1
        rw [hi1, hi2]
        refine wpAny_bind (wpAny_mono ht (fun r s2 h2 => ?_) fun _ _ x => x)
        obtain ⟨hr, h2⟩ := h2
        subst hr
        obtain ⟨js, js2, n, n2, x, y, a1, a2, e1, e2, hR⟩ := after _ h2
        obtain ⟨hp2, g2, d2, tk2, os2⟩ := s2
        wp_walk using wpAny_loadPart' a1, wpAny_loadPart' a2
        rw [e1, e2]
        wp_walk
        exact hR
  | succ m ih =>
    intro i hm hi s h
    obtain ⟨items, items2, n, n2, hl1, hb1, hs1, hs2, turn⟩ := hl _ _ h
    have hlt : i < items.size := by omega
    have hlt2 : i < items2.size := by omega
    have ht := turn hlt hlt2 hi
    rw [decide_eq_true (show i < k by omega)] at ht
    obtain ⟨hp, g, d, tk, os⟩ := s
    have hi1 : items[((i : Nat) : Int).toNat]? = some items[i] := by simp [hlt]
    have hi2 : items2[((i : Nat) : Int).toNat]? = some items2[i] := by simp [hlt2]
    have hc : ((i : Int) + 1) = ((i + 1 : Nat) : Int) := by omega
    cases neg with
    | true =>
      rw [if_pos rfl] at ih ⊢
      wp_walk using wpAny_loadPart' hl1, wpAny_loadPart' hb1
      rw [hi1, hi2]
      refine wpAny_bind (wpAny_mono ht (fun r s2 h2 => ?_) fun _ _ x => x)
      obtain ⟨hr, h2⟩ := h2
      subst hr
      have hrec := ih (i + 1) (by omega) (by omega) s2 h2
      obtain ⟨hp2, g2, d2, tk2, os2⟩ := s2
      wp_walk
      rw [hc]
      exact ⟨plainId_quiet plain_eq_loop _, codeAny_builtin entry_eq_loop (by
        rw [Around.under_plainId plain_eq_loop _]
        exact hrec)⟩
    | false =>
      rw [if_neg (by decide)] at ih ⊢
      wp_walk using wpAny_loadPart' hl1, wpAny_loadPart' hb1
      rw [hi1, hi2]
      refine wpAny_bind (wpAny_mono ht (fun r s2 h2 => ?_) fun _ _ x => x)
      obtain ⟨hr, h2⟩ := h2
      subst hr
      have hrec := ih (i + 1) (by omega) (by omega) s2 h2
      obtain ⟨hp2, g2, d2, tk2, os2⟩ := s2
      wp_walk
      rw [hc]
      exact ⟨plainId_quiet plain_eq_loop _, codeAny_builtin entry_eq_loop (by
        rw [Around.under_plainId plain_eq_loop _]
        exact hrec)⟩
end
section
variable {prog : Program} {w : World} {A : Around} {R : Result → Shared → Prop}
theorem list_eqB (neg : Bool) (l b : Addr) (N k : Nat) (hk : k ≤ N) (I : Nat → Shared → Prop) (hl : ListB prog w A (fun e s' => R (.error e) s') l b N k I)
    (fin : ∀ i s, I i s → R (.ok (.ret (.bool (neg != decide (k = N))))) s) {s : Shared} (h : I 0 s) :
    wpAny (model prog w) A.in1 ((if neg = true then Builtin.«list.__ne__» else Builtin.«list.__eq__») ⟨[.ref l, .ref b], []⟩) (FinOf prog w A R) (fun e s' => R (.error e) s') s := by
  obtain ⟨items, items2, n, n2, hl1, hb1, hs1, hs2, _⟩ := hl _ _ h
  have hrec := b_loop (A := A) (R := R) l b N k hk I hl neg fin _ 0 rfl (Nat.zero_le _) s h
  obtain ⟨hp, g, d, tk, os⟩ := s
  have f3 := AutoSeq1.sub_list_list
  have hne : ¬ (items.size != items2.size) = true := by simp [hs1, hs2]
  cases neg with
  | true =>
    rw [if_pos rfl] at hrec ⊢
    wp_walk using wpAny_loadPart' hl1, wpAny_loadPart' hb1
    exact ⟨plainId_quiet plain_eq_loop _, codeAny_builtin entry_eq_loop (by
      rw [Around.under_plainId plain_eq_loop _]
      exact hrec)⟩
  | false =>
    rw [if_neg (by decide)] at hrec ⊢
    wp_walk using wpAny_loadPart' hl1, wpAny_loadPart' hb1
    exact ⟨plainId_quiet plain_eq_loop _, codeAny_builtin entry_eq_loop (by
      rw [Around.under_plainId plain_eq_loop _]
      exact hrec)⟩
/-- lists of unlike lengths -/
theorem list_eqL (neg : Bool) (l b : Addr) {items items2 : Array Value} {n n2 : Nat} {s : Shared} (hl1 : s.heap.get? l = some { cls := .type "list", data := .seq items n }) (hb1 : s.heap.get? b = some { cls := .type "list", data := .seq items2 n2 }) (hne : (items.size != items2.size) = true)
    (fin : R (.ok (.ret (.bool neg))) s) :
    wpAny (model prog w) A.in1 ((if neg = true then Builtin.«list.__ne__» else Builtin.«list.__eq__») ⟨[.ref l, .ref b], []⟩) (FinOf prog w A R) (fun e s' => R (.error e) s') s := by
  obtain ⟨hp, g, d, tk, os⟩ := s
  have f3 := AutoSeq1.sub_list_list
  cases neg with
  | true =>
    rw [if_pos rfl]
    wp_walk using wpAny_loadPart' hl1, wpAny_loadPart' hb1
    exact fin
  | false =>
    rw [if_neg (by decide)]
    wp_walk using wpAny_loadPart' hl1, wpAny_loadPart' hb1
    exact fin
end
section
variable {prog : Program} {w : World} {A : Around} {E : Value → Shared → Prop} {s : Shared}
def opB (neg : Bool) : CmpOp := if neg = true then .NotEq else .Eq
theorem rc_listB (neg : Bool) {l b : Addr} {N k : Nat} {Q : Value → Shared → Prop} (hk : k ≤ N) (hu : A.units < cLine) (I : Nat → Shared → Prop) (hl : ListB prog w A E l b N k I)
    (fin : ∀ i s, I i s → Q (.bool (neg != decide (k = N))) s) (h : I 0 s) : wpAny (model prog w) A (richCompare (opB neg) (.ref l) (.ref b)) Q E s := by
  obtain ⟨items, items2, n, n2, hl1, hb1, _, _, _⟩ := hl _ _ h
  have z := list_eqB (prog := prog) (w := w) (A := A) (R := wants (fun v s' => v ≠ .notImplemented ∧ Q v s') E) neg l b N k hk I hl (fun i s' q => ⟨(fun x => nomatch x), fin i s' q⟩) h
  cases neg with
  | true => exact wpAny_richCompare_same_room (op := .NotEq) ⟨_, hl1, rfl⟩ ⟨_, hb1, rfl⟩ F.slot_list_ne (call_here F.slot_list_ne ⟨_, hl1, rfl⟩ F.entry_list_ne (F.args_list_ne_2 _ _) z) hu
  | false => exact wpAny_richCompare_same_room (op := .Eq) ⟨_, hl1, rfl⟩ ⟨_, hb1, rfl⟩ F.slot_list_eq (call_here F.slot_list_eq ⟨_, hl1, rfl⟩ F.entry_list_eq (F.args_list_eq_2 _ _) z) hu
theorem rc_listL (neg : Bool) {l b : Addr} {items items2 : Array Value} {n n2 : Nat} {Q : Value → Shared → Prop} (hu : A.units < cLine) (hl1 : s.heap.get? l = some { cls := .type "list", data := .seq items n }) (hb1 : s.heap.get? b = some { cls := .type "list", data := .seq items2 n2 }) (hne : (items.size != items2.size) = true)
    (fin : Q (.bool neg) s) : wpAny (model prog w) A (richCompare (opB neg) (.ref l) (.ref b)) Q E s := by
  have z := list_eqL (prog := prog) (w := w) (A := A) (R := wants (fun v s' => v ≠ .notImplemented ∧ Q v s') E) neg l b hl1 hb1 hne ⟨(fun x => nomatch x), fin⟩
  cases neg with
  | true => exact wpAny_richCompare_same_room (op := .NotEq) ⟨_, hl1, rfl⟩ ⟨_, hb1, rfl⟩ F.slot_list_ne (call_here F.slot_list_ne ⟨_, hl1, rfl⟩ F.entry_list_ne (F.args_list_ne_2 _ _) z) hu
  | false => exact wpAny_richCompare_same_room (op := .Eq) ⟨_, hl1, rfl⟩ ⟨_, hb1, rfl⟩ F.slot_list_eq (call_here F.slot_list_eq ⟨_, hl1, rfl⟩ F.entry_list_eq (F.args_list_eq_2 _ _) z) hu
end
end
section
open GQ
/-- how two values come out, by the abstract heap -/
abbrev EqvB := V → V → Bool → Hp → Prop
def MonB (D : EqvB) : Prop := ∀ x y b H H', Ext H H' → D x y b H → D x y b H'
def SelfB (D : EqvB) : Prop := ∀ x b H, D x x b H → b = true
def DqB (X : Cx) (n : Nat) (D : EqvB) : Prop :=
  ∀ (A : Around) (pins : List (Addr × Obj)) (s : Shared) (σ : L2.St) (H : Hp) (x y : V) (u v : Value) (b : Bool), Sub X n A → L2.Inv X pins σ H s → RelV x u → RelV y v → D x y b H →
    wpAny (model X.prog X.w) A (eqBool u v) (fun r s' => r = b ∧ ∃ H', L2.Inv X pins σ H' s' ∧ Ext H H') X.xe s
def DcB (X : Cx) (n : Nat) (op : CmpOp) (f : Bool → Bool) (D : EqvB) : Prop :=
  ∀ (A : Around) (pins : List (Addr × Obj)) (s : Shared) (σ : L2.St) (H : Hp) (x y : V) (u v : Value) (b : Bool), Sub X n A → L2.Inv X pins σ H s → RelV x u → RelV y v → D x y b H →
    wpAny (model X.prog X.w) A (richCompare op u v) (fun r s' => r = .bool (f b) ∧ ∃ H', L2.Inv X pins σ H' s' ∧ Ext H H') X.xe s
variable {X : Cx} {n m : Nat} {D D' : EqvB}
theorem DqB.mono (h : DqB X n D) (hn : n ≤ m) : DqB X m D := fun A pins s σ H x y u v b sb => h A pins s σ H x y u v b (sb.mono hn)
theorem DqB.or (h : DqB X n D) (h' : DqB X n D') : DqB X n (fun x y b H => D x y b H ∨ D' x y b H) := fun A pins s σ H x y u v b sb I rx ry d => by
  rcases d with d | d
  · exact h A pins s σ H x y u v b sb I rx ry d
  · exact h' A pins s σ H x y u v b sb I rx ry d
theorem DcB.dqB (h : DcB X n .Eq id D) (hr : ∀ x y b H, D x y b H → ∃ a c, x = .ref a ∧ y = .ref c) (hs : SelfB D) : DqB X n D := by
  intro A pins s σ H x y u v b sb I rx ry d
  obtain ⟨a, c, rfl, rfl⟩ := hr _ _ _ _ d
  cases rx
  cases ry
  by_cases hab : a = c
  · subst hab
    rw [hs _ _ _ d]
    exact SeqAt.EqAt.same (A := A) (s := s) (.ref a) X.prog X.w X.xe _ ⟨rfl, H, I, Ext.rfl'⟩
  · refine GQ.eqBool_refG hab (wpAny_mono (h A pins s σ H (.ref a) (.ref c) _ _ b sb I rfl rfl d) (fun r s' q => ?_) fun _ _ x => x)
    obtain ⟨hr', q⟩ := q
    exact ⟨b, hr', rfl, q⟩
/-- lists: of unlike lengths, or alike up to k, and unlike there -/
def PrsB (D : EqvB) (xs ys : List V) (b : Bool) (H : Hp) : Prop := (xs.length ≠ ys.length ∧ b = false) ∨
  (xs.length = ys.length ∧ ∃ k, k ≤ xs.length ∧ b = decide (k = xs.length) ∧ (∀ (i : Nat) x y, xs[i]? = some x → ys[i]? = some y → i ≤ k → D x y (decide (i < k)) H))
theorem PrsB.mon (hD : MonB D) {xs ys : List V} {b : Bool} {H H' : Hp} (e : Ext H H') (p : PrsB D xs ys b H) : PrsB D xs ys b H' := by
  rcases p with p | ⟨p, k, hk, hb, q⟩
  · exact .inl p
  · exact .inr ⟨p, k, hk, hb, fun i x y h1 h2 h3 => hD _ _ _ _ _ e (q i x y h1 h2 h3)⟩
def DListB (D : EqvB) : EqvB := fun x y b H => ∃ a c xs ys, x = .ref a ∧ y = .ref c ∧ H a = some (.lst xs) ∧ H c = some (.lst ys) ∧ PrsB D xs ys b H
theorem monB_list (hD : MonB D) : MonB (DListB D) := fun x y b H H' e d => by
  obtain ⟨a, c, xs, ys, hx, hy, h1, h2, p⟩ := d
  exact ⟨a, c, xs, ys, hx, hy, e _ _ h1, e _ _ h2, p.mon hD e⟩
theorem selfB_list (hs : SelfB D) : SelfB (DListB D) := fun x b H d => by
  obtain ⟨a, c, xs, ys, rfl, hy, h1, h2, p⟩ := d
  cases hy
  rw [h1] at h2
  cases h2
  rcases p with ⟨p, _⟩ | ⟨_, k, hk, hb, q⟩
  · exact absurd rfl p
  · rw [hb]
    by_cases c : k = xs.length
    · exact decide_eq_true c
    · have hlt : k < xs.length := by omega
      have := hs _ _ _ (q k _ _ (List.getElem?_eq_getElem hlt) (List.getElem?_eq_getElem hlt) (Nat.le_refl _))
      rw [decide_eq_false (Nat.lt_irrefl k)] at this
      cases this
theorem dcB_list (neg : Bool) (hD : MonB D) (h : DqB X n D) : DcB X (n + 1) (opB neg) (fun b => neg != b) (DListB D) := by
  intro A pins s σ H x y u v b sb I rx ry d
  obtain ⟨a, c, xs, ys, rfl, rfl, ha, hb, p⟩ := d
  cases rx
  cases ry
  rcases p with ⟨p, rfl⟩ | ⟨p, k, hk, rfl, q⟩
  · obtain ⟨z, its, k1, r, e⟩ := I.hok a _ ha
    obtain ⟨z2, its2, k2, r2, e2⟩ := I.hok c _ hb
    refine rc_listL neg sb.room.units0 e e2 ?_ ⟨by simp, H, I, Ext.rfl'⟩
    rw [List.size_toArray, List.size_toArray, ← r.length, ← r2.length]
    simpa using p
  · refine rc_listB neg (N := xs.length) (k := k) hk sb.room.units0 (fun _ s' => LoopI X pins σ H s') (fun i s' z => ?_) (fun i s' z => ⟨rfl, z⟩) ⟨H, I, Ext.rfl'⟩
    obtain ⟨H1, I1, e1⟩ := id z
    obtain ⟨z1, its, k1, r, e⟩ := I1.hok a _ (e1 _ _ ha)
    obtain ⟨z2, its2, k2, r2, e2⟩ := I1.hok c _ (e1 _ _ hb)
    refine ⟨its.toArray, its2.toArray, k1, k2, e, e2, by rw [List.size_toArray, ← r.length], by rw [List.size_toArray, ← r2.length, ← p], fun h1 h2 h3 => ?_⟩
    have g1 : its[i]? = some its.toArray[i] := by
      have h1' : i < its.length := by simpa using h1
      rw [List.getElem?_eq_getElem h1'] <;> simp
    have g2 : its2[i]? = some its2.toArray[i] := by
      have h2' : i < its2.length := by simpa using h2
      rw [List.getElem?_eq_getElem h2'] <;> simp
    have l1 : i < xs.length := by rw [r.length]; simpa using h1
    have l2 : i < ys.length := by rw [r2.length]; simpa using h2
    obtain ⟨u, hu, ru⟩ := r.get (List.getElem?_eq_getElem l1)
    obtain ⟨v, hv, rv⟩ := r2.get (List.getElem?_eq_getElem l2)
    rw [g1] at hu
    rw [g2] at hv
    rw [Option.some.inj hu, Option.some.inj hv]
    refine wpAny_mono (h A.in1 pins s' σ H1 _ _ u v _ sb.in1 I1 ru rv (hD _ _ _ _ _ e1 (q i _ _ (List.getElem?_eq_getElem l1) (List.getElem?_eq_getElem l2) h3))) (fun r s2 q => ?_) fun _ _ x => x
    obtain ⟨hr, H2, I2, e2⟩ := q
    exact ⟨hr, H2, I2, e1.trans e2⟩
theorem dqB_list (hD : MonB D) (hs : SelfB D) (h : DqB X n D) : DqB X (n + 1) (DListB D) := by
  have z := dcB_list false hD h
  refine DcB.dqB (D := DListB D) ?_ (fun _ _ _ _ d => let ⟨a, b, _, _, hx, hy, _⟩ := d; ⟨a, b, hx, hy⟩) (selfB_list hs)
  intro A pins s σ H x y u v b sb I rx ry d
  refine wpAny_mono (z A pins s σ H x y u v b sb I rx ry d) (fun r s' q => ?_) fun _ _ x => x
  obtain ⟨e, q⟩ := q
  refine ⟨e.trans ?_, q⟩
  cases b <;> rfl
/-- instances of the class at C with the text's own ==: what R says of the two -/
def DInsB (C : Addr) (R : Addr → Addr → Bool → Hp → Prop) : EqvB := fun x y b H => ∃ a c dx dy fs gs, x = .ref a ∧ y = .ref c ∧ H a = some (.ins C dx fs) ∧ H c = some (.ins C dy gs) ∧ R a c b H
theorem monB_ins {C : Addr} {R : Addr → Addr → Bool → Hp → Prop} (hR : ∀ a c b H H', Ext H H' → R a c b H → R a c b H') : MonB (DInsB C R) := fun x y b H H' e d => by
  obtain ⟨a, c, dx, dy, fs, gs, hx, hy, h1, h2, r⟩ := d
  exact ⟨a, c, dx, dy, fs, gs, hx, hy, e _ _ h1, e _ _ h2, hR a c b H H' e r⟩
/-- what the own == promises: sp tells, of two such, the truth b -/
theorem dcB_ins {CX : CXT} {C f : Addr} {fd : FuncData} {ps : List Str} {sp : Sp} {R : Addr → Addr → Bool → Hp → Prop} {E : XK} (F : FnOk X.prog X.w X.K X.mg X.base CX n f fd ps sp) (hsp : ∀ a c b H (Q : VK), R a c b H → (∀ H', Ext H H' → Q (.bl b) H') → sp [.ref a, .ref c] H Q E)
    (hs : PySem.W.findIn X.K (.ref C) "__eq__" = some (some (.ref f))) (hf : PySem.W.isFn X.K (.ref f) = true) (hb : L2.Binds X.K fd ps []) (hx : Passes CX X E) : DcB X n .Eq id (DInsB C R) := by
  intro A pins s σ H x y u v b sb I rx ry d
  obtain ⟨a, c, dx, dy, fs, gs, rfl, rfl, ha, hb', hr⟩ := d
  cases rx
  cases ry
  obtain ⟨mA, J, _⟩ := ins_get I.hok ha
  obtain ⟨mB, J', _⟩ := ins_get I.hok hb'
  obtain ⟨od, J, _⟩ := J.look
  obtain ⟨od', J', _⟩ := J'.look
  obtain ⟨m, hF⟩ := I.fr
  refine PySem.W.cmp_K (op := .Eq) (tb := .ref C) sb.room.units0 hF I.ok.mod.kin J J'.type (by simp [PySem.W.notFirst]) hs hf ?_
  have hsp2 : sp [.ref a, .ref c] H (fun v H' => v = .bl b ∧ Ext H H') E := hsp a c b H _ hr fun H' e => ⟨rfl, e⟩
  have e0 : Env0 X.prog X.w X.K X.mg X.base A X.stack s H := by
    have e := I.env0
    exact ⟨by rw [sb.fr]; exact e.frames, e.mod, e.bs, e.bsz, e.funs, e.frf, e.hok, e.bare⟩
  have hl := F.len _ _ _ _ hsp2
  have r2 : Vals [V.ref a, V.ref c] [Value.ref a, Value.ref c] := .cons rfl (.cons rfl .nil)
  refine wpAny_call (codeAny_mono (F.run A X.stack s H ⟨[.ref a, .ref c], []⟩ [.ref a, .ref c] [.ref a, .ref c] _ E sb.room e0 (by
    have := hb s [.ref a, .ref c] I.kIn (by simpa using hl)
    simpa using this) r2 hsp2) fun r s' hq => ?_)
  cases r with
  | error e => exact hx pins σ H s e s' I hq
  | ok fl =>
    cases fl with
    | ret w =>
      obtain ⟨z, H', I', rz, ez, ex⟩ := I.after hq
      subst ez
      cases rz
      exact ⟨rfl, H', I', ex⟩
    | next => exact False.elim hq
    | brk => exact False.elim hq
    | cont => exact False.elim hq
theorem dqB_ins {CX : CXT} {C f : Addr} {fd : FuncData} {ps : List Str} {sp : Sp} {R : Addr → Addr → Bool → Hp → Prop} {E : XK} (F : FnOk X.prog X.w X.K X.mg X.base CX n f fd ps sp) (hsp : ∀ a c b H (Q : VK), R a c b H → (∀ H', Ext H H' → Q (.bl b) H') → sp [.ref a, .ref c] H Q E)
    (hs : PySem.W.findIn X.K (.ref C) "__eq__" = some (some (.ref f))) (hf : PySem.W.isFn X.K (.ref f) = true) (hb : L2.Binds X.K fd ps []) (hx : Passes CX X E) (self : ∀ a b H, R a a b H → b = true) : DqB X n (DInsB C R) :=
  (dcB_ins F hsp hs hf hb hx).dqB (fun _ _ _ _ d => let ⟨a, b, _, _, _, _, hx, hy, _⟩ := d; ⟨a, b, hx, hy⟩) fun x b H d => by
    obtain ⟨a, c, _, _, _, _, rfl, hy, _, _, r⟩ := d
    cases hy
    exact self a b H r
/-- x == y, x != y as expressions -/
def rDqB (D : EqvB) (f : Bool → Bool) : R2 := fun x y H Q => ∃ b, D x y b H ∧ ∀ H', Ext H H' → Q (.bl (f b)) H'
theorem op_dqB (neg : Bool) (hD : MonB D) (h : DqB X n D) (hr : Room (n + 1) X.A) : OpR X (compareOp (opB neg)) (rDqB (DListB D) (fun b => neg != b)) := by
  intro pins s σ H x y v u Q I rx ry hq
  obtain ⟨b, d, q⟩ := hq
  have z := dcB_list neg hD h X.A pins s σ H x y v u b ⟨hr, rfl⟩ I rx ry d
  cases neg with
  | true =>
    show wpAny (model X.prog X.w) X.A (richCompare .NotEq v u) (EP X pins σ Q) X.xe s
    refine wpAny_mono z (fun r s' z => ?_) fun _ _ x => x
    obtain ⟨hr', H', I', e⟩ := z
    subst hr'
    exact ⟨.bl _, H', I', rfl, q H' e⟩
  | false =>
    show wpAny (model X.prog X.w) X.A (richCompare .Eq v u) (EP X pins σ Q) X.xe s
    refine wpAny_mono z (fun r s' z => ?_) fun _ _ x => x
    obtain ⟨hr', H', I', e⟩ := z
    subst hr'
    exact ⟨.bl _, H', I', rfl, q H' e⟩
end
/-! ### objects of an own class: their text, ==, !=, whatever stands at the right -/
section
variable {X : Cx} {CX : CXT} {C g : Addr} {n : Nat} {fd : FuncData} {ps : List Str} {sp : Sp} {E : XK}
/-- the callee runs, at whatever place below -/
theorem run_fnA {A : Around} {pins : List (Addr × Obj)} {σ : L2.St} {H : Hp} {s : Shared} {Q : VK} {us : List Value} {vs : List V} (F : FnOk X.prog X.w X.K X.mg X.base CX n g fd ps sp) (hr : Room n A) (e0 : A.frames = X.A.frames) (hb : L2.Binds X.K fd ps [])
    (hx : Passes CX X E) (I : L2.Inv X pins σ H s) (r : Vals vs us) (h : sp vs H Q E) : wpAny (model X.prog X.w) A (call (.ref g) us) (EP X pins σ Q) X.xe s := by
  have hl : (us ++ []).length = ps.length := by rw [List.append_nil, ← r.length]; exact F.len _ _ _ _ h
  have b := hb s us I.kIn hl
  rw [List.append_nil] at b
  have e := I.env0
  have e1 : Env0 X.prog X.w X.K X.mg X.base A X.stack s H := ⟨e0.trans e.frames, e.mod, e.bs, e.bsz, e.funs, e.frf, e.hok, e.bare⟩
  refine wpAny_call (codeAny_mono (F.run A X.stack s H ⟨us, []⟩ us vs Q E hr e1 b r h) fun r s' hq => ?_)
  cases r with
  | error e => exact hx pins σ H s e s' I hq
  | ok fl =>
    cases fl with
    | ret u => exact I.after hq
    | next => exact False.elim hq
    | brk => exact False.elim hq
    | cont => exact False.elim hq
theorem inst_of {pins : List (Addr × Obj)} {σ : L2.St} {H : Hp} {s : Shared} {a dx : Addr} {fs : List (Str × V)} (I : L2.Inv X pins σ H s) (h : H a = some (.ins C dx fs)) : ∃ od, PySem.W.InstAt s.heap a (instObj C dx) C (some od) := by
  obtain ⟨_, O1, _⟩ := ins_get I.hok h
  obtain ⟨od, J, _⟩ := O1.look
  exact ⟨od, J⟩
/-- one text comes back -/
def QStr (Q : VK) : VK := fun z H' => ∃ y : Str, z = .str y ∧ Q z H'
theorem strback {pins : List (Addr × Obj)} {σ : L2.St} {Q : VK} {v : Value} {s' : Shared} (h : EP X pins σ (QStr Q) v s') : StrBack (EP X pins σ Q) v s' := by
  obtain ⟨z, H', I', rz, y, rfl, q⟩ := h
  obtain ⟨t, rfl⟩ := (show ∃ t, v = Value.str y t from rz)
  exact ⟨.str y, H', I', ⟨t, rfl⟩, q⟩
def rOwn1 (C : Addr) (sp : Sp) (E : XK) (W : VK → VK) : List V → Hp → VK → Prop := fun xs H Q => ∃ a dx fs, xs = [V.ref a] ∧ H a = some (.ins C dx fs) ∧ sp [.ref a] H (W Q) E
/-- str(o), by o's own __str__ -/
theorem call_strOwn (hs : PySem.W.findIn X.K (.ref C) "__str__" = some (some (.ref g))) (hf : PySem.W.isFn X.K (.ref g) = true) (F : FnOk X.prog X.w X.K X.mg X.base CX n g fd ps sp) (hb : L2.Binds X.K fd ps [])
    (hr : Room (n + 2) X.A) (hx : Passes CX X E) : CallR X (.type "str") (rOwn1 C sp E QStr) := by
  intro pins s σ H vs us Q I r h
  obtain ⟨a, dx, fs, rfl, ha, q⟩ := h
  obtain ⟨u, rfl, ru⟩ := Vals.one r
  cases (show u = Value.ref a from ru)
  obtain ⟨od, J⟩ := inst_of I ha
  have hr2 : Room n X.A.in1.in1 := hr.in1.in1
  refine PySem.W.kso_call hr2.units0 I.kIn J hs hf ?_
  exact wpAny_mono (run_fnA (A := X.A.in1.in1) (us := [.ref a]) (vs := [.ref a]) F hr2 rfl hb hx I (.cons rfl .nil) q) (fun v s' z => strback z) fun _ _ x => x
/-- repr(o), by o's own __repr__ -/
theorem call_reprOwn (hs : PySem.W.findIn X.K (.ref C) "__repr__" = some (some (.ref g))) (hf : PySem.W.isFn X.K (.ref g) = true) (F : FnOk X.prog X.w X.K X.mg X.base CX n g fd ps sp) (hb : L2.Binds X.K fd ps [])
    (hr : Room (n + 1) X.A) (hx : Passes CX X E) : CallR X (.builtin "repr") (rOwn1 C sp E QStr) := by
  intro pins s σ H vs us Q I r h
  obtain ⟨a, dx, fs, rfl, ha, q⟩ := h
  obtain ⟨u, rfl, ru⟩ := Vals.one r
  cases (show u = Value.ref a from ru)
  obtain ⟨od, J⟩ := inst_of I ha
  have hr2 : Room n X.A.in1 := hr.in1
  obtain ⟨m, hF⟩ := I.fr
  refine PySem.W.repr_K hr2.units0 hF I.ok.mod.kin J hs hf ?_
  exact wpAny_mono (run_fnA (A := X.A.in1) (us := [.ref a]) (vs := [.ref a]) F hr2 rfl hb hx I (.cons rfl .nil) q) (fun v s' z => strback z) fun _ _ x => x
/-- o == y, by o's own __eq__, whatever y is -/
def rOwnY (K : PySem.W.Frag) (C : Addr) (sp : Sp) (E : XK) (W : VK → VK) : R2 := fun x y H Q => ∃ a dx fs t, x = .ref a ∧ H a = some (.ins C dx fs) ∧ TyX K H y t ∧ PySem.W.notFirst K C t = true ∧ sp [x, y] H (W Q) E
theorem op_eqY (hs : PySem.W.findIn X.K (.ref C) "__eq__" = some (some (.ref g))) (hf : PySem.W.isFn X.K (.ref g) = true) (F : FnOk X.prog X.w X.K X.mg X.base CX n g fd ps sp) (hb : L2.Binds X.K fd ps [])
    (hr : Room n X.A) (hx : Passes CX X E) : OpR X (compareOp .Eq) (rOwnY X.K C sp E id) := by
  intro pins s σ H x y v u Q I rx ry h
  obtain ⟨a, dx, fs, t, rfl, ha, ty, hn, q⟩ := h
  cases (show v = Value.ref a from rx)
  obtain ⟨od, J⟩ := inst_of I ha
  obtain ⟨P, Z, p, _⟩ := kit_of I ry ty
  obtain ⟨m, hF⟩ := I.fr
  show wpAny _ _ (richCompare .Eq _ _) _ _ _
  refine PySem.W.cmp_K (op := .Eq) (tb := t) hr.units0 hF I.ok.mod.kin J (Z.ty _ _ I.kIn p) hn hs hf ?_
  refine wpAny_mono (run_fnA (A := X.A) (us := [.ref a, u]) (vs := [.ref a, y]) F hr rfl hb hx I (.cons rfl (.cons ry .nil)) q) (fun w s' z => ?_) fun _ _ x => x
  obtain ⟨z', H', I', rz, qz⟩ := z
  exact SlX.cmpback rz ⟨z', H', I', rz, qz⟩
end
section
variable {prog : Program} {w : World} {A : Around} {E : Value → Shared → Prop} {s : Shared} {K : PySem.W.Frag} {x C f : Addr} {ox : Obj} {od : Option Obj} {b tb : Value}
open PySem.Builtin in
/-- a special method that is a built-in's, where it may be left unbound -/
theorem ifBoundB {name : Str} {id : String} {args : List Value} {Q : Option Value → Shared → Prop} (X : K.In s.heap) (I : PySem.W.InstAt s.heap x ox C od) (hs : PySem.W.findIn K (.ref C) name = some (some (.builtin id)))
    (hb : ∀ self, bindSpecial (.builtin id) self = pure (.builtin id, [self])) (h : wpAny (model prog w) A (call (.builtin id) (.ref x :: args)) (fun v => Q (some v)) E s) : wpAny (model prog w) A (callSpecialIfBound? (.ref x) name args) Q E s := by
  simp only [callSpecialIfBound?, bindSpecialIfBound?]
  refine wpAny_holding (wpAny_bind (wpAny_bind (wpAny_bind (I.type.here ((looks_findIn X hs).here ?_)))))
  refine wpAny_bind (wpAny_askSetting (wpAny_ite ?_))
  have fin : wpAny (model prog w) A (call (.builtin id) ([.ref x] ++ args) >>= fun v => pure (some v)) Q E s := wpAny_bind (wpAny_mono h (fun v s' h' => wpAny_pure h') fun _ _ h' => h')
  split
  · exact wpAny_bind ((Looks.of_pure (hb _)).here (wpAny_pure (by exact fin)))
  · exact wpAny_tryCatch (wpAny_bind ((Looks.of_pure (hb _)).here (wpAny_pure (by exact fin))))
open PySem.Builtin in
theorem objNe {Q : Value → Shared → Prop} (hu : A.in1.units < cLine) (X : K.In s.heap) (I : PySem.W.InstAt s.heap x ox C od) (hm : PySem.W.mroIn K C (.type "object") = some true) (hs : PySem.W.findIn K (.ref C) "__eq__" = some (some (.ref f))) (hf : PySem.W.isFn K (.ref f) = true)
    (h : wpAny (model prog w) A.in1 (call (.ref f) [.ref x, b]) (fun v s' => ∃ k, v = .bool k ∧ Q (.bool (!k)) s') E s) : wpAny (model prog w) A (call (.builtin "object.__ne__") [.ref x, b]) Q E s := by
  refine wpAny_call (codeAny_call_builtin (by decide +kernel) PySem.F.cmpEntry_ne (check_slot (i := "object.__ne__") (owner := "object") (n := "__ne__") (by decide +kernel) (by decide +kernel) (I.type.andThen (looks_mroIn X hm)) (PySem.F.cmpArgs_ne _ _) ?_))
  unfold Builtin.«object.__ne__»
  refine wpAny_bind (m := slotArgs "__ne__" 1 _) (wpAny_pure ?_)
  refine wpAny_bind (m := cRoomFor _ _) (wpAny_cRoomFor hu ?_)
  refine wpAny_bind (m := callSpecialIfBound? (.ref x) (Str.ofString "__eq__") _) (ifBound_K X I hs hf (wpAny_mono h (fun r s' hq => ?_) fun _ _ y => y))
  obtain ⟨k, rfl, hq⟩ := hq
  exact wpAny_bind (wpAny_truthy_bool (wpAny_pure hq))
/-- o != y, where the class says == alone -/
theorem ne_K {Q : Value → Shared → Prop} (hu : A.in1.units < cLine) (hu0 : A.units < cLine) (X : K.In s.heap) (I : PySem.W.InstAt s.heap x ox C od) (hb : Looks (model prog w) s.heap (typeOf b) tb) (hn : PySem.W.notFirst K C tb = true)
    (hm : PySem.W.mroIn K C (.type "object") = some true) (hne : PySem.W.findIn K (.ref C) "__ne__" = some (some (.builtin "object.__ne__"))) (hs : PySem.W.findIn K (.ref C) "__eq__" = some (some (.ref f))) (hf : PySem.W.isFn K (.ref f) = true)
    (h : wpAny (model prog w) A.in1 (call (.ref f) [.ref x, b]) (fun v s' => ∃ k, v = .bool k ∧ Q (.bool (!k)) s') E s) : wpAny (model prog w) A (richCompare .NotEq (.ref x) b) Q E s := by
  have one : wpAny (model prog w) A (tryCompare (.ref x) "__ne__" b) (fun r s' => ∃ v, r = some v ∧ Q v s') E s := by
    unfold tryCompare
    refine wpAny_bind (ifBoundB X I hne (by intro self; rfl) (objNe hu X I hm hs hf (wpAny_mono h (fun v s' hv => ?_) fun _ _ e => e)))
    obtain ⟨k, rfl, q⟩ := hv
    exact ⟨k, rfl, wpAny_pure ⟨_, rfl, q⟩⟩
  unfold richCompare
  simp only [oneThing_ref]
  refine wpAny_holding (wpAny_bind (wpAny_cRoomFor hu0 ?_))
  refine wpAny_bind (I.type.here (wpAny_bind (hb.here ?_)))
  split
  · rename_i q
    have e : PySem.W.subIn K tb (.ref C) = some false := by
      rcases Bool.or_eq_true_iff.mp hn with e | e
      · rw [beq_iff_eq.mp e] at q; simp at q
      · exact beq_iff_eq.mp e
    refine wpAny_bind ((looks_subIn X e).here ?_)
    simp only [Bool.false_eq_true, if_false]
    refine wpAny_bind (wpAny_mono one (fun r s' z => ?_) fun _ _ e => e)
    obtain ⟨v, rfl, hq⟩ := z
    exact wpAny_pure hq
  · refine wpAny_bind (wpAny_pure ?_)
    simp only [Bool.false_eq_true, if_false]
    refine wpAny_bind (wpAny_mono one (fun r s' z => ?_) fun _ _ e => e)
    obtain ⟨v, rfl, hq⟩ := z
    exact wpAny_pure hq
end
section
variable {X : Cx} {CX : CXT} {C g : Addr} {n : Nat} {fd : FuncData} {ps : List Str} {sp : Sp} {E : XK}
def QNot (Q : VK) : VK := fun z H' => ∃ k : Bool, z = .bl k ∧ Q (.bl (!k)) H'
theorem op_neY (hs : PySem.W.findIn X.K (.ref C) "__eq__" = some (some (.ref g))) (hf : PySem.W.isFn X.K (.ref g) = true) (hm : PySem.W.mroIn X.K C (.type "object") = some true) (hne : PySem.W.findIn X.K (.ref C) "__ne__" = some (some (.builtin "object.__ne__")))
    (F : FnOk X.prog X.w X.K X.mg X.base CX n g fd ps sp) (hb : L2.Binds X.K fd ps []) (hr : Room (n + 1) X.A) (hx : Passes CX X E) : OpR X (compareOp .NotEq) (rOwnY X.K C sp E QNot) := by
  intro pins s σ H x y v u Q I rx ry h
  obtain ⟨a, dx, fs, t, rfl, ha, ty, hn, q⟩ := h
  cases (show v = Value.ref a from rx)
  obtain ⟨od, J⟩ := inst_of I ha
  obtain ⟨P, Z, p, _⟩ := kit_of I ry ty
  show wpAny _ _ (richCompare .NotEq _ _) _ _ _
  have hr2 : Room n X.A.in1 := hr.in1
  refine ne_K (tb := t) hr2.units0 hr.units0 I.kIn J (Z.ty _ _ I.kIn p) hn hm hne hs hf ?_
  refine wpAny_mono (run_fnA (A := X.A.in1) (us := [.ref a, u]) (vs := [.ref a, y]) F hr2 rfl hb hx I (.cons rfl (.cons ry .nil)) q) (fun w s' z => ?_) fun _ _ x => x
  obtain ⟨z', H', I', rz, k, rfl, qz⟩ := z
  cases (show w = Value.bool k from rz)
  exact ⟨k, rfl, .bl (!k), H', I', rfl, qz⟩
end
/-! ### == with the object at the right: the left one's kind declines, the object's own is asked -/
section
variable {prog : Program} {w : World} {A : Around} {E : Value → Shared → Prop} {s : Shared} {K : PySem.W.Frag} {x C f : Addr} {dx : Addr} {od : Option Obj}
open PySem.Builtin
theorem int_decl (b : Int) (u : Tok) : Meets (Builtin.«int.__eq__» ⟨[.int b u, .ref x], []⟩) (fun _ R s => s.heap.get? x = some (instObj C dx) ∧ R (.ok (.ret .notImplemented)) s) :=
  .of_wp fun prog w A R s h => by obtain ⟨hp, g, d, tk, os⟩ := s; obtain ⟨hl, h⟩ := h; wp_walk using AutoSeq1.wpAny_loadPart' hl, wpAny_load hl; exact ⟨_, rfl, h⟩
theorem str_decl (b : Str) (u : Tok) : Meets (Builtin.«str.__eq__» ⟨[.str b u, .ref x], []⟩) (fun _ R s => s.heap.get? x = some (instObj C dx) ∧ R (.ok (.ret .notImplemented)) s) :=
  .of_wp fun prog w A R s h => by obtain ⟨hp, g, d, tk, os⟩ := s; obtain ⟨hl, h⟩ := h; wp_walk using AutoSeq1.wpAny_loadPart' hl, wpAny_load hl; exact ⟨_, rfl, h⟩
theorem none_decl : Meets (Builtin.«NoneType.__eq__» ⟨[.none, .ref x], []⟩) (fun _ R s => s.heap.get? x = some (instObj C dx) ∧ R (.ok (.ret .notImplemented)) s) :=
  .of_wp fun prog w A R s h => by obtain ⟨hp, g, d, tk, os⟩ := s; obtain ⟨hl, h⟩ := h; wp_walk; exact ⟨_, rfl, h⟩
theorem list_decl {l : Addr} {Q : Fin → Shared → Prop} (hi : Looks (model prog w) s.heap (isInstance (.ref x) (.type "list")) false) (h : Q (.done (.ret .notImplemented)) s) :
    wpAny (model prog w) A (Builtin.«list.__eq__» ⟨[.ref l, .ref x], []⟩) Q E s := by
  refine wpAny_bind (m := slotArgs "__eq__" 1 _) (wpAny_pure ?_)
  refine wpAny_bind (hi.here ?_)
  exact wpAny_pure h
theorem tuple_decl {l : Addr} {Q : Fin → Shared → Prop} (hi : Looks (model prog w) s.heap (isInstance (.ref x) (.type "tuple")) false) (h : Q (.done (.ret .notImplemented)) s) :
    wpAny (model prog w) A (Builtin.«tuple.__eq__» ⟨[.ref l, .ref x], []⟩) Q E s := by
  refine wpAny_bind (m := slotArgs "__eq__" 1 _) (wpAny_pure ?_)
  refine wpAny_bind (hi.here ?_)
  exact wpAny_pure h
/-- the left one declines -/
def Declines (prog : Program) (w : World) (A : Around) (E : Value → Shared → Prop) (a b : Value) (s : Shared) : Prop :=
  ∀ Q : Option Value → Shared → Prop, Q none s → wpAny (model prog w) A (tryCompare a "__eq__" b) Q E s
theorem decl_of {T id : String} {B : Builtin} {a b : Value} (hT : s.TypeIs a T) (slot : Slot T (cmpInfo .Eq).2.1 id) (entry : entryFor table id = some B) (args : argsOk id ⟨[a, b], []⟩)
    (h : ∀ Q : Fin → Shared → Prop, Q (.done (.ret .notImplemented)) s → wpAny (model prog w) A.in1 (B ⟨[a, b], []⟩) Q E s) : Declines prog w A E a b s := fun Q q =>
  wpAny_tryCompare_declines hT slot (GQ.call_here slot hT entry args (h _ ⟨rfl, q⟩))
theorem decl_ofM {T id : String} {B : Builtin} {a b : Value} {P : Shared → Prop} (hT : s.TypeIs a T) (slot : Slot T (cmpInfo .Eq).2.1 id) (entry : entryFor table id = some B) (args : argsOk id ⟨[a, b], []⟩)
    (m : Meets (B ⟨[a, b], []⟩) (fun _ R s => P s ∧ R (.ok (.ret .notImplemented)) s)) (hP : P s) : Declines prog w A E a b s := fun Q q =>
  wpAny_tryCompare_declines hT slot (GQ.call_here slot hT entry args (m prog w A (wants (fun v s' => v = .notImplemented ∧ Q none s') E) s ⟨hP, rfl, q⟩))
theorem refl_K {a ta : Value} {T : String} {Q : Value → Shared → Prop} (hu : A.units < cLine) (X : K.In s.heap) (I : PySem.W.InstAt s.heap x (instObj C dx) C od) (hT : s.TypeIs a T) (hsub : PySem.W.subIn K (.ref C) (.type T) = some false)
    (d : Declines prog w A E a (.ref x) s) (hs : PySem.W.findIn K (.ref C) "__eq__" = some (some (.ref f))) (hf : PySem.W.isFn K (.ref f) = true)
    (h : wpAny (model prog w) A (call (.ref f) [.ref x, a]) (PySem.W.CmpBack Q) E s) : wpAny (model prog w) A (richCompare .Eq a (.ref x)) Q E s := by
  have one : wpAny (model prog w) A (tryCompare (.ref x) "__eq__" a) (fun r s' => ∃ v, r = some v ∧ Q v s') E s := by
    unfold tryCompare
    refine wpAny_bind (ifBound_K X I hs hf (wpAny_mono h (fun v s' hv => ?_) fun _ _ e => e))
    cases v <;> first | exact hv.elim | exact wpAny_pure ⟨_, rfl, hv⟩
  simp only [richCompare, cmpInfo, hT.oneThing_none]
  try with_reducible refine wpAny_holding ?_
  refine wpAny_bind (wpAny_cRoomFor hu ?_)
  refine wpAny_bind (wpAny_typeOf hT (wpAny_bind (I.type.here ?_)))
  rw [show (Value.type T != Value.ref C) = true from rfl]
  simp only [if_true]
  refine wpAny_bind ((looks_subIn X hsub).here ?_)
  simp only [Bool.false_eq_true, if_false, Bool.not_false, if_true]
  refine wpAny_bind (m := tryCompare a _ _) (d _ ?_)
  refine wpAny_bind (m := tryCompare (.ref x) _ _) (wpAny_mono one (fun r s' z => ?_) fun _ _ e => e)
  obtain ⟨v, rfl, hq⟩ := z
  exact wpAny_pure hq
end
section
variable {prog : Program} {w : World} {A : Around} {E : Value → Shared → Prop} {s : Shared} {x : Addr}
open PySem.Builtin
theorem dict_decl {l : Addr} {Q : Fin → Shared → Prop} (hi : Looks (model prog w) s.heap (isInstance (.ref x) (.type "dict")) false) (h : Q (.done (.ret .notImplemented)) s) :
    wpAny (model prog w) A (Builtin.«dict.__eq__» ⟨[.ref l, .ref x], []⟩) Q E s := by
  refine wpAny_bind (m := Dict.dictSlotArgs "__eq__" _) (wpAny_pure ?_)
  refine wpAny_bind (hi.here ?_)
  exact wpAny_bind (wpAny_rule (wpAny_pure h))
end
section
variable {X : Cx} {CX : CXT} {C g : Addr} {n : Nat} {fd : FuncData} {ps : List Str} {sp : Sp} {E : XK}
/-- what may stand at the left of such an object -/
inductive LeftOk (H : Hp) : V → Prop where
  | non : LeftOk H .non
  | int (i : Int) : LeftOk H (.int i)
  | str (z : Str) : LeftOk H (.str z)
  | lst {p : Addr} {xs : List V} (h : H p = some (.lst xs)) : LeftOk H (.ref p)
  | tup {p : Addr} {xs : List V} (h : H p = some (.tup xs)) : LeftOk H (.ref p)
  | dK {p : Addr} {kvs : List (Key × V)} (h : H p = some (.dK kvs)) : LeftOk H (.ref p)
/-- the class is under none of Python's -/
structure NotSub (K : PySem.W.Frag) (C : Addr) : Prop where
  non : PySem.W.subIn K (.ref C) (.type "NoneType") = some false
  int : PySem.W.subIn K (.ref C) (.type "int") = some false
  str : PySem.W.subIn K (.ref C) (.type "str") = some false
  lst : PySem.W.subIn K (.ref C) (.type "list") = some false
  tup : PySem.W.subIn K (.ref C) (.type "tuple") = some false
  dct : PySem.W.subIn K (.ref C) (.type "dict") = some false
def rOwnR (C : Addr) (sp : Sp) (E : XK) : R2 := fun x y H Q => ∃ a dx fs, y = .ref a ∧ H a = some (.ins C dx fs) ∧ LeftOk H x ∧ sp [y, x] H Q E
theorem op_eqR (hs : PySem.W.findIn X.K (.ref C) "__eq__" = some (some (.ref g))) (hf : PySem.W.isFn X.K (.ref g) = true) (N : NotSub X.K C) (G : FnOk X.prog X.w X.K X.mg X.base CX n g fd ps sp) (hb : L2.Binds X.K fd ps [])
    (hr : Room n X.A) (hx : Passes CX X E) : OpR X (compareOp .Eq) (rOwnR C sp E) := by
  intro pins s σ H x y v u Q I rx ry h
  obtain ⟨a, dx, fs, rfl, ha, lo, q⟩ := h
  cases (show u = Value.ref a from ry)
  obtain ⟨od, J⟩ := inst_of I ha
  have hx0 : s.heap.get? a = some (instObj C dx) := J.at_
  show wpAny _ _ (richCompare .Eq _ _) _ _ _
  have fin : wpAny (model X.prog X.w) X.A (call (.ref g) [.ref a, v]) (PySem.W.CmpBack (EP X pins σ Q)) X.xe s :=
    wpAny_mono (run_fnA (A := X.A) (us := [.ref a, v]) (vs := [.ref a, x]) G hr rfl hb hx I (.cons rfl (.cons rx .nil)) q) (fun w s' z => by obtain ⟨z', H', I', rz, qz⟩ := z; exact SlX.cmpback rz ⟨z', H', I', rz, qz⟩) fun _ _ x => x
  have isI : ∀ T : String, PySem.W.subIn X.K (.ref C) (.type T) = some false → Looks (model X.prog X.w) s.heap (isInstance (.ref a) (.type T)) false := fun T e => J.type.andThen (looks_subIn I.kIn e)
  cases lo with
  | non =>
    cases (show v = Value.none from rx)
    exact refl_K (T := "NoneType") (ta := .none) hr.units0 I.kIn J rfl N.non (decl_ofM rfl F.slot_NoneType_eq F.entry_NoneType_eq (F.args_NoneType_eq_2 _ _) none_decl hx0) hs hf fin
  | int i =>
    obtain ⟨t, rfl⟩ := (show ∃ t, v = Value.int i t from rx)
    exact refl_K (T := "int") (ta := .none) hr.units0 I.kIn J (typeIs_int _ _ _) N.int (decl_ofM (typeIs_int _ _ _) F.slot_int_eq F.entry_int_eq (F.args_int_eq_2 _ _) (int_decl _ _) hx0) hs hf fin
  | str z =>
    obtain ⟨t, rfl⟩ := (show ∃ t, v = Value.str z t from rx)
    exact refl_K (T := "str") (ta := .none) hr.units0 I.kIn J (typeIs_str _ _ _) N.str (decl_ofM (typeIs_str _ _ _) F.slot_str_eq F.entry_str_eq (F.args_str_eq_2 _ _) (str_decl _ _) hx0) hs hf fin
  | @lst p xs h =>
    cases (show v = Value.ref p from rx)
    obtain ⟨_, its, k, _, hp⟩ := (show ObjOk X.prog X.w H s.heap p (.lst xs) from I.hok p _ h)
    have hT : s.TypeIs (.ref p) "list" := ⟨_, hp, rfl⟩
    exact refl_K (T := "list") (ta := .none) hr.units0 I.kIn J hT N.lst (decl_of hT F.slot_list_eq F.entry_list_eq (F.args_list_eq_2 _ _) fun Q' q' => list_decl (isI _ N.lst) q') hs hf fin
  | @tup p xs h =>
    cases (show v = Value.ref p from rx)
    obtain ⟨_, its, _, o, h1, h2, _⟩ := (show ObjOk X.prog X.w H s.heap p (.tup xs) from I.hok p _ h)
    have hT : s.TypeIs (.ref p) "tuple" := ⟨_, h1, h2⟩
    exact refl_K (T := "tuple") (ta := .none) hr.units0 I.kIn J hT N.tup (decl_of hT F.slot_tuple_eq F.entry_tuple_eq (F.args_tuple_eq_2 _ _) fun Q' q' => tuple_decl (isI _ N.tup) q') hs hf fin
  | @dK p kvs h =>
    cases (show v = Value.ref p from rx)
    obtain ⟨_, _, vs, _, o, es, ep, h1, h2, _⟩ := (show ObjOk X.prog X.w H s.heap p (.dK kvs) from I.hok p _ h)
    have hT : s.TypeIs (.ref p) "dict" := ⟨_, h1, h2.1⟩
    exact refl_K (T := "dict") (ta := .none) hr.units0 I.kIn J hT N.dct (decl_of hT F.slot_dict_eq F.entry_dict_eq (F.args_dict_eq_2 _ _) fun Q' q' => dict_decl (isI _ N.dct) q') hs hf fin
end
/-! ### in, count, index over a list, each == by the object's own -/
section
open SeqAt AutoSeq1 MeetsSeq MeetsSeq2 MeetsSeq3 SeqRoads2
open PySem.Builtin
variable {prog : Program} {w : World} {A : Around} {R : Result → Shared → Prop}
/-- at each turn the list is read anew, the turn's == gives bs i -/
def LoopB (prog : Program) (w : World) (A : Around) (E : Value → Shared → Prop) (l : Addr) (x : Value) (N : Nat) (bs : Nat → Bool) (I : Nat → Shared → Prop) : Prop :=
  ∀ i s, I i s → ∃ (items : Array Value) (n : Nat), s.heap.get? l = some { cls := .type "list", data := .seq items n } ∧ items.size = N ∧
    ∀ (h1 : i < items.size), wpAny (model prog w) A.in1 (eqBool items[i] x) (fun r s' => r = bs i ∧ I (i + 1) s') E s
def cntB (bs : Nat → Bool) : Nat → Nat → Int
  | 0, _ => 0
  | k + 1, i => (if bs i then 1 else 0) + cntB bs k (i + 1)
theorem count_loopG (l : Addr) (x : Value) (N : Nat) (bs : Nat → Bool) (I : Nat → Shared → Prop) (hl : LoopB prog w A (fun e s' => R (.error e) s') l x N bs I) (k : Nat) :
    ∀ (i : Nat) (found : Int), N - i = k → i ≤ N → ∀ s, I i s → (∀ s, I N s → R (.ok (.ret (.int (found + cntB bs k i) s.toks))) { s with toks := s.toks + 1 }) →
      wpAny (model prog w) A.in1 (Builtin.«list.count.loop» ⟨[.ref l, x, rawInt i, rawInt found], []⟩) (GQ.FinOf prog w A R) (fun e s' => R (.error e) s') s := by
  induction k with
  | zero =>
    intro i found hk hi s h fin
    obtain ⟨items, n, hl1, hs1, _⟩ := hl _ _ h
    have hi' : i = N := by omega
    have hR := fin s (hi' ▸ h)
    obtain ⟨hp, g, d, tk, os⟩ := s
    wp_walk using wpAny_loadPart' hl1
    have hi1 : items[((i : Nat) : Int).toNat]? = none := by simp; omega
    rw [hi1]
    wp_walk
    have e0 : found + cntB bs 0 i = found := by show found + 0 = found; omega
    rw [e0] at hR
    exact hR
  | succ k ih =>
    intro i found hk hi s h fin
    obtain ⟨items, n, hl1, hs1, turn⟩ := hl _ _ h
    have hlt : i < items.size := by omega
    have ht := turn hlt
    obtain ⟨hp, g, d, tk, os⟩ := s
    wp_walk using wpAny_loadPart' hl1
    have hi1 : items[((i : Nat) : Int).toNat]? = some items[i] := by simp [hlt]
    have hc : ((i : Int) + 1) = ((i + 1 : Nat) : Int) := by omega
    rw [hi1]
    refine wpAny_bind (wpAny_mono ht (fun r s2 h2 => ?_) fun _ _ x => x)
    obtain ⟨hr, h2⟩ := h2
    subst hr
    have e1 : (if bs i = true then found + 1 else found) + cntB bs k (i + 1) = found + cntB bs (k + 1) i := by
      show _ = found + ((if bs i then 1 else 0) + cntB bs k (i + 1))
      cases bs i <;> simp <;> omega
    have hrec := ih (i + 1) (if bs i = true then found + 1 else found) (by omega) (by omega) s2 h2 (fun s q => by rw [e1]; exact fin s q)
    obtain ⟨hp2, g2, d2, tk2, os2⟩ := s2
    wp_walk
    rw [hc]
    refine ⟨plainId_quiet plain_count_loop _, codeAny_builtin entry_count_loop (by
      rw [Around.under_plainId plain_count_loop _]

      exact hrec)⟩
end
section
open SeqAt AutoSeq1 MeetsSeq MeetsSeq2 MeetsSeq3 SeqRoads2
open PySem.Builtin
variable {prog : Program} {w : World} {A : Around} {R : Result → Shared → Prop}
theorem list_countG (l : Addr) (x : Value) (N : Nat) (bs : Nat → Bool) (I : Nat → Shared → Prop) (hl : LoopB prog w A (fun e s' => R (.error e) s') l x N bs I) {s : Shared} (h : I 0 s)
    (fin : ∀ s, I N s → R (.ok (.ret (.int (cntB bs N 0) s.toks))) { s with toks := s.toks + 1 }) :
    wpAny (model prog w) A.in1 (Builtin.«list.count» ⟨[.ref l, x], []⟩) (GQ.FinOf prog w A R) (fun e s' => R (.error e) s') s := by
  obtain ⟨items, n, hl1, hs1, _⟩ := hl _ _ h
  have hrec := count_loopG (A := A) (R := R) l x N bs I hl N 0 0 rfl (Nat.zero_le _) s h (fun s q => by rw [Int.zero_add]; exact fin s q)
  obtain ⟨hp, g, d, tk, os⟩ := s
  wp_walk using wpAny_loadPart' hl1
  exact ⟨plainId_quiet plain_count_loop _, codeAny_builtin entry_count_loop (by
    rw [Around.under_plainId plain_count_loop _]
    exact hrec)⟩
theorem index_loopG (l : Addr) (x : Value) (N : Nat) (bs : Nat → Bool) (I : Nat → Shared → Prop) (hl : LoopB prog w A (fun e s' => R (.error e) s') l x N bs I) (upto : Int) (j : Nat) (hj : j < N) (hupto : (j : Int) < upto) (hit : bs j = true)
    (fin : ∀ s, I (j + 1) s → R (.ok (.ret (.int j s.toks))) { s with toks := s.toks + 1 }) (k : Nat) :
    ∀ i : Nat, j - i = k → i ≤ j → (∀ m, i ≤ m → m < j → bs m = false) → ∀ s, I i s →
      wpAny (model prog w) A.in1 (Builtin.«list.index.loop» ⟨[.ref l, x, rawInt i, rawInt upto], []⟩) (GQ.FinOf prog w A R) (fun e s' => R (.error e) s') s := by
  induction k with
  | zero =>
    intro i hk hij hno s h
    have hij' : i = j := by omega
    subst hij'
    obtain ⟨items, n, hl1, hs1, turn⟩ := hl _ _ h
    have hlt : i < items.size := by omega
    have ht := turn hlt
    obtain ⟨hp, g, d, tk, os⟩ := s
    wp_walk using wpAny_loadPart' hl1
    have hi : (if (i : Int) < upto then items[((i : Nat) : Int).toNat]? else none) = some items[i] := by simp [hupto, hlt]
    rw [hi]
    refine wpAny_bind (wpAny_mono ht (fun r s2 h2 => ?_) fun _ _ x => x)
    obtain ⟨hr, h2⟩ := h2
    subst hr
    rw [hit]
    have hR := fin s2 h2
    obtain ⟨hp2, g2, d2, tk2, os2⟩ := s2
    wp_walk
    exact hR
  | succ k ih =>
    intro i hk hij hno s h
    obtain ⟨items, n, hl1, hs1, turn⟩ := hl _ _ h
    have hlt : i < items.size := by omega
    have hst : (i : Int) < upto := by omega
    have ht := turn hlt
    obtain ⟨hp, g, d, tk, os⟩ := s
    wp_walk using wpAny_loadPart' hl1
    have hi : (if (i : Int) < upto then items[((i : Nat) : Int).toNat]? else none) = some items[i] := by simp [hst, hlt]
    have hc : ((i : Int) + 1) = ((i + 1 : Nat) : Int) := by omega
    rw [hi]
    refine wpAny_bind (wpAny_mono ht (fun r s2 h2 => ?_) fun _ _ x => x)
    obtain ⟨hr, h2⟩ := h2
    subst hr
    rw [hno i (Nat.le_refl _) (by omega)]
    have hrec := ih (i + 1) (by omega) (by omega) (fun m h1 h2 => hno m (by omega) h2) s2 h2
    obtain ⟨hp2, g2, d2, tk2, os2⟩ := s2
    wp_walk
    rw [hc]
    exact ⟨plainId_quiet plain_index_loop _, codeAny_builtin entry_index_loop (by
      rw [Around.under_plainId plain_index_loop _]
      exact hrec)⟩
theorem list_indexG (l : Addr) (x : Value) (N : Nat) (bs : Nat → Bool) (I : Nat → Shared → Prop) (hl : LoopB prog w A (fun e s' => R (.error e) s') l x N bs I) (j : Nat) (hj : j < N) (hsmall : (j : Int) < 2 ^ 63 - 1) (hit : bs j = true) (hno : ∀ m, m < j → bs m = false)
    (fin : ∀ s, I (j + 1) s → R (.ok (.ret (.int j s.toks))) { s with toks := s.toks + 1 }) {s : Shared} (h : I 0 s) :
    wpAny (model prog w) A.in1 (Builtin.«list.index» ⟨[.ref l, x], []⟩) (GQ.FinOf prog w A R) (fun e s' => R (.error e) s') s := by
  obtain ⟨items, n, hl1, hs1, _⟩ := hl _ _ h
  have hrec := index_loopG (A := A) (R := R) l x N bs I hl (2 ^ 63 - 1) j hj hsmall hit fin j 0 (by omega) (Nat.zero_le _) (fun m _ h2 => hno m h2) s h
  obtain ⟨hp, g, d, tk, os⟩ := s
  wp_walk using wpAny_loadPart' hl1
  have a1 : ((fun i : Int => if i < 0 then max 0 (i + (items.size : Int)) else i) ((none : Option Int).getD 0)) = ((0 : Nat) : Int) := by simp
  have a2 : ((fun i : Int => if i < 0 then max 0 (i + (items.size : Int)) else i) ((none : Option Int).getD (2 ^ 63 - 1))) = 2 ^ 63 - 1 := by simp
  rw [a1, a2]
  exact ⟨plainId_quiet plain_index_loop _, codeAny_builtin entry_index_loop (by
    rw [Around.under_plainId plain_index_loop _]
    exact hrec)⟩
theorem contains_loopG (l : Addr) (x : Value) (N : Nat) (bs : Nat → Bool) (I : Nat → Shared → Prop) (hl : LoopB prog w A (fun e s' => R (.error e) s') l x N bs I) (j : Nat) (hj : j < N) (hit : bs j = true)
    (fin : ∀ s, I (j + 1) s → R (.ok (.ret (.bool true))) s) (k : Nat) :
    ∀ i : Nat, j - i = k → i ≤ j → (∀ m, i ≤ m → m < j → bs m = false) → ∀ s, I i s →
      wpAny (model prog w) A.in1 (Builtin.«list.__contains__.loop» ⟨[.ref l, x, rawInt i], []⟩) (GQ.FinOf prog w A R) (fun e s' => R (.error e) s') s := by
  induction k with
  | zero =>
    intro i hk hij hno s h
    have hij' : i = j := by omega
    subst hij'
    obtain ⟨items, n, hl1, hs1, turn⟩ := hl _ _ h
    have hlt : i < items.size := by omega
    have ht := turn hlt
    obtain ⟨hp, g, d, tk, os⟩ := s
    wp_walk using wpAny_loadPart' hl1
    have hi : items[((i : Nat) : Int).toNat]? = some items[i] := by simp [hlt]
    rw [hi]
    refine wpAny_bind (wpAny_mono ht (fun r s2 h2 => ?_) fun _ _ x => x)
    obtain ⟨hr, h2⟩ := h2
    subst hr
    rw [hit]
    have hR := fin s2 h2
    obtain ⟨hp2, g2, d2, tk2, os2⟩ := s2
    wp_walk
    exact hR
  | succ k ih =>
    intro i hk hij hno s h
    obtain ⟨items, n, hl1, hs1, turn⟩ := hl _ _ h
    have hlt : i < items.size := by omega
    have ht := turn hlt
    obtain ⟨hp, g, d, tk, os⟩ := s
    wp_walk using wpAny_loadPart' hl1
    have hi : items[((i : Nat) : Int).toNat]? = some items[i] := by simp [hlt]
    have hc : ((i : Int) + 1) = ((i + 1 : Nat) : Int) := by omega
    rw [hi]
    refine wpAny_bind (wpAny_mono ht (fun r s2 h2 => ?_) fun _ _ x => x)
    obtain ⟨hr, h2⟩ := h2
    subst hr
    rw [hno i (Nat.le_refl _) (by omega)]
    have hrec := ih (i + 1) (by omega) (by omega) (fun m h1 h2 => hno m (by omega) h2) s2 h2
    obtain ⟨hp2, g2, d2, tk2, os2⟩ := s2
    wp_walk
    rw [hc]
    exact ⟨plainId_quiet plain_contains_loop _, codeAny_builtin entry_contains_loop (by
      rw [Around.under_plainId plain_contains_loop _]
      exact hrec)⟩
theorem list_containsG (l : Addr) (x : Value) (N : Nat) (bs : Nat → Bool) (I : Nat → Shared → Prop) (hl : LoopB prog w A (fun e s' => R (.error e) s') l x N bs I) (j : Nat) (hj : j < N) (hit : bs j = true) (hno : ∀ m, m < j → bs m = false)
    (fin : ∀ s, I (j + 1) s → R (.ok (.ret (.bool true))) s) {s : Shared} (h : I 0 s) :
    wpAny (model prog w) A.in1 (Builtin.«list.__contains__» ⟨[.ref l, x], []⟩) (GQ.FinOf prog w A R) (fun e s' => R (.error e) s') s := by
  obtain ⟨items, n, hl1, hs1, _⟩ := hl _ _ h
  have hrec := contains_loopG (A := A) (R := R) l x N bs I hl j hj hit fin j 0 (by omega) (Nat.zero_le _) (fun m _ h2 => hno m h2) s h
  obtain ⟨hp, g, d, tk, os⟩ := s
  wp_walk using wpAny_loadPart' hl1
  exact ⟨plainId_quiet plain_contains_loop _, codeAny_builtin entry_contains_loop (by
    rw [Around.under_plainId plain_contains_loop _]
    exact hrec)⟩
end
section
open SeqAt
variable {X : Cx} {CX : CXT} {C g : Addr} {n : Nat} {fd : FuncData} {ps : List Str} {sp : Sp} {E : XK}
/-- what an own == tells: (x, y) are known, the answer is b, only new objects come -/
def EqB (X : Cx) (n : Nat) (D : V → V → Hp → Bool → Prop) : Prop :=
  ∀ (A : Around) (pins : List (Addr × Obj)) (s : Shared) (σ : L2.St) (H : Hp) (x y : V) (u v : Value) (b : Bool), L2.Sub X n A → L2.Inv X pins σ H s → RelV x u → RelV y v → D x y H b →
    wpAny (model X.prog X.w) A (eqBool u v) (fun r s' => r = b ∧ ∃ H', L2.Inv X pins σ H' s' ∧ Same H H') X.xe s
/-- the promise of such an __eq__ -/
def spEqB (D : V → V → Hp → Bool → Prop) : Sp := fun vs H Q _ => ∃ (x y : V) (b : Bool), vs = [x, y] ∧ D x y H b ∧ ∀ H', Same H H' → Q (.bl b) H'
/-- both are objects of the class; of one and itself the answer is True -/
structure DOk (C : Addr) (D : V → V → Hp → Bool → Prop) : Prop where
  ins : ∀ x y H b, D x y H b → ∃ a dx fs a' dx' fs', x = .ref a ∧ H a = some (.ins C dx fs) ∧ y = .ref a' ∧ H a' = some (.ins C dx' fs')
  self : ∀ x H b, D x x H b → b = true
  mono : ∀ x y H H' b, Same H H' → D x y H b → D x y H' b
theorem eqB_ins {D : V → V → Hp → Bool → Prop} (O : DOk C D) (hs : PySem.W.findIn X.K (.ref C) "__eq__" = some (some (.ref g))) (hf : PySem.W.isFn X.K (.ref g) = true) (hn : PySem.W.notFirst X.K C (.ref C) = true)
    (F : FnOk X.prog X.w X.K X.mg X.base CX n g fd ps (spEqB D)) (hb : L2.Binds X.K fd ps []) (hx : Passes CX X E0) : EqB X n D := by
  intro A pins s σ H x y u v b sb I rx ry d
  obtain ⟨a, dx, fs, a', dx', fs', rfl, ha, rfl, ha'⟩ := O.ins x y H b d
  cases (show u = Value.ref a from rx)
  cases (show v = Value.ref a' from ry)
  by_cases e : a = a'
  · subst e
    have e2 := O.self _ _ _ d
    subst e2
    unfold eqBool
    refine wpAny_holding ?_
    simp only [beq_self_eq_true, if_true]
    refine wpAny_bind (wpAny_rule (wpAny_pure ?_))
    exact ⟨rfl, H, I, fun _ _ e => e⟩
  · obtain ⟨od, J⟩ := inst_of I ha
    obtain ⟨od', J'⟩ := inst_of I ha'
    obtain ⟨m, hF⟩ := I.fr
    refine GQ.eqBool_refG e (PySem.W.cmp_K (op := .Eq) (tb := .ref C) sb.room.units0 hF I.ok.mod.kin J J'.type hn hs hf ?_)
    refine wpAny_mono (run_fnA (A := A) (us := [.ref a, .ref a']) (vs := [.ref a, .ref a']) (Q := fun z H' => z = .bl b ∧ Same H H') F sb.room sb.fr hb hx I (.cons rfl (.cons rfl .nil)) ⟨_, _, b, rfl, d, fun H' k => ⟨rfl, k⟩⟩) (fun w s' z => ?_) fun _ _ x => x
    obtain ⟨z', H', I', rz, rfl, k⟩ := z
    cases (show w = Value.bool b from rz)
    exact ⟨b, rfl, rfl, H', I', k⟩
theorem loopB_of {D : V → V → Hp → Bool → Prop} (O : DOk C D) (e : EqB X n D) {A : Around} (sb : L2.Sub X (n + 1) A) {pins : List (Addr × Obj)} {σ : L2.St} {H : Hp} {l : Addr} {xs : List V} {x : V} {u : Value} {bs : Nat → Bool} (hl : H l = some (.lst xs)) (ru : RelV x u)
    (hd : ∀ i y, xs[i]? = some y → D y x H (bs i)) : LoopB X.prog X.w A X.xe l u xs.length bs (fun _ s' => ∃ H', L2.Inv X pins σ H' s' ∧ Same H H') := by
  rintro i s ⟨H', I, k⟩
  obtain ⟨_, its, m, r, hp⟩ := (show ObjOk X.prog X.w H' s.heap l (.lst xs) from I.hok l _ (k _ _ hl))
  refine ⟨its.toArray, m, hp, by simpa using r.length.symm, fun h1 => ?_⟩
  have h1' : i < its.length := by simpa using h1
  have hix : i < xs.length := by rw [r.length]; exact h1'
  obtain ⟨v, hv, rv⟩ := r.get (List.getElem?_eq_getElem hix)
  have ev : its.toArray[i] = v := by
    rw [List.getElem?_eq_getElem h1'] at hv
    simpa using hv
  rw [ev]
  refine wpAny_mono (e A.in1 pins s σ H' _ _ _ _ (bs i) sb.in1 I rv ru (O.mono _ _ _ _ _ k (hd i _ (List.getElem?_eq_getElem hix)))) (fun r s' z => ?_) fun _ _ x => x
  obtain ⟨hr, H2, I2, k2⟩ := z
  exact ⟨hr, H2, I2, k.trans k2⟩
theorem sub_here (hr : Room n X.A) : L2.Sub X n X.A := ⟨hr, rfl⟩
def rCntB (D : V → V → Hp → Bool → Prop) : V → List V → Hp → VK → Prop := fun x xs H Q => ∃ (l : Addr) (ys : List V) (y : V) (bs : Nat → Bool), x = .ref l ∧ xs = [y] ∧ H l = some (.lst ys) ∧ (∀ i z, ys[i]? = some z → D z y H (bs i)) ∧ ∀ H', Same H H' → Q (.int (cntB bs ys.length 0)) H'
theorem mt_countB {D : V → V → Hp → Bool → Prop} (O : DOk C D) (e : EqB X n D) (hr : Room (n + 1) X.A) : MtR X "list.count" (rCntB D) := by
  intro pins s σ H x xs v us Q I rx rxs h
  obtain ⟨l, ys, y, bs, rfl, rfl, hl, hd, q⟩ := h
  cases (show v = Value.ref l from rx)
  obtain ⟨u, rfl, ru⟩ := rxs.one
  obtain ⟨_, its, m, _, hp⟩ := (show ObjOk X.prog X.w H s.heap l (.lst ys) from I.hok l _ hl)
  refine GQ.call_here F.slot_list_count ⟨_, hp, rfl⟩ F.entry_list_count (F.args_list_count_2 _ _) ?_
  refine list_countG l u ys.length bs (fun _ s' => ∃ H', L2.Inv X pins σ H' s' ∧ Same H H') (loopB_of O e (sub_here hr) (pins := pins) (σ := σ) hl ru hd) ⟨H, I, fun _ _ e => e⟩ fun s' z => ?_
  obtain ⟨H', I', k⟩ := z
  exact ⟨.int _, H', I'.tok _, ⟨_, rfl⟩, q H' k⟩
def rIdxB (D : V → V → Hp → Bool → Prop) : V → List V → Hp → VK → Prop := fun x xs H Q => ∃ (l : Addr) (ys : List V) (y : V) (bs : Nat → Bool) (j : Nat), x = .ref l ∧ xs = [y] ∧ H l = some (.lst ys) ∧ (∀ i z, ys[i]? = some z → D z y H (bs i)) ∧ j < ys.length ∧ j < 1000000 ∧ bs j = true ∧ (∀ m, m < j → bs m = false) ∧ ∀ H', Same H H' → Q (.int (j : Nat)) H'
theorem mt_indexB {D : V → V → Hp → Bool → Prop} (O : DOk C D) (e : EqB X n D) (hr : Room (n + 1) X.A) : MtR X "list.index" (rIdxB D) := by
  intro pins s σ H x xs v us Q I rx rxs h
  obtain ⟨l, ys, y, bs, j, rfl, rfl, hl, hd, hj, hj2, hit, hno, q⟩ := h
  cases (show v = Value.ref l from rx)
  obtain ⟨u, rfl, ru⟩ := rxs.one
  obtain ⟨_, its, m, _, hp⟩ := (show ObjOk X.prog X.w H s.heap l (.lst ys) from I.hok l _ hl)
  refine GQ.call_here F.slot_list_index ⟨_, hp, rfl⟩ F.entry_list_index (F.args_list_index_2 _ _) ?_
  refine list_indexG l u ys.length bs (fun _ s' => ∃ H', L2.Inv X pins σ H' s' ∧ Same H H') (loopB_of O e (sub_here hr) (pins := pins) (σ := σ) hl ru hd) j hj (by omega) hit hno (fun s' z => ?_) ⟨H, I, fun _ _ e => e⟩
  obtain ⟨H', I', k⟩ := z
  exact ⟨.int _, H', I'.tok _, ⟨_, rfl⟩, q H' k⟩
def rInB (D : V → V → Hp → Bool → Prop) : R2 := fun y x H Q => ∃ (l : Addr) (ys : List V) (bs : Nat → Bool) (j : Nat), x = .ref l ∧ H l = some (.lst ys) ∧ (∀ i z, ys[i]? = some z → D z y H (bs i)) ∧ j < ys.length ∧ bs j = true ∧ (∀ m, m < j → bs m = false) ∧ ∀ H', Same H H' → Q (.bl true) H'
/-- y in xs, where it is -/
theorem op_inB {D : V → V → Hp → Bool → Prop} (O : DOk C D) (e : EqB X n D) (hr : Room (n + 1) X.A) : OpR X (compareOp .In) (rInB D) := by
  intro pins s σ H y x u v Q I ru rx h
  obtain ⟨l, ys, bs, j, rfl, hl, hd, hj, hit, hno, q⟩ := h
  cases (show v = Value.ref l from rx)
  obtain ⟨_, its, m, _, hp⟩ := (show ObjOk X.prog X.w H s.heap l (.lst ys) from I.hok l _ hl)
  show wpAny _ X.A (do return Value.bool (← PySem.contains (.ref l) u)) _ _ s
  have hT : s.TypeIs (.ref l) "list" := ⟨_, hp, rfl⟩
  refine wpAny_bind (wpAny_contains_slot hT F.slot_list_contains (wpAny_mono (GQ.call_here (Q := fun v s' => v = .bool true ∧ ∃ H', L2.Inv X pins σ H' s' ∧ Same H H') (E := X.xe) F.slot_list_contains hT F.entry_list_contains (F.args_list_contains_2 _ _)
    (list_containsG l u ys.length bs (fun _ s' => ∃ H', L2.Inv X pins σ H' s' ∧ Same H H') (loopB_of O e (sub_here hr) (pins := pins) (σ := σ) hl ru hd) j hj hit hno (fun s' z => ⟨rfl, z⟩) ⟨H, I, fun _ _ e => e⟩)) (fun v s' hv => ?_) fun _ _ e => e))
  obtain ⟨rfl, H', I', k⟩ := hv
  exact wpAny_truthy_bool (wpAny_pure ⟨.bl true, H', I', rfl, q H' k⟩)
end
/-! ### objects of an own class: len and truth by an own __len__; the length of a range -/
section
variable {prog : Program} {w : World} {A : Around} {E : Value → Shared → Prop} {s : Shared} {K : PySem.W.Frag} {x C f : Addr} {ox : Obj} {od : Option Obj}
theorem len_bodyK {Q : Value → Shared → Prop} (X : K.In s.heap) (I : PySem.W.InstAt s.heap x ox C od) (hs : PySem.W.findIn K (.ref C) "__len__" = some (some (.ref f))) (hf : PySem.W.isFn K (.ref f) = true)
    (h : wpAny (model prog w) A (call (.ref f) [.ref x]) (PySem.W.LenBack Q) E s) : wpAny (model prog w) A (Builtin.«len» ⟨[.ref x], []⟩) (fun fin s' => ∃ v, fin = .done (.ret v) ∧ Q v s') E s := by
  unfold Builtin.«len»
  refine wpAny_bind (m := oneArg "len" _) (wpAny_pure ?_)
  refine wpAny_bind (m := callSpecial? (.ref x) (Str.ofString "__len__")) (PySem.W.special_fn X I hs (beq_iff_eq.mp hf) (wpAny_mono h ?_ fun _ _ y => y))
  intro r s' hr
  match r, hr with
  | .int n u, ⟨⟨h0, h1⟩, hq⟩ =>
    refine wpAny_bind (wpAny_holding (wpAny_pure ?_))
    refine wpAny_bind (wpAny_letGo ?_)
    show wpAny _ _ (if n < 0 then _ else _) _ _ _
    rw [if_neg (by omega)]
    show wpAny _ _ (if n ≥ 2 ^ 63 then _ else _) _ _ _
    rw [if_neg (by omega)]
    exact wpAny_bind (wpAny_mkInt (wpAny_pure ⟨_, rfl, hq⟩))
theorem truthy_len {Q : Bool → Shared → Prop} (X : K.In s.heap) (I : PySem.W.InstAt s.heap x ox C od) (hb : PySem.W.findIn K (.ref C) "__bool__" = some none) (hs : PySem.W.findIn K (.ref C) "__len__" = some (some (.ref f))) (hf : PySem.W.isFn K (.ref f) = true)
    (h : wpAny (model prog w) A.in1 (call (.ref f) [.ref x]) (PySem.W.LenBack fun v s' => ∃ n t, v = .int n t ∧ Q (n != 0) s') E s) : wpAny (model prog w) A (truthy (.ref x)) Q E s := by
  unfold truthy
  refine wpAny_bind (m := callSpecial? (.ref x) (Str.ofString "__bool__")) (wpAny_bind (wpAny_bind (I.type.here ((PySem.W.looks_findIn X hb).here (wpAny_pure ?_)))))
  refine wpAny_bind (wpAny_bind (I.type.here ((PySem.W.looks_findIn X hs).here ?_)))
  show wpAny _ _ (runValue (.builtin "len" ⟨[.ref x], []⟩) >>= _) _ _ _
  refine wpAny_bind (wpAny_runValue (codeAny_builtin PySem.entry_len ?_))
  rw [Around.under_plainId PySem.plain_len _]
  refine wpAny_mono (len_bodyK X I hs hf h) ?_ (fun _ _ y => y)
  rintro fin s' ⟨v, rfl, n, t, rfl, q⟩
  exact wpAny_pure q
theorem bool_own {Q : Value → Shared → Prop} (h : wpAny (model prog w) A.in1.in1 (truthy (.ref x)) (fun b s' => Q (.bool b) s') E s) : wpAny (model prog w) A (call (.type "bool") [.ref x]) Q E s := by
  have g : MeetsIn prog w (Builtin.«bool.__new__» ⟨[.type "bool", .ref x], []⟩) (fun A R s => wpAny (model prog w) A.in1 (truthy (.ref x)) (fun b s' => R (.ok (.ret (.bool b))) s') (fun e s' => R (.error e) s') s) := by
    intro A R s hs
    obtain ⟨hp, g, d, tk, os⟩ := s
    have f1 := F.conv_sub_bool
    have hs2 : wpAny (model prog w) A.in1 (truthy (.ref x)) (fun b s' => wpAny (model prog w) A.in1 (ret (.bool b) : Sem Fin) (fun fin s' => match fin with | .done f => R (.ok f) s' | .again c' => c'.quiet = true ∧ codeAny (model prog w) A c' R s') (fun e s' => R (.error e) s') s') (fun e s' => R (.error e) s') ⟨hp, g, d, tk, os⟩ :=
      wpAny_mono hs (fun b s' z => wpAny_pure z) fun _ _ z => z
    repeat (any_goals (first | assumption | exact hs2 | wp_step))
  exact callType_newIn F.called_bool F.newNe_bool (F.typeCall_bool_1 _) (F.newCall_bool_1 _) (fun obj => F.args_object_init_2 obj _) F.entry_bool_new g (wpAny_mono h (fun b s' z => ⟨rfl, z⟩) fun _ _ z => z)
end
section
variable {X : Cx} {CX : CXT} {C g : Addr} {n : Nat} {fd : FuncData} {ps : List Str} {sp : Sp} {E : XK}
def QLen (Q : VK) : VK := fun z H' => ∃ m : Int, z = .int m ∧ 0 ≤ m ∧ m < 2 ^ 62 ∧ Q (.int m) H'
def QTru (Q : VK) : VK := fun z H' => ∃ m : Int, z = .int m ∧ 0 ≤ m ∧ m < 2 ^ 62 ∧ Q (.bl (m != 0)) H'
/-- len(o), by o's own __len__ -/
theorem call_lenOwn (hs : PySem.W.findIn X.K (.ref C) "__len__" = some (some (.ref g))) (hf : PySem.W.isFn X.K (.ref g) = true) (F : FnOk X.prog X.w X.K X.mg X.base CX n g fd ps sp) (hb : L2.Binds X.K fd ps [])
    (hr : Room (n + 1) X.A) (hx : Passes CX X E) : CallR X (.builtin "len") (rOwn1 C sp E QLen) := by
  intro pins s σ H vs us Q I r h
  obtain ⟨a, dx, fs, rfl, ha, q⟩ := h
  obtain ⟨u, rfl, ru⟩ := Vals.one r
  cases (show u = Value.ref a from ru)
  obtain ⟨od, J⟩ := inst_of I ha
  obtain ⟨m, hF⟩ := I.fr
  refine PySem.W.len_K hF I.ok.mod.kin J hs hf ?_
  refine wpAny_mono (run_fnA (A := X.A.in1) (us := [.ref a]) (vs := [.ref a]) F hr.in1 rfl hb hx I (.cons rfl .nil) q) ?_ (fun _ _ x => x)
  rintro v s' ⟨z, H', I', rz, m, rfl, m0, m1, q'⟩
  obtain ⟨t, rfl⟩ := (show ∃ t, v = Value.int m t from rz)
  exact ⟨⟨m0, Int.lt_trans m1 (by decide)⟩, .int m, H', I'.tok _, ⟨_, rfl⟩, q'⟩
theorem truthyOwn (hbl : PySem.W.findIn X.K (.ref C) "__bool__" = some none) (hs : PySem.W.findIn X.K (.ref C) "__len__" = some (some (.ref g))) (hf : PySem.W.isFn X.K (.ref g) = true) (F : FnOk X.prog X.w X.K X.mg X.base CX n g fd ps sp) (hb : L2.Binds X.K fd ps [])
    {A : Around} (hr : Room (n + 1) A) (hA : A.frames = X.A.frames) (hx : Passes CX X E) {pins : List (Addr × Obj)} {σ : L2.St} {H : Hp} {s : Shared} {a dx : Addr} {fs : List (Str × V)} {Q : VK} (I : L2.Inv X pins σ H s) (ha : H a = some (.ins C dx fs))
    (q : sp [.ref a] H (QTru Q) E) : wpAny (model X.prog X.w) A (truthy (.ref a)) (fun b s' => ∃ H', L2.Inv X pins σ H' s' ∧ Q (.bl b) H') X.xe s := by
  obtain ⟨od, J⟩ := inst_of I ha
  refine truthy_len I.kIn J hbl hs hf ?_
  refine wpAny_mono (run_fnA (A := A.in1) (us := [.ref a]) (vs := [.ref a]) F hr.in1 hA hb hx I (.cons rfl .nil) q) ?_ (fun _ _ x => x)
  rintro v s' ⟨z, H', I', rz, m, rfl, m0, m1, q'⟩
  obtain ⟨t, rfl⟩ := (show ∃ t, v = Value.int m t from rz)
  exact ⟨⟨m0, Int.lt_trans m1 (by decide)⟩, m, _, rfl, H', I'.tok _, q'⟩
/-- bool(o), by o's own __len__ -/
theorem call_boolOwn (hbl : PySem.W.findIn X.K (.ref C) "__bool__" = some none) (hs : PySem.W.findIn X.K (.ref C) "__len__" = some (some (.ref g))) (hf : PySem.W.isFn X.K (.ref g) = true) (F : FnOk X.prog X.w X.K X.mg X.base CX n g fd ps sp) (hb : L2.Binds X.K fd ps [])
    (hr : Room (n + 3) X.A) (hx : Passes CX X E) : CallR X (.type "bool") (rOwn1 C sp E QTru) := by
  intro pins s σ H vs us Q I r h
  obtain ⟨a, dx, fs, rfl, ha, q⟩ := h
  obtain ⟨u, rfl, ru⟩ := Vals.one r
  cases (show u = Value.ref a from ru)
  refine bool_own (wpAny_mono (truthyOwn hbl hs hf F hb (A := X.A.in1.in1) hr.in1.in1 rfl hx I ha q) ?_ fun _ _ x => x)
  rintro b s' ⟨H', I', q'⟩
  exact ⟨.bl b, H', I', rfl, q'⟩
/-- len(range(..)) -/
def tLenRg (te : L2.St → Hp → (Int → Int → Hp → Prop) → Prop) : TE := fun σ H Q => te σ H fun a b H1 => (b - a).toNat < 2 ^ 62 ∧ Q (.int ((b - a).toNat : Nat)) H1
theorem pe_lenRg {e : Expr} {te : L2.St → Hp → (Int → Int → Hp → Prop) → Prop} {p pos : Pos} (hg : Gl X "len") (hm : X.mg "len" = none) (he : PRg X e te) (na : starEach [e] X.env = (false, eval e X.env) :: starEach [] X.env := by rfl) : PE X (.Call (.Name "len" p) [e] [] pos) (tLenRg te) := by
  constructor
  intro pins s σ H Q I h
  refine wpAny_Call_Name_kw (ld_blt I hg hm PySem.boot_len ?_ (by decide) (by decide))
  refine PyProof.Rows.callWith_builtin1 (PyProof.Rows.args_cons (thn (he pins s σ H _ I h) ?_) na) na rfl
  rintro x s1 ⟨r, a, b, t, u, v, H1, rfl, hr, I1, hz, q⟩
  refine PyProof.Rows.args_nil (call_len_range (n := (b - a).toNat) hr ?_ ?_ ⟨.int ((b - a).toNat : Nat), H1, I1.tok _, ⟨_, rfl⟩, q⟩)
  · unfold Builtin.Range.rangeSize
    rw [if_pos (by decide)]
    split
    · rw [Int.ediv_one]
      omega
    · omega
  · omega
end
section
variable {X : Cx}
theorem eqBool_bl {prog : Program} {w : World} {A : Around} {E : Value → Shared → Prop} {s : Shared} {i j : Bool} {Q : Bool → Shared → Prop} (h : Q (i == j) s) : wpAny (model prog w) A (eqBool (.bool i) (.bool j)) Q E s := by
  have key : wpAny (model prog w) A (compareOp .Eq (.bool i) (.bool j)) (fun v s' => v = .bool (i == j) ∧ s' = s) E s := PyProof.Rows.eq_bool ⟨rfl, rfl⟩
  have key2 : wpAny (model prog w) A (richCompare .Eq (.bool i) (.bool j)) (fun v s' => v = .bool (i == j) ∧ s' = s) E s := key
  unfold eqBool
  refine wpAny_holding (wpAny_ite_split (fun e => ?_) (fun _ => ?_))
  · have e2 : i = j := by
      have := eq_of_beq e
      injection this
    subst e2
    rw [beq_self_eq_true] at h
    exact wpAny_bind (wpAny_rule (wpAny_pure h))
  · refine wpAny_bind (wpAny_mono key2 ?_ fun _ _ z => z)
    rintro v s' ⟨rfl, rfl⟩
    exact wpAny_truthy_bool h
/-- xs.count(b) of truths -/
def rCntBl : V → List V → Hp → VK → Prop := fun x xs H Q => ∃ (l : Addr) (rs : List Bool) (b : Bool), x = .ref l ∧ xs = [.bl b] ∧ H l = some (.lst (rs.map V.bl)) ∧ Q (.int (cntB (fun i => rs.getD i false == b) rs.length 0)) H
theorem mt_countBl : MtR X "list.count" rCntBl := by
  intro pins s σ H x xs v us Q I rx rxs h
  obtain ⟨l, rs, b, rfl, rfl, hl, q⟩ := h
  cases (show v = Value.ref l from rx)
  obtain ⟨u, rfl, ru⟩ := rxs.one
  cases (show u = Value.bool b from ru)
  obtain ⟨_, its, m, _, hp⟩ := (show ObjOk X.prog X.w H s.heap l (.lst (rs.map V.bl)) from I.hok l _ hl)
  refine GQ.call_here F.slot_list_count ⟨_, hp, rfl⟩ F.entry_list_count (F.args_list_count_2 _ _) ?_
  refine list_countG l (.bool b) rs.length (fun i => rs.getD i false == b) (fun _ s' => L2.Inv X pins σ H s') ?_ I (fun s' I' => ⟨.int _, H, I'.tok _, ⟨_, rfl⟩, q⟩)
  intro i s' I'
  obtain ⟨_, its, m, r, hp⟩ := (show ObjOk X.prog X.w H s'.heap l (.lst (rs.map V.bl)) from I'.hok l _ hl)
  have hlen : its.length = rs.length := by rw [← r.length, List.length_map]
  refine ⟨its.toArray, m, hp, by simpa using hlen, fun h1 => ?_⟩
  have h1' : i < its.length := by simpa using h1
  have hix : i < rs.length := by omega
  obtain ⟨v, hv, rv⟩ := r.get (show (rs.map V.bl)[i]? = some (.bl rs[i]) by rw [List.getElem?_map, List.getElem?_eq_getElem hix]; rfl)
  have ev : its.toArray[i] = v := by
    rw [List.getElem?_eq_getElem h1'] at hv
    simpa using hv
  cases (show v = Value.bool rs[i] from rv)
  rw [ev]
  refine eqBool_bl ⟨?_, I'⟩
  show (rs[i] == b) = (rs.getD i false == b)
  rw [List.getD_eq_getElem?_getD, List.getElem?_eq_getElem hix]
  rfl
end
/-! ### walks by enumerate; counts of texts; calls that may raise, where nothing is raised -/
theorem for_enum {K : PySem.W.Frag} {a : Addr} {xs : List V} {g : TG} {tb : TS} {D : L2.Ends} {σ : L2.St} {H : Hp} (Pv : Nat → L2.St → Hp → Prop) (h0 : Pv 0 σ H) (hl : ∀ i σ H, i ≤ xs.length → Pv i σ H → SqL K H a xs)
    (hs : ∀ i x T σ H, xs[i]? = some x → Pv i σ H → H T = none → g (.ref T) σ (upd H T (.tup [.int (i : Nat), x])) fun σ2 H2 => tb { D with nx := Pv (i + 1), ct := Pv (i + 1), bk := D.nx } σ2 H2) (hd : ∀ σ H, Pv xs.length σ H → D.nx σ H) :
    ∃ W : Nat → Nat → L2.St → Hp → Prop, (∃ m, W 0 m σ H) ∧ ∀ i m σ H, W i m σ H →
      ((Ite K a).stop i H ∧ D.nx σ H) ∨ ((Ite K a).go i H ∧ ∃ N : L2.St → Hp → Prop, (∀ σ' H', N σ' H' → ∃ m', m' < m ∧ W (i + 1) m' σ' H') ∧ ∀ x H', (Ite K a).yld i H x H' → g x σ H' fun σ2 H2 => tb { D with nx := N, ct := N, bk := D.nx } σ2 H2) := by
  refine ⟨fun i m σ H => m = xs.length - i ∧ i ≤ xs.length ∧ Pv i σ H, ⟨xs.length, by simp, Nat.zero_le _, h0⟩, ?_⟩
  rintro i m σ H ⟨rfl, hi, p⟩
  have q := hl i σ H hi p
  by_cases hlt : i < xs.length
  · refine .inr ⟨⟨xs, xs[i], q, by simp [hlt]⟩, Pv (i + 1), fun σ' H' p' => ⟨xs.length - (i + 1), by omega, rfl, hlt, p'⟩, ?_⟩
    rintro x H' ⟨T, y, rfl, hT, rfl, hy⟩
    exact hs i y T σ H (hy xs q) p hT
  · have e : i = xs.length := by omega
    subst e
    exact .inl ⟨⟨xs, q, Nat.le_refl _⟩, hd σ H p⟩
abbrev rLenQ (K : PySem.W.Frag) : List V → Hp → VK → Prop := fun xs H Q => ∃ p ys, xs = [V.ref p] ∧ (SqL K H p ys ∨ SqT K H p ys) ∧ Q (.int ((ys.length : Nat) : Int)) H
section
variable {X : Cx}
theorem eqBool_tx {prog : Program} {w : World} {A : Around} {E : Value → Shared → Prop} {s : Shared} {i j : Str} {t u : Tok} {Q : Bool → Shared → Prop} (h : Q (decide (i = j)) s) : wpAny (model prog w) A (eqBool (.str i t) (.str j u)) Q E s := wpAny_eqBool_str h
/-- xs.count(t) of texts -/
def rCntTx : V → List V → Hp → VK → Prop := fun x xs H Q => ∃ (l : Addr) (rs : List Str) (b : Str), x = .ref l ∧ xs = [.str b] ∧ H l = some (.lst (rs.map V.str)) ∧ Q (.int (cntB (fun i => decide (rs.getD i "" = b)) rs.length 0)) H
theorem mt_countTx : MtR X "list.count" rCntTx := by
  intro pins s σ H x xs v us Q I rx rxs h
  obtain ⟨l, rs, b, rfl, rfl, hl, q⟩ := h
  cases (show v = Value.ref l from rx)
  obtain ⟨u, rfl, ru⟩ := rxs.one
  obtain ⟨tb, rfl⟩ := (show ∃ t, u = Value.str b t from ru)
  obtain ⟨_, its, m, _, hp⟩ := (show ObjOk X.prog X.w H s.heap l (.lst (rs.map V.str)) from I.hok l _ hl)
  refine GQ.call_here F.slot_list_count ⟨_, hp, rfl⟩ F.entry_list_count (F.args_list_count_2 _ _) ?_
  refine list_countG l (.str b tb) rs.length (fun i => decide (rs.getD i "" = b)) (fun _ s' => L2.Inv X pins σ H s') ?_ I (fun s' I' => ⟨.int _, H, I'.tok _, ⟨_, rfl⟩, q⟩)
  intro i s' I'
  obtain ⟨_, its, m, r, hp⟩ := (show ObjOk X.prog X.w H s'.heap l (.lst (rs.map V.str)) from I'.hok l _ hl)
  have hlen : its.length = rs.length := by rw [← r.length, List.length_map]
  refine ⟨its.toArray, m, hp, by simpa using hlen, fun h1 => ?_⟩
  have h1' : i < its.length := by simpa using h1
  have hix : i < rs.length := by omega
  obtain ⟨v, hv, rv⟩ := r.get (show (rs.map V.str)[i]? = some (.str rs[i]) by rw [List.getElem?_map, List.getElem?_eq_getElem hix]; rfl)
  have ev : its.toArray[i] = v := by
    rw [List.getElem?_eq_getElem h1'] at hv
    simpa using hv
  obtain ⟨tv, e2⟩ := (show ∃ t, v = Value.str rs[i] t from rv)
  rw [ev, e2]
  refine eqBool_tx ⟨?_, I'⟩
  show decide (rs[i] = b) = decide (rs.getD i "" = b)
  rw [List.getD_eq_getElem?_getD, List.getElem?_eq_getElem hix]
  rfl
theorem passF {P : Program} {w : World} (hP : X.prog = P) (hw : X.w = w) : Passes (L2.CX P w) X E0 := fun pins σ H s e s' I h => passNo (σ := σ) hP hw pins H s e s' I h
end
theorem cntB_count {rs : List Str} {b : Str} : ∀ (k i : Nat), i + k ≤ rs.length → cntB (fun i => decide (rs.getD i "" = b)) k i = ((((rs.drop i).take k).count b : Nat) : Int)
  | 0, i, _ => by simp [cntB]
  | k + 1, i, h => by
    have hi : i < rs.length := by omega
    have ih := cntB_count (rs := rs) (b := b) k (i + 1) (by omega)
    rw [List.drop_eq_getElem_cons hi, List.take_succ_cons, List.count_cons]
    show (if decide (rs.getD i "" = b) = true then (1 : Int) else 0) + cntB _ k (i + 1) = _
    rw [ih]
    have e : rs.getD i "" = rs[i] := by rw [List.getD_eq_getElem?_getD, List.getElem?_eq_getElem hi]; rfl
    rw [e]
    by_cases c : rs[i] = b
    · simp [c]; omega
    · simp [c]
theorem cnt_all {rs : List Str} {b : Str} : cntB (fun i => decide (rs.getD i "" = b)) rs.length 0 = ((rs.count b : Nat) : Int) := by
  have := cntB_count (rs := rs) (b := b) rs.length 0 (by omega)
  rw [this, List.drop_zero, List.take_length]
theorem nodup_count {rs : List Str} : (∀ z ∈ rs, ((rs.count z : Nat) : Int) = 1) ↔ rs.Nodup := by
  rw [List.nodup_iff_count]
  constructor
  · intro h z
    by_cases c : z ∈ rs
    · have := h z c; omega
    · rw [List.count_eq_zero_of_not_mem c]; omega
  · intro h z hz
    have h1 := h z
    have h2 := List.count_pos_iff.mpr hz
    omega
/-- an exception that is made, not raised: a value, and it stays -/
theorem pe_ofMk {X : Cx} {e : Expr} {t : L2.St → Hp → XK → Prop} (h : PMk X e t) : PE X e (fun σ H Q => t σ H fun cls d H' => ∀ a, H' a = none → Q (.ref a) (upd H' a (keptX cls d a))) := by
  constructor
  intro pins s σ H Q I q
  refine wpAny_mono (h pins s σ H _ I q) ?_ (fun _ _ x => x)
  rintro u s1 ⟨a, oe, vs, sI, H', cls, d, rfl, J, k, ne, ha, hz, hd, _, na, os, ag, _, q2⟩
  have J2 := J.laidN (t' := s1.toks) k ne na (keptX_ok ha hz hd)
  exact ⟨.ref a, upd H' a (keptX cls d a), ⟨J2.ok, os.trans J.os, ag, J2.base, J2.loc, J2.cell, J2.free, J2.freeC, J2.pin, J2.hok, J2.len⟩, rfl, q2 a na⟩
def topS (i : Nat) : Stmt := PySem.Challenge.pw_boatbridge_k43_stands_within_stretches.main.body.getD i (.Pass ⟨0, 0, 0, 0⟩)
abbrev sWall : Stmt := topS 0
abbrev NWall : List Str := ["k"]
theorem scWall : FnScope NWall ["k"] (defScope sWall) := ⟨rfl, rfl, rfl, by decide +kernel, rfl, by decide +kernel, by decide +kernel⟩
abbrev sShow : Stmt := topS 6
abbrev NShow : List Str := ["minute", "day", "clock", "hours", "minutes", "text"]
theorem scShow : FnScope NShow ["minute"] (defScope sShow) := ⟨rfl, rfl, rfl, by decide +kernel, rfl, by decide +kernel, by decide +kernel⟩
abbrev sNumAt : Stmt := topS 17
abbrev NNumAt : List Str := ["readings", "kind", "until", "latest", "told", "minute", "read", "number"]
theorem scNumAt : FnScope NNumAt ["readings", "kind", "until"] (defScope sNumAt) := ⟨rfl, rfl, rfl, by decide +kernel, rfl, by decide +kernel, by decide +kernel⟩
abbrev sFeed : Stmt := topS 19
abbrev NFeed : List Str := ["_law_script"]
theorem scFeed : FnScope NFeed ["_law_script"] (defScope sFeed) := ⟨rfl, rfl, rfl, by decide +kernel, rfl, by decide +kernel, by decide +kernel⟩
abbrev sDraw : Stmt := topS 20
abbrev NDraw : List Str := ["_law_feed_here", "_law_many", "_law_found", "_law_spot", "_law_cell", "_law_mixed"]
theorem scDraw : FnScope NDraw ["_law_feed_here", "_law_many"] (defScope sDraw) := ⟨rfl, rfl, rfl, by decide +kernel, rfl, by decide +kernel, by decide +kernel⟩
abbrev sOf : Stmt := topS 21
abbrev NOf : List Str := ["_law_feed_here", "_law_some"]
theorem scOf : FnScope NOf ["_law_feed_here", "_law_some"] (defScope sOf) := ⟨rfl, rfl, rfl, by decide +kernel, rfl, by decide +kernel, by decide +kernel⟩
abbrev sReadings : Stmt := topS 22
abbrev NReadings : List Str := ["_law_feed_here", "_law_many", "_law_base", "_law_found", "_law_k", "_law_moment", "_law_number"]
theorem scReadings : FnScope NReadings ["_law_feed_here", "_law_many"] (defScope sReadings) := ⟨rfl, rfl, rfl, by decide +kernel, rfl, by decide +kernel, by decide +kernel⟩
abbrev sBounds : Stmt := topS 23
abbrev NBounds : List Str := ["_law_feed_here", "_law_lag_drawn", "_law_waters", "_law_ices", "_law_k"]
theorem scBounds : FnScope NBounds ["_law_feed_here"] (defScope sBounds) := ⟨rfl, rfl, rfl, by decide +kernel, rfl, by decide +kernel, by decide +kernel⟩
abbrev sLast : Stmt := topS 24
abbrev NLast : List Str := ["_law_rows", "_law_moment", "_law_best", "_law_when", "_law_number"]
theorem scLast : FnScope NLast ["_law_rows", "_law_moment"] (defScope sLast) := ⟨rfl, rfl, rfl, by decide +kernel, rfl, by decide +kernel, by decide +kernel⟩
abbrev sLStand : Stmt := topS 25
abbrev NLStand : List Str := ["_law_bounds_here", "_law_came", "_law_moment", "_law_water", "_law_ice", "_law_row"]
theorem scLStand : FnScope NLStand ["_law_bounds_here", "_law_came", "_law_moment"] (defScope sLStand) := ⟨rfl, rfl, rfl, by decide +kernel, rfl, by decide +kernel, by decide +kernel⟩
abbrev sEdges : Stmt := topS 26
abbrev NEdges : List Str := ["_law_bounds_here", "_law_came", "_law_row"]
theorem scEdges : FnScope NEdges ["_law_bounds_here", "_law_came"] (defScope sEdges) := ⟨rfl, rfl, rfl, by decide +kernel, rfl, by decide +kernel, by decide +kernel⟩
abbrev sLRight : Stmt := topS 27
abbrev NLRight : List Str := ["_law_bounds_here", "_law_came", "_law_told", "_law_start", "_law_upto", "_law_here", "_law_ahead", "_law_stretch", "_law_word", "_law_inner", "_law_moment", "_law_edge"]
theorem scLRight : FnScope NLRight ["_law_bounds_here", "_law_came", "_law_told", "_law_start", "_law_upto"] (defScope sLRight) := ⟨rfl, rfl, rfl, by decide +kernel, rfl, by decide +kernel, by decide +kernel⟩
abbrev sLaw : Stmt := topS 28
abbrev NLaw : List Str := ["_law_script", "_law_feed_here", "_law_k", "_law_bounds_here", "_law_gauge", "_law_some", "_law_edges_here", "_law_held", "_law_turns", "_law_start", "_law_upto", "_law_handed", "_law_stretch", "_law_told", "_law_again", "_law_one", "_law_kept"]
theorem scLaw : FnScope NLaw ["_law_script"] (defScope sLaw) := ⟨rfl, rfl, rfl, by decide +kernel, rfl, by decide +kernel, by decide +kernel⟩
abbrev sSInit : Stmt := inClass (topS 8) 0
abbrev NSInit : List Str := ["self", "first", "behind"]
theorem scSInit : FnScope NSInit ["self", "first", "behind"] (defScope sSInit) := ⟨rfl, rfl, rfl, by decide +kernel, rfl, by decide +kernel, by decide +kernel⟩
abbrev sSEq : Stmt := inClass (topS 8) 1
abbrev NSEq : List Str := ["self", "other"]
theorem scSEq : FnScope NSEq ["self", "other"] (defScope sSEq) := ⟨rfl, rfl, rfl, by decide +kernel, rfl, by decide +kernel, by decide +kernel⟩
abbrev sSLen : Stmt := inClass (topS 8) 2
abbrev NSLen : List Str := ["self"]
theorem scSLen : FnScope NSLen ["self"] (defScope sSLen) := ⟨rfl, rfl, rfl, by decide +kernel, rfl, by decide +kernel, by decide +kernel⟩
abbrev sSStr : Stmt := inClass (topS 8) 3
abbrev NSStr : List Str := ["self"]
theorem scSStr : FnScope NSStr ["self"] (defScope sSStr) := ⟨rfl, rfl, rfl, by decide +kernel, rfl, by decide +kernel, by decide +kernel⟩
abbrev sSRepr : Stmt := inClass (topS 8) 4
abbrev NSRepr : List Str := ["self"]
theorem scSRepr : FnScope NSRepr ["self"] (defScope sSRepr) := ⟨rfl, rfl, rfl, by decide +kernel, rfl, by decide +kernel, by decide +kernel⟩
abbrev sGInit : Stmt := inClass (topS 16) 0
abbrev NGInit : List Str := ["self", "lag", "high", "top", "thin", "thick"]
theorem scGInit : FnScope NGInit ["self", "lag", "high", "top", "thin", "thick"] (defScope sGInit) := ⟨rfl, rfl, rfl, by decide +kernel, rfl, by decide +kernel, by decide +kernel⟩
abbrev sGStand : Stmt := inClass (topS 16) 1
abbrev NGStand : List Str := ["self", "readings", "minute", "water", "ice"]
theorem scGStand : FnScope NGStand ["self", "readings", "minute"] (defScope sGStand) := ⟨rfl, rfl, rfl, by decide +kernel, rfl, by decide +kernel, by decide +kernel⟩
abbrev sGaugeStands : Stmt := inClass (topS 16) 2
abbrev NGaugeStands : List Str := ["self", "readings", "within", "inside", "cuts", "told", "first", "behind", "stand", "minute"]
theorem scGaugeStands : FnScope NGaugeStands ["self", "readings", "within"] (defScope sGaugeStands) := ⟨rfl, rfl, rfl, by decide +kernel, rfl, by decide +kernel, by decide +kernel⟩
abbrev sLc : Stmt := inClass (topS 16) 3
abbrev NLc : List Str := ["self", "readings", "now", "long"]
theorem scLc : FnScope NLc ["self", "readings", "now", "long"] (defScope sLc) := ⟨rfl, rfl, rfl, by decide +kernel, rfl, by decide +kernel, by decide +kernel⟩
abbrev sChg : Stmt := inClass (topS 16) 4
abbrev NChg : List Str := ["self", "readings", "minute", "kind", "number"]
theorem scChg : FnScope NChg ["self", "readings"] (defScope sChg) := ⟨rfl, rfl, rfl, by decide +kernel, rfl, by decide +kernel, by decide +kernel⟩
abbrev sNInit : Stmt := inClass (topS 2) 0
abbrev NNInit : List Str := ["self", "first", "behind"]
theorem scNInit : FnScope NNInit ["self", "first", "behind"] (defScope sNInit) := ⟨rfl, rfl, rfl, by decide +kernel, rfl, by decide +kernel, by decide +kernel⟩

/-- the tape at T: the cells' list, the draws done (at most n), the rest of a great cell -/
structure Tape (H : Hp) (T c : Addr) (n : Nat) : Prop where
  ex : ∃ (t r : Int) (ns : List Int), H T = some (.lst [.ref c, .int t, .int r]) ∧ H c = some (.lst (ns.map V.int)) ∧ c ≠ T ∧ 0 ≤ t ∧ t ≤ n ∧ ns.length ≤ 63
/-- all but the tape stands as it stood -/
def Keep (T : Addr) (H H' : Hp) : Prop := ∀ a o, a ≠ T → H a = some o → H' a = some o
theorem Keep.refl {T : Addr} {H : Hp} : Keep T H H := fun _ _ _ e => e
theorem Keep.trans {T : Addr} {H H1 H2 : Hp} (a : Keep T H H1) (b : Keep T H1 H2) : Keep T H H2 := fun x o n e => b x o n (a x o n e)
theorem Keep.updT {T : Addr} {H H1 : Hp} {o : HO} (a : Keep T H H1) : Keep T H (upd H1 T o) := fun x o n e => by
  rw [upd_ne n]; exact a x o n e
theorem Keep.new {T : Addr} {H H1 : Hp} {p : Addr} {o : HO} (a : Keep T H H1) (h : H1 p = none) : Keep T H (upd H1 p o) := fun x o n e => by
  have z := a x o n e
  rw [upd_ne (ne_of_none z h)]; exact z
theorem Tape.mono {H : Hp} {T c : Addr} {n m : Nat} (h : Tape H T c n) (l : n ≤ m) : Tape H T c m := by
  obtain ⟨t, r, ns, h1, h2, h3, h4, h5, h6⟩ := h.ex
  exact ⟨t, r, ns, h1, h2, h3, h4, by omega, h6⟩
theorem Tape.upd {H : Hp} {T c : Addr} {n : Nat} {p : Addr} {o : HO} (h : Tape H T c n) (n1 : p ≠ T) (n2 : p ≠ c) : Tape (upd H p o) T c n := by
  obtain ⟨t, r, ns, h1, h2, h3, h4, h5, h6⟩ := h.ex
  exact ⟨t, r, ns, by rw [upd_ne n1.symm]; exact h1, by rw [upd_ne n2.symm]; exact h2, h3, h4, h5, h6⟩
theorem Tape.new {H : Hp} {T c : Addr} {n : Nat} {p : Addr} {o : HO} (h : Tape H T c n) (hp : H p = none) : Tape (L2.upd H p o) T c n := by
  obtain ⟨t, r, ns, h1, h2, h3, h4, h5, h6⟩ := h.ex
  exact ⟨t, r, ns, by rw [upd_ne (ne_of_none h1 hp)]; exact h1, by rw [upd_ne (ne_of_none h2 hp)]; exact h2, h3, h4, h5, h6⟩
theorem Tape.nec {H : Hp} {T c : Addr} {n : Nat} {p : Addr} (h : Tape H T c n) (hp : H p = none) : p ≠ c := by
  obtain ⟨t, r, ns, _, h2, _⟩ := h.ex
  exact (ne_of_none h2 hp).symm
theorem Tape.ne {H : Hp} {T c : Addr} {n : Nat} {p : Addr} (h : Tape H T c n) (hp : H p = none) : p ≠ T := by
  obtain ⟨t, r, ns, h1, _⟩ := h.ex
  exact (ne_of_none h1 hp).symm
theorem upd_at {H : Hp} {p a : Addr} {o z : HO} (hp : H p = none) (h : H a = some z) : (upd H p o) a = some z := by
  rw [upd_ne (ne_of_none h hp)]; exact h
def spTape (K : PySem.W.Frag) : Sp := fun vs H Q _ => ∃ (a : Addr) (ns : List Int), vs = [.ref a] ∧ SqL K H a (ns.map V.int) ∧ ns.length ≤ 63 ∧
  ∀ T c H', H T = none → H c = none → Same H H' → Tape H' T c 0 → Q (.ref T) H'
def spDraw : Sp := fun vs H Q _ => ∃ (T c : Addr) (b : Int) (n : Nat), vs = [.ref T, .int b] ∧ 0 < b ∧ b < 1073741824 ∧ n < 1000000 ∧ Tape H T c n ∧
  ∀ d H', 0 ≤ d → d < b → Tape H' T c (n + 1) → Keep T H H' → Q (.int d) H'
/-- an item of a list, any one -/
def spPick : Sp := fun vs H Q _ => ∃ (T c p : Addr) (xs : List V) (n : Nat), vs = [.ref T, .ref p] ∧ H p = some (.lst xs) ∧ p ≠ T ∧ 0 < xs.length ∧ xs.length < 1000000 ∧ n < 1000000 ∧ Tape H T c n ∧
  ∀ (j : Nat) (x : V) H', xs[j]? = some x → Tape H' T c (n + 1) → Keep T H H' → Q x H'
theorem dp_ints {K : PySem.W.Frag} {H : Hp} : ∀ ns : List Int, DpAll K H (ns.map V.int) (ns.map PyData.int)
  | [] => .nil
  | _ :: r => .cons (.int _) (dp_ints r)
theorem cut63 {ns : List Int} (h : ns.length ≤ 63) : cutV (ns.map V.int) none (some 63) = ns.map V.int := by
  unfold cutV
  rw [HT.sIx_none, show HT.sIx (ns.map V.int).length (ns.map V.int).length (some 63) = min 63 (ns.map V.int).length from HT.sIx_nat _ _ 63, List.length_map, Nat.min_eq_right h]
  show ((ns.map V.int).take (ns.length - 0)) = _
  rw [Nat.sub_zero]
  exact List.take_of_length_le (by rw [List.length_map]; exact Nat.le_refl _)
theorem fmod_in {a b : Int} (h : 0 < b) : 0 ≤ a.fmod b ∧ a.fmod b < b := by
  rw [Int.fmod_eq_emod_of_nonneg a (Int.le_of_lt h)]; exact ⟨Int.emod_nonneg a (by omega), Int.emod_lt_of_pos a h⟩
/-- what the law's helpers ask of the module's names -/
structure Txt0 (mg : Str → Option Value) : Prop where
  mlen : mg "len" = none
structure TxtF (mg : Str → Option Value) : Prop where
  mlist : mg "list" = none
section
variable {P : Program} {w : World} {K : PySem.W.Frag} {mg : Str → Option Value} {base : Heap}
theorem ok_draw {f : Addr} {fd : FuncData} {k : Nat} (F : Fun K "_law_draw" "_law_draw" sDraw f fd) (T : Txt0 mg) : FnOk P w K mg base CX0 (k + 1) f fd ["_law_feed_here", "_law_many"] spDraw := by
  refine F.ok scDraw (fun vs H Q E h => ?_) (fun cdv A outer s H vs Q E hr h => ?_)
  · obtain ⟨T, c, b, n, rfl, _⟩ := h
    rfl
  · obtain ⟨a, c, b, n, rfl, hb0, hb1, hn, hT, q⟩ := h
    obtain ⟨t, r, ns, h1, h2, h3, h4, h5, h6⟩ := hT.ex
    refine ⟨_,
      (pss_cons (ps_if (pt_cmpR op_gt (pe_ix ix_list (pv 0) pe_int (fun _ _ => rfl)) pe_int (nomark _))
      (pss_cons (ps_set (i := 2) scDraw.nd rfl (.inl rfl) (pe_op op_modN (pe_ix ix_list (pv 0) pe_int (fun _ _ => rfl)) (pv 1)))
      (pss_cons (ps_asg (pe_op op_fdivN (pe_ix ix_list (pv 0) pe_int (fun _ _ => rfl)) (pv 1)) (pg_sub (pv 0) pe_int set_list))
      (pss_one (ps_ret (pv 2)))))
      pss_nil)
      (pss_cons (ps_set (i := 3) scDraw.nd rfl (.inl rfl) (pe_ix ix_list (pv 0) pe_int (fun _ _ => rfl)))
      (pss_cut (ps_asg (pe_op op_add (pv 3) pe_int) (pg_sub (pv 0) pe_int set_list))
      (pss_cut (ps_set (i := 4) scDraw.nd rfl (.inl rfl) (pe_ifExp (pt_cmpR (op_neD hr.units) (pe_ix ix_list (pv 0) pe_int (fun _ _ => rfl)) (pe_lst pa_nil) (nomark _)) (pe_ix ix_list (pe_ix ix_list (pv 0) pe_int (fun _ _ => rfl)) (pe_op op_modN (pv 3) (pe_callB call_len_seq (by rfl) T.mlen PySem.boot_len (pa_cons (pe_ix ix_list (pv 0) pe_int (fun _ _ => rfl)) pa_nil))) (fun _ _ => rfl)) (pe_op op_add (pe_op op_mul pe_int (pv 3)) pe_int)))
      (pss_cut (ps_if (PW.pt (pw_and (pt_cmpR op_lt (pv 3) (pe_callB call_len_seq (by rfl) T.mlen PySem.boot_len (pa_cons (pe_ix ix_list (pv 0) pe_int (fun _ _ => rfl)) pa_nil)) (nomark _)) (pw_and1 (pt_cmpR op_ge (pv 4) (pe_op op_pow pe_int pe_int) (nomark _)))))
      (pss_cons (ps_asg (pe_op op_fdivN (pv 4) (pv 1)) (pg_sub (pv 0) pe_int set_list))
      (pss_one (ps_ret (pe_op op_modN (pv 4) (pv 1)))))
      pss_nil)
      (pss_cut (ps_set (i := 5) scDraw.nd rfl (.inl rfl) (pe_op op_modN (pe_op op_pow (pe_op op_add (pe_op op_add (pe_op op_modN (pv 4) pe_int) (pe_op op_mul pe_int (pv 3))) pe_int) pe_int) pe_int))
      (pss_cut (ps_set (i := 5) scDraw.nd rfl (.inl rfl) (pe_op op_modN (pe_op op_mul (pe_op op_add (pe_op op_fdivN (pv 5) pe_int) pe_int) (pe_op op_add (pe_op op_modN (pe_op op_mul pe_int (pv 3)) pe_int) pe_int)) pe_int))
      (pss_one (ps_ret (pe_op op_modN (pe_op op_fdivN (pv 5) pe_int) (pv 1)))))))))))
      , ?_⟩
    -- if feed[2] > 0
    refine ⟨_, rfl, a, _, 2, _, rfl, rfl, SqL.of h1, atI_nat (j := 2) rfl, _, _, rfl, rfl, _, rfl, ite2 (fun _ => ?_) (fun _ => ?_)⟩
    · obtain ⟨e1, e2⟩ := fmod_in (a := r) hb0
      refine ⟨_, rfl, a, _, 2, _, rfl, rfl, SqL.of h1, atI_nat (j := 2) rfl, _, rfl, _, _, rfl, rfl, by omega, ?_⟩
      refine ⟨_, rfl, a, _, 2, _, rfl, rfl, SqL.of h1, atI_nat (j := 2) rfl, _, rfl, _, _, rfl, rfl, ⟨by omega, by omega⟩, ?_⟩
      refine ⟨_, rfl, a, _, 2, 2, rfl, rfl, h1, rfl, ?_⟩
      refine ⟨_, rfl, q _ _ e1 e2 ⟨t, _, ns, upd_same, ?_, h3, h4, by omega, h6⟩ Keep.refl.updT⟩
      rw [upd_ne h3]; exact h2
    · refine ⟨_, rfl, a, _, 1, _, rfl, rfl, SqL.of h1, atI_nat (j := 1) rfl, ?_⟩
      refine ⟨fun σ H2 => σ = [some (.ref a), some (.int b), none, some (.int t), none, none] ∧ H2 a = some (.lst [.ref c, .int (t + 1), .int r]) ∧ H2 c = some (.lst (ns.map V.int)) ∧ Keep a H H2, ?_, ?_⟩
      · refine ⟨_, rfl, _, _, rfl, rfl, _, rfl, a, _, 1, 1, rfl, rfl, h1, rfl, rfl, upd_same, ?_, Keep.refl.updT⟩
        rw [upd_ne h3]; exact h2
      rintro σ H1 ⟨rfl, g1, g2, k0⟩
      refine ⟨fun σ H2 => ∃ cell : Int, σ = [some (.ref a), some (.int b), none, some (.int t), some (.int cell), none] ∧ H2 a = some (.lst [.ref c, .int (t + 1), .int r]) ∧ H2 c = some (.lst (ns.map V.int)) ∧ Keep a H H2, ?_, ?_⟩
      · refine ⟨_, rfl, a, _, 0, _, rfl, rfl, SqL.of g1, atI_nat (j := 0) rfl, Nat.zero_le _, fun l hl => ?_⟩
        have u1 := upd_at (o := .lst []) hl g1
        have u2 := upd_at (o := .lst []) hl g2
        refine ⟨_, .list [], .lst (SqL.of u2) (dp_ints _), .lst (SqL.of upd_same) .nil, ke_shaped_ints ns, ke_shaped_ints [], _, rfl, ?_⟩
        cases hns : ns with
        | nil =>
          refine iteF ⟨_, rfl, _, _, rfl, rfl, .inl ⟨by decide, by decide⟩, _, _, rfl, rfl, _, rfl, u1, by rw [← hns]; exact u2, k0.new hl⟩
        | cons z zs =>
          refine iteT ?_
          rw [← hns]
          have hpos : 0 < (ns.length : Int) := by rw [hns]; simp
          refine ⟨_, rfl, a, _, 0, _, rfl, rfl, SqL.of u1, atI_nat (j := 0) rfl, _, rfl, _, rfl, a, _, 0, _, rfl, rfl, SqL.of u1, atI_nat (j := 0) rfl, c, _, rfl, .inl (SqL.of u2), _, _, rfl, rfl, ?_, ?_⟩
          · rw [List.length_map]; omega
          · obtain ⟨e1, e2⟩ := fmod_in (a := t) hpos
            obtain ⟨j, hj⟩ := Int.eq_ofNat_of_zero_le e1
            have hj2 : j < ns.length := by omega
            refine ⟨c, _, (j : Int), .int ns[j], rfl, ?_, SqL.of u2, atI_nat ?_, _, rfl, u1, u2, k0.new hl⟩
            · exact congrArg V.int (by rw [List.length_map]; exact hj)
            · rw [List.getElem?_map, List.getElem?_eq_getElem hj2]; rfl
      · rintro σ H2 ⟨cell, rfl, u1, u2, k2⟩
        have tp : ∀ (r' : Int) (H3 : Hp), H3 a = some (.lst [.ref c, .int (t + 1), .int r']) → H3 c = some (.lst (ns.map V.int)) → Tape H3 a c (n + 1) := fun r' H3 x1 x2 => ⟨t + 1, r', ns, x1, x2, h3, by omega, by omega, h6⟩
        refine ⟨fun σ H3 => σ = [some (.ref a), some (.int b), none, some (.int t), some (.int cell), none] ∧ H3 = H2, ?_, ?_⟩
        · refine ⟨_, rfl, _, rfl, a, _, 0, _, rfl, rfl, SqL.of u1, atI_nat (j := 0) rfl, c, _, rfl, .inl (SqL.of u2), _, _, rfl, rfl, _, rfl, ite2 (fun _ => ?_) (fun _ => iteF ⟨rfl, rfl⟩)⟩
          refine ⟨_, rfl, _, _, rfl, rfl, ⟨by decide, by decide, by decide⟩, _, _, rfl, rfl, _, rfl, ite2 (fun _ => ?_) (fun _ => ⟨rfl, rfl⟩)⟩
          refine ⟨_, rfl, _, rfl, _, _, rfl, rfl, ⟨by omega, by omega⟩, _, rfl, a, _, 2, 2, rfl, rfl, u1, rfl, ?_⟩
          refine ⟨_, rfl, _, rfl, _, _, rfl, rfl, by omega, ?_⟩
          exact q _ _ (fmod_in hb0).1 (fmod_in hb0).2 (tp _ _ upd_same (by rw [upd_ne h3]; exact u2)) k2.updT
        · rintro σ H3 ⟨rfl, rfl⟩
          obtain ⟨c0, c1⟩ := fmod_in (a := cell) (b := 2147483629) (by decide)
          refine ⟨fun σ H4 => ∃ m1 : Int, σ = [some (.ref a), some (.int b), none, some (.int t), some (.int cell), some (.int m1)] ∧ H4 = H3, ?_, ?_⟩
          · refine ⟨_, rfl, _, _, rfl, rfl, (by show (2147483629 : Int) ≠ 0; decide), _, rfl, _, _, rfl, rfl, .inl ⟨by decide, by decide⟩, _, _, rfl, rfl, _, _, rfl, rfl, _, _, rfl, rfl, ⟨by decide, by decide, by omega⟩, _, _, rfl, rfl, (by show (2147483647 : Int) ≠ 0; decide), _, rfl, rfl⟩
          rintro σ H4 ⟨m1, rfl, rfl⟩
          refine ⟨fun σ H5 => ∃ m2 : Int, σ = [some (.ref a), some (.int b), none, some (.int t), some (.int cell), some (.int m2)] ∧ H5 = H4, ?_, ?_⟩
          · obtain ⟨f0, f1⟩ := fmod_in (a := 48271 * t) (b := 65521) (by decide)
            refine ⟨_, rfl, _, _, rfl, rfl, ⟨by decide, by decide⟩, _, _, rfl, rfl, _, rfl, _, _, rfl, rfl, .inl ⟨by decide, by decide⟩, _, _, rfl, rfl, (by show (65521 : Int) ≠ 0; decide), _, _, rfl, rfl, _, _, rfl, rfl, .inr ⟨by omega, by omega⟩, _, _, rfl, rfl, (by show (2147483587 : Int) ≠ 0; decide), _, rfl, rfl⟩
          rintro σ H5 ⟨m2, rfl, rfl⟩
          refine ⟨_, rfl, _, _, rfl, rfl, ⟨by decide, by decide⟩, _, rfl, _, _, rfl, rfl, by omega, ?_⟩
          exact q _ _ (fmod_in hb0).1 (fmod_in hb0).2 (tp _ _ u1 u2) k2
/-- an item of a list by a draw -/
theorem ok_of {f fD : Addr} {fd fdD : FuncData} {k : Nat} (F : Fun K "_law_of" "_law_of" sOf f fd) (T : Txt0 mg) (F_law_draw : Fun K "_law_draw" "_law_draw" sDraw fD fdD) (g_law_draw : mg "_law_draw" = some (.ref fD)) (b_law_draw : Binds K fdD ["_law_feed_here", "_law_many"] []) :
    FnOk P w K mg base CX0 (k + 2) f fd ["_law_feed_here", "_law_some"] spPick := by
  have G_law_draw : FnOk P w K mg base CX0 (k + 1) fD fdD ["_law_feed_here", "_law_many"] spDraw := ok_draw F_law_draw T
  refine F.ok scOf (fun vs H Q E h => ?_) (fun cdv A outer s H vs Q E hr h => ?_)
  · obtain ⟨T, c, p, xs, n, rfl, _⟩ := h
    rfl
  · obtain ⟨a, c, p, xs, n, rfl, hS, hpa, hx0, hx1, hn, hT, q⟩ := h
    have hr_law_draw := hr
    refine ⟨_,
      (pss_one (ps_ret (pe_ix ix_list (pv 1) (pe_call G_law_draw hr_law_draw (by rfl) g_law_draw F_law_draw.kp b_law_draw .nil pass0 (pa_cons (pv 0) (pa_cons (pe_callB call_len_seq (by rfl) T.mlen PySem.boot_len (pa_cons (pv 1) pa_nil)) pa_nil))) (fun _ _ => rfl))))
      , ?_⟩
    refine ⟨_, rfl, _, rfl, _, rfl, p, xs, rfl, .inl (SqL.of hS), a, c, xs.length, n, rfl, by omega, by omega, hn, hT, fun d H' d0 d1 T' k' => ?_⟩
    obtain ⟨j, rfl⟩ := Int.eq_ofNat_of_zero_le d0
    have hj : j < xs.length := by omega
    exact ⟨p, xs, (j : Int), xs[j], rfl, rfl, SqL.of (k' p _ hpa hS), atI_nat (List.getElem?_eq_getElem hj), q j _ _ (List.getElem?_eq_getElem hj) T' k'⟩
/-- the tape's making: the cells in a list of their own -/
theorem ok_feed {f : Addr} {fd : FuncData} {k : Nat} (F : Fun K "_law_feed" "_law_feed" sFeed f fd) (T : TxtF mg) : FnOk P w K mg base CX0 (k + 1) f fd ["_law_script"] (spTape K) := by
  refine F.ok scFeed (fun vs H Q E h => ?_) (fun cdv A outer s H vs Q E hr h => ?_)
  · obtain ⟨a, ns, rfl, _⟩ := h
    rfl
  · obtain ⟨a, ns, rfl, hS, hlen, q⟩ := h
    refine ⟨_,
      (pss_one (ps_ret (pe_lst (pa_cons (pe_callTy call_list_of (by rfl) T.mlist (by decide +kernel) (pa_cons (pe_slice sl_list (pv 0) po_none (po_some pe_int)) pa_nil)) (pa_cons pe_int (pa_cons pe_int pa_nil))))))
      , ?_⟩
    refine ⟨_, rfl, _, rfl, a, _, rfl, hS, fun p0 hp0 => ?_⟩
    refine ⟨p0, _, rfl, .inl (SqL.of upd_same), fun p hp => ?_⟩
    refine ⟨by show 3 ≤ sizeLine; decide, fun l hl => ?_⟩
    have nlp : p ≠ l := fun e => by rw [e, upd_same] at hl; cases hl
    have hp1 : H p = none := by
      by_cases e : p = p0
      · rw [e, upd_same] at hp; cases hp
      · rw [upd_ne e] at hp; exact hp
    have hl0 : H l = none := by
      rw [upd_ne nlp.symm] at hl
      by_cases e : l = p0
      · rw [e, upd_same] at hl; cases hl
      · rw [upd_ne e] at hl; exact hl
    refine q l p _ hl0 hp1 (fun b o e => upd_at hl (upd_at hp (upd_at hp0 e))) ⟨0, 0, ns, upd_same, ?_, nlp, by omega, by omega, hlen⟩
    rw [upd_ne nlp, upd_same, cut63 hlen]
end
/-! ### heaps that grow -/
theorem Tape.same {H H' : Hp} {T c : Addr} {n : Nat} (h : Tape H T c n) (s : Same H H') : Tape H' T c n := by
  obtain ⟨t, r, ns, h1, h2, h3, h4, h5, h6⟩ := h.ex
  exact ⟨t, r, ns, s _ _ h1, s _ _ h2, h3, h4, h5, h6⟩
theorem Keep.same {T : Addr} {H H1 H2 : Hp} (a : Keep T H H1) (b : Same H1 H2) : Keep T H H2 := fun x o n e => b x o (a x o n e)
theorem same_upd {H : Hp} {p : Addr} {o : HO} (h : H p = none) : Same H (upd H p o) := fun b x e => by
  rw [upd_ne (ne_of_none e h)]; exact e
theorem same_refl {H : Hp} : Same H H := fun _ _ e => e
theorem small_line {n : Nat} (h : n ≤ 100) : n ≤ sizeLine := Nat.le_trans h (by decide)
/-! ### data over heaps that change -/
mutual
/-- data without lists -/
def noL : PyData → Bool
  | .list _ => false
  | .tuple ds => noLs ds
  | .dict _ => false
  | _ => true
def noLs : List PyData → Bool
  | [] => true
  | d :: ds => noL d && noLs ds
end
theorem sqT_same {K : PySem.W.Frag} {H H' : Hp} {a : Addr} {xs : List V} (h : SqT K H a xs) (s : Same H H') : SqT K H' a xs := by
  rcases h with (h | ⟨o, h⟩) | h
  · exact .inl (.inl (s _ _ h))
  · exact .inl (.inr ⟨o, s _ _ h⟩)
  · exact .inr h
theorem sqL_same {K : PySem.W.Frag} {H H' : Hp} {a : Addr} {xs : List V} (h : SqL K H a xs) (s : Same H H') : SqL K H' a xs := by
  rcases h with (h | ⟨o, h⟩) | h
  · exact .inl (.inl (s _ _ h))
  · exact .inl (.inr ⟨o, s _ _ h⟩)
  · exact .inr h
theorem sqT_keep {K : PySem.W.Frag} {T : Addr} {H H' : Hp} {ys : List V} {a : Addr} {xs : List V} (hT : H T = some (.lst ys)) (h : SqT K H a xs) (s : Keep T H H') : SqT K H' a xs := by
  rcases h with (h | ⟨o, h⟩) | h
  · exact .inl (.inl (s _ _ (ne_of h hT (by intro z; cases z)) h))
  · exact .inl (.inr ⟨o, s _ _ (ne_of h hT (by intro z; cases z)) h⟩)
  · exact .inr h
mutual
theorem dp_same {K : PySem.W.Frag} {H H' : Hp} (s : Same H H') : ∀ (d : PyData) (v : V), Dp K H v d → Dp K H' v d
  | .none, _, h => by cases h; exact .non
  | .bool b, _, h => by cases h; exact .bl b
  | .int i, _, h => by cases h; exact .int i
  | .str x, _, h => by cases h; exact .str x
  | .list ds, _, h => by cases h with | lst a b => exact .lst (sqL_same a s) (dps_same s ds _ b)
  | .tuple ds, _, h => by cases h with | tup a b => exact .tup (sqT_same a s) (dps_same s ds _ b)
  | .dict _, _, h => by cases h
theorem dps_same {K : PySem.W.Frag} {H H' : Hp} (s : Same H H') : ∀ (ds : List PyData) (vs : List V), DpAll K H vs ds → DpAll K H' vs ds
  | [], _, h => by cases h; exact .nil
  | d :: ds, _, h => by cases h with | cons a b => exact .cons (dp_same s d _ a) (dps_same s ds _ b)
end
mutual
theorem dp_tups {K : PySem.W.Frag} {H H' : Hp} (s : ∀ a xs, SqT K H a xs → SqT K H' a xs) : ∀ (d : PyData) (v : V), noL d = true → Dp K H v d → Dp K H' v d
  | .none, _, _, h => by cases h; exact .non
  | .bool b, _, _, h => by cases h; exact .bl b
  | .int i, _, _, h => by cases h; exact .int i
  | .str x, _, _, h => by cases h; exact .str x
  | .list ds, _, n, h => by simp [noL] at n
  | .tuple ds, _, n, h => by cases h with | tup a b => exact .tup (s _ _ a) (dps_tups s ds _ (by simpa [noL] using n) b)
  | .dict _, _, _, h => by cases h
theorem dps_tups {K : PySem.W.Frag} {H H' : Hp} (s : ∀ a xs, SqT K H a xs → SqT K H' a xs) : ∀ (ds : List PyData) (vs : List V), noLs ds = true → DpAll K H vs ds → DpAll K H' vs ds
  | [], _, _, h => by cases h; exact .nil
  | d :: ds, _, n, h => by
    have n' : noL d = true ∧ noLs ds = true := by simpa [noLs] using n
    cases h with | cons a b => exact .cons (dp_tups s d _ n'.1 a) (dps_tups s ds _ n'.2 b)
end
theorem dps_keep {K : PySem.W.Frag} {T : Addr} {H H' : Hp} {ys : List V} {ds : List PyData} {vs : List V} (h : DpAll K H vs ds) (hT : H T = some (.lst ys)) (s : Keep T H H') (n : noLs ds = true) : DpAll K H' vs ds := dps_tups (fun _ _ z => sqT_keep hT z s) ds vs n h
theorem dp_keep {K : PySem.W.Frag} {T : Addr} {H H' : Hp} {ys : List V} {d : PyData} {v : V} (h : Dp K H v d) (hT : H T = some (.lst ys)) (s : Keep T H H') (n : noL d = true) : Dp K H' v d := dp_tups (fun _ _ z => sqT_keep hT z s) d v n h
theorem dps_len {K : PySem.W.Frag} {H : Hp} : ∀ {vs : List V} {ds : List PyData}, DpAll K H vs ds → vs.length = ds.length
  | _, _, .nil => rfl
  | _, _, .cons _ r => congrArg (· + 1) (dps_len r)
theorem dps_at {K : PySem.W.Frag} {H : Hp} : ∀ {vs : List V} {ds : List PyData} {i : Nat} {x : V}, DpAll K H vs ds → vs[i]? = some x → ∃ d, ds[i]? = some d ∧ Dp K H x d
  | _, _, _, _, .nil, e => by cases e
  | _, _, 0, _, .cons h _, e => by cases e; exact ⟨_, rfl, h⟩
  | _, _, i + 1, _, .cons _ r, e => dps_at (i := i) r e
theorem dps_app {K : PySem.W.Frag} {H : Hp} : ∀ {vs ws : List V} {ds es : List PyData}, DpAll K H vs ds → DpAll K H ws es → DpAll K H (vs ++ ws) (ds ++ es)
  | _, _, _, _, .nil, h => h
  | _, _, _, _, .cons a r, h => .cons a (dps_app r h)
theorem dp_tup {K : PySem.W.Frag} {H : Hp} {v : V} {ds : List PyData} (h : Dp K H v (.tuple ds)) : ∃ a xs, v = .ref a ∧ SqT K H a xs ∧ DpAll K H xs ds := by cases h with | tup a b => exact ⟨_, _, rfl, a, b⟩
theorem dp_lst {K : PySem.W.Frag} {H : Hp} {v : V} {ds : List PyData} (h : Dp K H v (.list ds)) : ∃ a xs, v = .ref a ∧ SqL K H a xs ∧ DpAll K H xs ds := by cases h with | lst a b => exact ⟨_, _, rfl, a, b⟩
theorem noLs_map {α : Type} (f : α → PyData) (h : ∀ x, noL (f x) = true) : ∀ l : List α, noLs (l.map f) = true
  | [] => rfl
  | x :: l => by rw [List.map_cons, noLs, h x, noLs_map f h l]; rfl
/-! ### defs that make lambdas; what stays but the tables -/
section
open LamX (Tabs ExtN)
variable {P : Program} {w : World} {K : PySem.W.Frag} {mg : Str → Option Value} {base : Heap} {x qual : Str} {params : Arguments} {body : List Stmt} {scope : Scope} {dvs : List V} {kws : List (Str × V)} {f c : Addr} {fd : FuncData} {N ps : List Str} {k : Nat} {sp : Sp}
theorem _root_.L2.FunD.okN (F : FunD K x qual params body scope dvs kws f fd) (S : FnScope N ps scope) (len : ∀ vs H Q E, sp vs H Q E → vs.length = ps.length)
    (hbody : ∀ (cdv : Value) (A : Around) (outer : List Env) (s : Shared) (H : Hp) (vs : List V) (Q : VK) (E : XK), Room k (A.deeper (envOfC qual scope s.heap.objs.size f cdv)) → sp vs H Q E →
      ∃ t, PSs (cxOf CX0 P w K mg base N qual scope f cdv A outer s H E).nox body t ∧ t { nx := fun _ H' => Q .non H', rt := Q } (start N vs) H) : FnOk P w K mg base CX0 (k + 1) f fd ps sp :=
  F.ok S len fun cdv A outer s H vs Q E hr h => by
    obtain ⟨t, h1, q⟩ := hbody cdv A outer s H vs Q E hr h
    exact ⟨t, h1.nox, q⟩
theorem _root_.L2.FunD.okC (F : FunD K x qual params body scope dvs kws f fd) (hc : fd.code = .ref c) (S : FnScope N ps scope) (len : ∀ vs H Q E, sp vs H Q E → vs.length = ps.length)
    (hbody : ∀ (A : Around) (outer : List Env) (s : Shared) (H : Hp) (vs : List V) (Q : VK) (E : XK), Room k (A.deeper (envOfC qual scope s.heap.objs.size f (.ref c))) → sp vs H Q E →
      ∃ t, PSs (cxOf CX0 P w K mg base N qual scope f (.ref c) A outer s H E).nox body t ∧ t { nx := fun _ H' => Q .non H', rt := Q } (start N vs) H) : FnOk P w K mg base CX0 (k + 1) f fd ps sp := by
  obtain ⟨oc, od, dV, kV, doc, pm, an, cdv, ct, osl, rfl, lk, hcd, _, _⟩ := F.ex
  obtain rfl : cdv = .ref c := hc
  refine fn_of lk hcd S len fun A outer s H vs Q E hr h => ?_
  obtain ⟨t, h1, q⟩ := hbody A outer s H vs Q E hr h
  exact ⟨t, h1.nox, q⟩
theorem _root_.L2.Fun.okC {st : Stmt} (F : Fun K x qual st f fd) (hc : fd.code = .ref c) (S : FnScope N ps (defScope st)) (len : ∀ vs H Q E, sp vs H Q E → vs.length = ps.length)
    (hbody : ∀ (A : Around) (outer : List Env) (s : Shared) (H : Hp) (vs : List V) (Q : VK) (E : XK), Room k (A.deeper (envOfC qual (defScope st) s.heap.objs.size f (.ref c))) → sp vs H Q E →
      ∃ t, PSs (cxOf CX0 P w K mg base N qual (defScope st) f (.ref c) A outer s H E).nox (defBody st) t ∧ t { nx := fun _ H' => Q .non H', rt := Q } (start N vs) H) : FnOk P w K mg base CX0 (k + 1) f fd ps sp := by
  obtain ⟨oc, od, kV, doc, pm, an, cdv, ct, osl, rfl, lk, hcd⟩ := F.ex
  obtain rfl : cdv = .ref c := hc
  refine fn_of lk hcd S len fun A outer s H vs Q E hr h => ?_
  obtain ⟨t, h1, q⟩ := hbody A outer s H vs Q E hr h
  exact ⟨t, h1.nox, q⟩
/-- all but the tables stays, and the tables are ones still -/
def Sm (TT : List (Addr × Str)) (H H' : Hp) : Prop := ExtN H H' ∧ (Tabs TT H → Tabs TT H') ∧ ∀ b, H' b = none → H b = none
variable {TT : List (Addr × Str)} {H H' H1 H2 : Hp}
theorem Sm.refl : Sm TT H H := ⟨ExtN.refl H, id, fun _ => id⟩
theorem Sm.trans (a : Sm TT H H1) (b : Sm TT H1 H2) : Sm TT H H2 := ⟨a.1.trans b.1, fun t => b.2.1 (a.2.1 t), fun x h => a.2.2 x (b.2.2 x h)⟩
theorem _root_.L2.Same.sm (s : Same H H') : Sm TT H H' := ⟨ExtN.of s, fun t => t.ext s, fun b h => by
  cases e : H b with
  | none => rfl
  | some u => rw [s _ _ e] at h; cases h⟩
theorem sm_upd {p : Addr} {o : HO} (h : H p = none) : Sm TT H (upd H p o) := (same_upd h).sm
theorem Sm.at {b : Addr} {u : HO} (s : Sm TT H H') (e : H b = some u) (n : ∀ ps, u ≠ .tbl ps := by intro ps z; cases z) : H' b = some u := s.1 b u e n
theorem Sm.none {b : Addr} (s : Sm TT H H') (h : H' b = none) : H b = none := s.2.2 b h
/-- a list that changes is neither a table nor a code object -/
theorem tabs_lst {F : Addr} {xs : List V} (hF : H F = some (.lst xs)) (h : ∀ b o, b ≠ F → H b = some o → H' b = some o) (t : Tabs TT H) : Tabs TT H' := by
  intro p hp
  obtain ⟨ps, h1, h2, h3⟩ := t p hp
  refine ⟨ps, h _ _ (ne_of h1 hF (by intro z; cases z)) h1, h2, fun pos cv hc => ?_⟩
  obtain ⟨c, e1, e2⟩ := h3 pos cv hc
  exact ⟨c, e1, h _ _ (ne_of e2 hF (by intro z; cases z)) e2⟩
/-- a list of one's own, changed -/
theorem Sm.lst {H0 : Hp} {p : Addr} {xs : List V} {o : HO} (s : Sm TT H0 H) (h0 : H0 p = Option.none) (e : H p = some (.lst xs)) : Sm TT H0 (upd H p o) := by
  refine ⟨fun b u hb n => ?_, fun t => ?_, fun b h => s.none (upd_none h)⟩
  · rw [upd_ne (ne_of_none hb h0)]; exact s.1 b u hb n
  · exact tabs_lst e (fun b o n e => by rw [upd_ne n]; exact e) (s.2.1 t)
theorem sqT_sm {a : Addr} {xs : List V} (h : SqT K H a xs) (s : Sm TT H H') : SqT K H' a xs := by
  rcases h with (h | ⟨o, h⟩) | h
  · exact .inl (.inl (s.at h))
  · exact .inl (.inr ⟨o, s.at h⟩)
  · exact .inr h
theorem sqL_sm {a : Addr} {xs : List V} (h : SqL K H a xs) (s : Sm TT H H') : SqL K H' a xs := by
  rcases h with (h | ⟨o, h⟩) | h
  · exact .inl (.inl (s.at h))
  · exact .inl (.inr ⟨o, s.at h⟩)
  · exact .inr h
mutual
theorem dp_sm (s : Sm TT H H') : ∀ (d : PyData) (v : V), Dp K H v d → Dp K H' v d
  | .none, _, h => by cases h; exact .non
  | .bool b, _, h => by cases h; exact .bl b
  | .int i, _, h => by cases h; exact .int i
  | .str x, _, h => by cases h; exact .str x
  | .list ds, _, h => by cases h with | lst a b => exact .lst (sqL_sm a s) (dps_sm s ds _ b)
  | .tuple ds, _, h => by cases h with | tup a b => exact .tup (sqT_sm a s) (dps_sm s ds _ b)
  | .dict _, _, h => by cases h
theorem dps_sm (s : Sm TT H H') : ∀ (ds : List PyData) (vs : List V), DpAll K H vs ds → DpAll K H' vs ds
  | [], _, h => by cases h; exact .nil
  | d :: ds, _, h => by cases h with | cons a b => exact .cons (dp_sm s d _ a) (dps_sm s ds _ b)
end
end
/-! ### o.m(k = v, ..) -/
section
variable {X : Cx} {CX : CXT} {k : Nat} {f C : Addr} {fd : FuncData} {ps ks : List Str} {sp : Sp} {E : XK} {m : Str} {apos pos : Pos} {o : Expr} {kws : List Keyword} {ta : TE} {tk : TA} {g : List Value → List Value → List Value} {gV : List V → List V → List V}
def tMethK0 (C : Addr) (m : Str) (sp : Sp) (gV : List V → List V → List V) (E : XK) (ta : TE) (tk : TA) : TE := fun σ H Q => ta σ H fun x H1 => ∃ a dx fs, x = .ref a ∧ H1 a = some (.ins C dx fs) ∧ fs.lookup m = none ∧ tk σ H1 fun zs H2 => sp (gV [.ref a] zs) H2 Q E
theorem pe_methK0 {pl : Sem Bool} (he : PE X o ta) (c : Cls X.K C) (hm : Meth X.K C m f) (F : FnOk X.prog X.w X.K X.mg X.base CX k f fd ps sp) (hr : Room k X.A) (hb : KBinds X.K fd ps ks g gV) (hx : Passes CX X E)
    (hkw : PK X kws tk) (hall : (backToKw pos (keywordEach kws X.env)).all (·.1.isSome) = true := by rfl) (hks : (backToKw pos (keywordEach kws X.env)).filterMap (·.1) = ks := by rfl)
    (hpl : ((backTo pos (starEach [] X.env)).any (·.1) || (backToKw pos (keywordEach kws X.env)).any (·.1.isNone)) = false := by rfl)
    (ht : eval (.Call (.Attribute o m apos) [] kws pos) X.env = (do
      let ov ← eval o X.env
      standAt apos.atName
      let (f, first) ← holding [ov] (getMethod ov m pl)
      callWith pos f first (backTo pos (starEach [] X.env)) (backToKw pos (keywordEach kws X.env))) := by rfl) :
    PE X (.Call (.Attribute o m apos) [] kws pos) (tMethK0 C m sp gV E ta tk) := by
  refine ⟨fun pins s σ H Q I h => ?_⟩
  refine PySem.W.methodCall_KW (pl := pl) (thn (he.run pins s σ H _ I h) fun u s1 ⟨x, H1, I1, rx, a, dx, fs, ex, ea, l, q⟩ => ?_) ht
  subst ex
  obtain rfl : u = Value.ref a := rx
  refine getmeth_ok I1 ea c hm l ?_
  refine PySem.W.callWith_KW0 (first := [.ref a]) (h₀ := X.base) I.ok.mod.kin hm.kp hall ?_ hpl
  refine thn (hkw.run pos pins s1 σ H1 _ I1 q) fun ws s2 ⟨zs, H2, I2, rz, q2⟩ => ⟨I2.kIn, ?_⟩
  rw [hks]
  exact run_fnk (us := [.ref a]) (vs := [.ref a]) F hr hb hx I2 (.cons rfl .nil) rz q2
/-- n values by their places, m by keywords, these turned about -/
def kwN {α : Type} (n m : Nat) (us ws : List α) : List α := if us.length = n ∧ ws.length = m then us ++ ws.reverse else []
theorem kwN_vals {n m : Nat} {vs zs : List V} {us ws : List Value} (a : Vals vs us) (b : Vals zs ws) : Vals (kwN n m vs zs) (kwN n m us ws) := by
  unfold kwN
  rw [a.length, b.length]
  split
  · exact a.append (vals_rev b)
  · exact .nil
theorem fun_kbindsN {K : Frag} {x qual : Str} {st : Stmt} {f : Addr} {fd : FuncData} {ps ks : List Str} (n : Nat) (F : Fun K x qual st f fd) (hn : ps ≠ [])
    (h : ∀ (kV doc pm : Value) (an : Option Addr) (cdv ct : Value) (us ws : List Value), us.length = n → ws.length = ks.length → bindArgs (PySem.W.fnOf x qual (defArgs st) (defBody st) (defScope st) .none kV doc pm an cdv ct) ⟨us, ks.zip ws⟩ = pure (ps.zip (us ++ ws.reverse))) :
    KBinds K fd ps ks (kwN n ks.length) (kwN n ks.length) := by
  obtain ⟨oc, od, kV, doc, pm, an, cdv, ct, osl, rfl, lk, hcd⟩ := F.ex
  refine ⟨fun s us ws _ hl => ?_, kwN_vals⟩
  unfold kwN at hl ⊢
  split at hl
  · rename_i c
    rw [if_pos c]
    exact .of_eq (h kV doc pm an cdv ct us ws c.1 c.2)
  · exact absurd (List.eq_nil_of_length_eq_zero hl.symm) hn
end
/-! ### a Gauge -/
structure Gg where
  lag : Int
  high : Int
  top : Int
  thin : Int
  thick : Int
def ggF (g : Gg) : List (Str × V) := putF "thick" (.int g.thick) (putF "thin" (.int g.thin) (putF "top" (.int g.top) (putF "high" (.int g.high) (putF "lag" (.int g.lag) []))))
theorem ggF_lag (g : Gg) : (ggF g).lookup ("lag" : Str) = some (.int g.lag) := by
  unfold ggF; repeat (rw [lookup_putF]; first | rw [if_pos rfl] | rw [if_neg (by decide +kernel)])
theorem ggF_high (g : Gg) : (ggF g).lookup ("high" : Str) = some (.int g.high) := by
  unfold ggF; repeat (rw [lookup_putF]; first | rw [if_pos rfl] | rw [if_neg (by decide +kernel)])
theorem ggF_top (g : Gg) : (ggF g).lookup ("top" : Str) = some (.int g.top) := by
  unfold ggF; repeat (rw [lookup_putF]; first | rw [if_pos rfl] | rw [if_neg (by decide +kernel)])
theorem ggF_thin (g : Gg) : (ggF g).lookup ("thin" : Str) = some (.int g.thin) := by
  unfold ggF; repeat (rw [lookup_putF]; first | rw [if_pos rfl] | rw [if_neg (by decide +kernel)])
theorem ggF_thick (g : Gg) : (ggF g).lookup ("thick" : Str) = some (.int g.thick) := by
  unfold ggF; repeat (rw [lookup_putF]; first | rw [if_pos rfl] | rw [if_neg (by decide +kernel)])
/-- a name that is no field -/
theorem ggF_no (g : Gg) {x : Str} (h1 : ¬ x = "lag") (h2 : ¬ x = "high") (h3 : ¬ x = "top") (h4 : ¬ x = "thin") (h5 : ¬ x = "thick") : (ggF g).lookup x = none := by
  unfold ggF
  rw [lookup_putF, if_neg h5, lookup_putF, if_neg h4, lookup_putF, if_neg h3, lookup_putF, if_neg h2, lookup_putF, if_neg h1]
  rfl
theorem ggF_stand (g : Gg) : (ggF g).lookup ("stand" : Str) = none := ggF_no g (by decide +kernel) (by decide +kernel) (by decide +kernel) (by decide +kernel) (by decide +kernel)
def GgAt (C : Addr) (H : Hp) (p : Addr) (g : Gg) : Prop := ∃ dx, H p = some (.ins C dx (ggF g))
theorem GgAt.same {C : Addr} {H H' : Hp} {p : Addr} {g : Gg} (h : GgAt C H p g) (s : Same H H') : GgAt C H' p g := by
  obtain ⟨dx, e⟩ := h; exact ⟨dx, s _ _ e⟩
theorem GgAt.keep {C T : Addr} {H H' : Hp} {p : Addr} {g : Gg} {xs : List V} (h : GgAt C H p g) (hT : H T = some (.lst xs)) (s : Keep T H H') : GgAt C H' p g := by
  obtain ⟨dx, e⟩ := h; exact ⟨dx, s _ _ (ne_of e hT (by intro z; cases z)) e⟩
theorem made_same {H H' : Hp} {x dx : Addr} {o1 o2 : HO} (hx : H x = none) (hdx : H dx = none) (k : ∀ y o, y ≠ x → (upd (upd H dx o1) x o2) y = some o → H' y = some o) : Same H H' := fun y o e =>
  k y o (ne_of_none e hx) (by rw [upd_ne (ne_of_none e hx), upd_ne (ne_of_none e hdx)]; exact e)
/-! ### readings -/
structure Rd where
  m : Int
  w : Bool
  n : Int
def kindS (w : Bool) : Str := if w then "water" else "ice"
theorem kindS_inj {w v : Bool} : kindS w = kindS v ↔ w = v := by
  have : ¬ (("water" : Str) = "ice") := by decide +kernel
  cases w <;> cases v <;> simp [kindS, this, Ne.symm this]
inductive Rds (H : Hp) : List V → List Rd → Prop
  | nil : Rds H [] []
  | cons {a : Addr} {r : Rd} {xs : List V} {rs : List Rd} : H a = some (.tup [.int r.m, .str (kindS r.w), .int r.n]) → Rds H xs rs → Rds H (.ref a :: xs) (r :: rs)
theorem Rds.len {H : Hp} {xs : List V} {rs : List Rd} (h : Rds H xs rs) : xs.length = rs.length := by
  induction h with
  | nil => rfl
  | cons _ _ ih => rw [List.length_cons, List.length_cons, ih]
theorem Rds.at {H : Hp} {xs : List V} {rs : List Rd} (h : Rds H xs rs) : ∀ {i : Nat} {y : V}, xs[i]? = some y → ∃ a r, y = .ref a ∧ rs[i]? = some r ∧ H a = some (.tup [.int r.m, .str (kindS r.w), .int r.n]) := by
  induction h with
  | nil => intro i y e; cases e
  | cons e _ ih =>
    intro i y z
    cases i with
    | zero => cases z; exact ⟨_, _, rfl, rfl, e⟩
    | succ i => exact ih z
theorem Rds.mono {H H' : Hp} {xs : List V} {rs : List Rd} (h : Rds H xs rs) (s : ∀ a ts, H a = some (.tup ts) → H' a = some (.tup ts)) : Rds H' xs rs := by
  induction h with
  | nil => exact .nil
  | cons e _ ih => exact .cons (s _ _ e) ih
theorem Rds.app {H : Hp} {xs ys : List V} {rs ss : List Rd} (h : Rds H xs rs) (h2 : Rds H ys ss) : Rds H (xs ++ ys) (rs ++ ss) := by
  induction h with
  | nil => exact h2
  | cons e _ ih => exact .cons e ih
def RdsAt (H : Hp) (p : Addr) (rs : List Rd) : Prop := ∃ xs, H p = some (.lst xs) ∧ Rds H xs rs
theorem RdsAt.same {H H' : Hp} {p : Addr} {rs : List Rd} (h : RdsAt H p rs) (s : Same H H') : RdsAt H' p rs := by
  obtain ⟨xs, e, r⟩ := h; exact ⟨xs, s _ _ e, r.mono fun a ts z => s _ _ z⟩
theorem RdsAt.keep {T : Addr} {H H' : Hp} {p : Addr} {rs : List Rd} {ys : List V} (h : RdsAt H p rs) (hT : H T = some (.lst ys)) (n : p ≠ T) (s : Keep T H H') : RdsAt H' p rs := by
  obtain ⟨xs, e, r⟩ := h; exact ⟨xs, s _ _ n e, r.mono fun a ts z => s _ _ (ne_of z hT (by intro z; cases z)) z⟩
/-- the last reading's place and number, so far -/
def nStep (w : Bool) (u : Int) (s : Int × Int) (r : Rd) : Int × Int := if r.w = w ∧ s.1 ≤ r.m ∧ r.m ≤ u then (r.m, r.n) else s
def nFold (w : Bool) (u : Int) (rs : List Rd) : Int × Int := rs.foldl (nStep w u) (0, 0)
def numAt (rs : List Rd) (w : Bool) (u : Int) : Int := (nFold w u rs).2
theorem nFold_succ {w : Bool} {u : Int} {rs : List Rd} {i : Nat} {r : Rd} (h : rs[i]? = some r) : nFold w u (rs.take (i + 1)) = nStep w u (nFold w u (rs.take i)) r := by
  unfold nFold
  rw [List.take_succ, h, List.foldl_append]
  rfl
def standS (g : Gg) (wa ic : Int) : Str := if wa ≥ g.top then "lost" else if ic ≥ g.thick then "shut" else if wa ≥ g.high ∨ ic ≥ g.thin then "slow" else "free"
def standG (g : Gg) (rs : List Rd) (m : Int) : Str := standS g (numAt rs true (m - g.lag)) (numAt rs false m)
structure GCl (K : PySem.W.Frag) (mg : Str → Option Value) (C : Addr) : Prop where
  cl : Cls K C
  nL : NoAttr K C "lag"
  nH : NoAttr K C "high"
  nT : NoAttr K C "top"
  nN : NoAttr K C "thin"
  nK : NoAttr K C "thick"
  gC : mg "Gauge" = some (.ref C)
/-- the module's words -/
structure TxtW (mg : Str → Option Value) : Prop where
  mWATER : ∃ t, mg "WATER" = some (.str "water" t)
  mICE : ∃ t, mg "ICE" = some (.str "ice" t)
  mLOST : ∃ t, mg "LOST" = some (.str "lost" t)
  mSHUT : ∃ t, mg "SHUT" = some (.str "shut" t)
  mSLOW : ∃ t, mg "SLOW" = some (.str "slow" t)
  mFREE : ∃ t, mg "FREE" = some (.str "free" t)
abbrev FunDf_Gauge___init__ (K : PySem.W.Frag) (f : Addr) (fd : FuncData) : Prop := FunD K "__init__" "Gauge.__init__" (defArgs sGInit) (defBody sGInit) (defScope sGInit) [.int 60, .int 200, .int 400, .int 5, .int 20] [] f fd
theorem gi_b5 {K : PySem.W.Frag} {f : Addr} {fd : FuncData} (F : FunDf_Gauge___init__ K f fd) : Binds K fd ["self", "lag", "high", "top", "thin", "thick"] [] := by
  obtain ⟨ds, r, b⟩ := FunD.binds1 (ps := ["self", "lag", "high", "top", "thin", "thick"]) F 6 5 (by intro z; cases z) rfl fun _ _ _ _ _ _ _ us its hu hi => match us, its, hu, hi with | [_, _, _, _, _, _], [_, _, _, _, _], _, _ => ⟨_, rfl, rfl⟩
  cases r
  exact b
theorem gi_b0 {K : PySem.W.Frag} {f : Addr} {fd : FuncData} (F : FunDf_Gauge___init__ K f fd) : ∃ ds, Vals [.int 60, .int 200, .int 400, .int 5, .int 20] ds ∧ Binds K fd ["self", "lag", "high", "top", "thin", "thick"] ds :=
  FunD.binds1 (ps := ["self", "lag", "high", "top", "thin", "thick"]) F 1 0 (by intro z; cases z) rfl fun _ _ _ _ _ _ _ us its hu hi => match us, its, hu, hi with | [_], [_, _, _, _, _], _, _ => ⟨_, rfl, rfl⟩
/-- all five by keywords, turned about -/
def kwB5 {α : Type} (us _its ws : List α) : List α := us ++ ws.reverse
theorem gi_kb {K : PySem.W.Frag} {f : Addr} {fd : FuncData} (F : FunDf_Gauge___init__ K f fd) : ∃ its : List Value, KBn K fd ["self", "lag", "high", "top", "thin", "thick"] 1 ["thick", "thin", "top", "high", "lag"] (fun us ws => kwB5 us its ws) (fun vs zs => kwB5 vs [.int 60, .int 200, .int 400, .int 5, .int 20] zs) :=
  FunD.kbindsD F 1 ["thick", "thin", "top", "high", "lag"] kwB5 (by intro z; cases z) (fun a _ c => a.append (vals_rev c)) fun _ _ _ _ _ _ _ us its ws hu hi hw => match us, its, ws, hu, hi, hw with | [_], [_, _, _, _, _], [_, _, _, _, _], _, _, _ => ⟨_, rfl, rfl⟩
def spGInit (C : Addr) : Sp := fun vs H Q _ => ∃ (p dx : Addr) (g : Gg), vs = [.ref p, .int g.lag, .int g.high, .int g.top, .int g.thin, .int g.thick] ∧ H p = some (.ins C dx []) ∧ ∀ H', GgAt C H' p g → (∀ x o, x ≠ p → H x = some o → H' x = some o) → Q .non H'
def spNum : Sp := fun vs H Q _ => ∃ (p : Addr) (rs : List Rd) (w : Bool) (u : Int), vs = [.ref p, .str (kindS w), .int u] ∧ RdsAt H p rs ∧ Q (.int (numAt rs w u)) H
def spStand (C : Addr) : Sp := fun vs H Q _ => ∃ (p q : Addr) (g : Gg) (rs : List Rd) (m : Int), vs = [.ref p, .ref q, .int m] ∧ GgAt C H p g ∧ RdsAt H q rs ∧ Q (.str (standG g rs m)) H
section
variable {P : Program} {w : World} {K : PySem.W.Frag} {mg : Str → Option Value} {base : Heap} {C : Addr}
theorem ok_ginit {f : Addr} {fd : FuncData} {k : Nat} (F : FunDf_Gauge___init__ K f fd) (T : GCl K mg C) : FnOk P w K mg base CX0 (k + 1) f fd ["self", "lag", "high", "top", "thin", "thick"] (spGInit C) := by
  refine F.ok scGInit (fun vs H Q E h => ?_) (fun cdv A outer s H vs Q E hr h => ?_)
  · obtain ⟨p, dx, g, rfl, _⟩ := h
    rfl
  · obtain ⟨p, dx, g, rfl, hp, q⟩ := h
    refine ⟨_,
      (pss_cons (ps_fld (pv 0) (pv 1) rfl)
      (pss_cons (ps_fld (pv 0) (pv 2) rfl)
      (pss_cons (ps_fld (pv 0) (pv 3) rfl)
      (pss_cons (ps_fld (pv 0) (pv 4) rfl)
      (pss_one (ps_fld (pv 0) (pv 5) rfl))))))
      , ?_⟩
    refine ⟨_, rfl, _, rfl, p, C, dx, _, rfl, hp, T.cl, T.nL, (by show 0 < 1000; decide), ?_⟩
    refine ⟨_, rfl, _, rfl, p, C, dx, _, rfl, upd_same, T.cl, T.nH, (by show 1 < 1000; decide), ?_⟩
    refine ⟨_, rfl, _, rfl, p, C, dx, _, rfl, upd_same, T.cl, T.nT, (by show 2 < 1000; decide), ?_⟩
    refine ⟨_, rfl, _, rfl, p, C, dx, _, rfl, upd_same, T.cl, T.nN, (by show 3 < 1000; decide), ?_⟩
    refine ⟨_, rfl, _, rfl, p, C, dx, _, rfl, upd_same, T.cl, T.nK, (by show 4 < 1000; decide), ?_⟩
    exact q _ ⟨dx, upd_same⟩ fun x o n e => by rw [upd_ne n, upd_ne n, upd_ne n, upd_ne n, upd_ne n]; exact e
theorem ok_num {f : Addr} {fd : FuncData} {k : Nat} (F : Fun K "_number_at" "_number_at" sNumAt f fd) : FnOk P w K mg base CX0 (k + 1) f fd ["readings", "kind", "until"] spNum := by
  refine F.ok scNumAt (fun vs H Q E h => ?_) (fun cdv A outer s H vs Q E hr h => ?_)
  · obtain ⟨p, rs, w, u, rfl, _⟩ := h
    rfl
  · obtain ⟨p, rs, w, u, rfl, ⟨xs, hp, hrs⟩, q⟩ := h
    refine ⟨_,
      (pss_cons (ps_set (i := 3) scNumAt.nd rfl (.inl rfl) pe_int)
      (pss_cons (ps_set (i := 4) scNumAt.nd rfl (.inl rfl) pe_int)
      (pss_cons (ps_for PassesOwn.never rfl (pi_list (pv 0)) (pg_tup rfl (pgs_cons (pg_name (i := 5) scNumAt.nd rfl (.inl rfl)) (pgs_cons (pg_name (i := 6) scNumAt.nd rfl (.inl rfl)) (pgs_cons (pg_name (i := 7) scNumAt.nd rfl (.inl rfl)) pgs_nil))))
      (pss_one (ps_if (PW.pt (pw_and (pt_cmpR op_eq (pv 6) (pv 1) (nomark _)) (pw_and1 (pt_chain op_le op_le (pv 3) (pv 5) (pv 2)))))
      (pss_cons (ps_set (i := 3) scNumAt.nd rfl (.inl rfl) (pv 5))
      (pss_one (ps_set (i := 4) scNumAt.nd rfl (.inl rfl) (pv 7))))
      pss_nil)))
      (pss_one (ps_ret (pv 4))))))
      , ?_⟩
    refine ⟨_, rfl, p, rfl, ⟨_, SqL.of hp⟩, for_list (K := K) (a := p) (xs := xs) (fun j σ H' => ∃ v5 v6 v7, σ = [some (.ref p), some (.str (kindS w)), some (.int u), some (.int (nFold w u (rs.take j)).1), some (.int (nFold w u (rs.take j)).2), v5, v6, v7] ∧ H' = H)
      ⟨_, _, _, rfl, rfl⟩ (fun j σ H' _ ⟨_, _, _, _, z⟩ => z ▸ SqL.of hp) ?_ ?_⟩
    · rintro j y σ H' hj ⟨v5, v6, v7, rfl, rfl⟩
      obtain ⟨a, r, rfl, hr2, ha⟩ := hrs.at hj
      have es := nFold_succ (w := w) (u := u) hr2
      refine ⟨a, _, rfl, SqT.of ha, rfl, _, _, rfl, _, _, rfl, _, _, rfl, rfl, ?_⟩
      refine ⟨_, rfl, _, rfl, rfl, _, rfl, ite2 (fun c1 => ?_) (fun c1 => iteF ?_)⟩
      · have e1 : r.w = w := kindS_inj.mp (V.str.inj (of_decide_eq_true c1))
        refine ⟨_, rfl, _, rfl, _, _, rfl, rfl, _, rfl, ite2 (fun c2 => ?_) (fun c2 => ?_)⟩
        · refine ⟨_, rfl, _, _, rfl, rfl, _, rfl, ite2 (fun c3 => ?_) (fun c3 => ?_)⟩
          · have e2 : nStep w u (nFold w u (rs.take j)) r = (r.m, r.n) := if_pos ⟨e1, of_decide_eq_true c2, of_decide_eq_true c3⟩
            rw [es, e2]
            exact ⟨_, rfl, _, rfl, _, _, _, rfl, rfl⟩
          · have e2 : nStep w u (nFold w u (rs.take j)) r = nFold w u (rs.take j) := if_neg fun z => c3 (decide_eq_true z.2.2)
            rw [es, e2]
            exact ⟨_, _, _, rfl, rfl⟩
        · have e2 : nStep w u (nFold w u (rs.take j)) r = nFold w u (rs.take j) := if_neg fun z => c2 (decide_eq_true z.2.1)
          rw [es, e2]
          exact ⟨_, rfl, iteF ⟨_, _, _, rfl, rfl⟩⟩
      · have e2 : nStep w u (nFold w u (rs.take j)) r = nFold w u (rs.take j) := if_neg fun z => c1 (decide_eq_true (congrArg V.str (kindS_inj.mpr z.1)))
        rw [es, e2]
        exact ⟨_, _, _, rfl, rfl⟩
    · rintro σ H' ⟨v5, v6, v7, rfl, rfl⟩
      rw [hrs.len, List.take_length] at *
      exact ⟨_, rfl, q⟩
theorem ok_stand {f fN : Addr} {fd fdN : FuncData} {k : Nat} (F : Fun K "stand" "Gauge.stand" sGStand f fd) (T : GCl K mg C) (TW : TxtW mg) (F_number_at : Fun K "_number_at" "_number_at" sNumAt fN fdN) (g_number_at : mg "_number_at" = some (.ref fN)) (b_number_at : Binds K fdN ["readings", "kind", "until"] []) :
    FnOk P w K mg base CX0 (k + 2) f fd ["self", "readings", "minute"] (spStand C) := by
  have G_number_at : FnOk P w K mg base CX0 (k + 1) fN fdN ["readings", "kind", "until"] spNum := ok_num F_number_at
  refine F.ok scGStand (fun vs H Q E h => ?_) (fun cdv A outer s H vs Q E hr h => ?_)
  · obtain ⟨p, r, g, rs, m, rfl, _⟩ := h
    rfl
  · obtain ⟨p, r, g, rs, m, rfl, hp, hrs, q⟩ := h
    have hr_number_at := hr
    obtain ⟨tw, mWATER⟩ := TW.mWATER
    obtain ⟨ti, mICE⟩ := TW.mICE
    obtain ⟨tl, mLOST⟩ := TW.mLOST
    obtain ⟨ts, mSHUT⟩ := TW.mSHUT
    obtain ⟨to, mSLOW⟩ := TW.mSLOW
    obtain ⟨tf, mFREE⟩ := TW.mFREE
    refine ⟨_,
      (pss_cons (ps_set (i := 3) scGStand.nd rfl (.inl rfl) (pe_call G_number_at hr_number_at (by rfl) g_number_at F_number_at.kp b_number_at .nil pass0 (pa_cons (pv 1) (pa_cons (pe_glob (v := .str "water") (by rfl) mWATER ⟨_, rfl⟩) (pa_cons (pe_op op_sub (pv 2) (pe_fld (pv 0) rfl)) pa_nil)))))
      (pss_cons (ps_set (i := 4) scGStand.nd rfl (.inl rfl) (pe_call G_number_at hr_number_at (by rfl) g_number_at F_number_at.kp b_number_at .nil pass0 (pa_cons (pv 1) (pa_cons (pe_glob (v := .str "ice") (by rfl) mICE ⟨_, rfl⟩) (pa_cons (pv 2) pa_nil)))))
      (pss_cons (ps_if (pt_cmpR op_ge (pv 3) (pe_fld (pv 0) rfl) (nomark _))
      (pss_one (ps_ret (pe_glob (v := .str "lost") (by rfl) mLOST ⟨_, rfl⟩)))
      pss_nil)
      (pss_cons (ps_if (pt_cmpR op_ge (pv 4) (pe_fld (pv 0) rfl) (nomark _))
      (pss_one (ps_ret (pe_glob (v := .str "shut") (by rfl) mSHUT ⟨_, rfl⟩)))
      pss_nil)
      (pss_cons (ps_if (PW.pt (pw_or (pt_cmpR op_ge (pv 3) (pe_fld (pv 0) rfl) (nomark _)) (pw_or1 (pt_cmpR op_ge (pv 4) (pe_fld (pv 0) rfl) (nomark _)))))
      (pss_one (ps_ret (pe_glob (v := .str "slow") (by rfl) mSLOW ⟨_, rfl⟩)))
      pss_nil)
      (pss_one (ps_ret (pe_glob (v := .str "free") (by rfl) mFREE ⟨_, rfl⟩))))))))
      , ?_⟩
    obtain ⟨dx, ep⟩ := id hp
    refine ⟨_, rfl, _, rfl, _, rfl, p, C, dx, _, _, rfl, ep, T.cl, T.nL, ggF_lag g, _, _, rfl, rfl, r, rs, true, _, rfl, hrs, ?_⟩
    refine ⟨_, rfl, _, rfl, r, rs, false, _, rfl, hrs, ?_⟩
    refine ⟨_, rfl, _, rfl, p, C, dx, _, _, rfl, ep, T.cl, T.nT, ggF_top g, _, _, rfl, rfl, _, rfl, ite2 (fun c1 => ?_) (fun c1 => ?_)⟩
    · have e : standG g rs m = "lost" := if_pos (of_decide_eq_true c1)
      rw [e] at q
      exact q
    refine ⟨_, rfl, _, rfl, p, C, dx, _, _, rfl, ep, T.cl, T.nK, ggF_thick g, _, _, rfl, rfl, _, rfl, ite2 (fun c2 => ?_) (fun c2 => ?_)⟩
    · have e : standG g rs m = "shut" := (if_neg fun z => c1 (decide_eq_true z)).trans (if_pos (of_decide_eq_true c2))
      rw [e] at q
      exact q
    have e0 : standG g rs m = (if numAt rs true (m - g.lag) ≥ g.high ∨ numAt rs false m ≥ g.thin then ("slow" : Str) else ("free" : Str)) := (if_neg fun z => c1 (decide_eq_true z)).trans (if_neg fun z => c2 (decide_eq_true z))
    rw [e0] at q
    refine ⟨_, rfl, _, rfl, p, C, dx, _, _, rfl, ep, T.cl, T.nH, ggF_high g, _, _, rfl, rfl, _, rfl, ite2 (fun c3 => iteT ?_) (fun c3 => ?_)⟩
    · rw [if_pos (Or.inl (of_decide_eq_true c3))] at q
      exact q
    refine ⟨_, rfl, _, rfl, p, C, dx, _, _, rfl, ep, T.cl, T.nN, ggF_thin g, _, _, rfl, rfl, _, rfl, ite2 (fun c4 => ?_) (fun c4 => ?_)⟩
    · rw [if_pos (Or.inr (of_decide_eq_true c4))] at q
      exact q
    · rw [if_neg (fun z => z.elim (fun z => c3 (decide_eq_true z)) (fun z => c4 (decide_eq_true z)))] at q
      exact q
end
/-! ### == and != of tuples, whatever their items are -/
section
open PySem.SeqAt GQ
open AutoSeq1 (wpAny_loadPart')
open MeetsSeq MeetsSeq2 MeetsSeq3 SeqRoads2
section
variable {prog : Program} {w : World} {A : Around} {R : Result → Shared → Prop}
theorem tup_eqB (neg : Bool) (l b : Addr) {items items2 : Array Value} {n n2 : Nat} {dd dd2 : Option Addr} {sl sl2 : Array (Option Value)} (k : Nat) (hk : k ≤ min items.size items2.size) (I : Nat → Shared → Prop)
    (hl : ∀ i s', I i s' → i ≤ k → ∀ (h1 : i < items.size) (h2 : i < items2.size), wpAny (model prog w) A.in1 (eqBool items[i] items2[i]) (fun r s'' => r = decide (i < k) ∧ I (i + 1) s'') (fun e s' => R (.error e) s') s')
    (fin : ∀ i s', I i s' → R (.ok (.ret (.bool (neg != (decide (k = min items.size items2.size) && decide (items.size = items2.size)))))) s') {s : Shared}
    (hl1 : s.heap.get? l = some { cls := .type "tuple", dict := dd, data := .seq items n, slots := sl }) (hb1 : s.heap.get? b = some { cls := .type "tuple", dict := dd2, data := .seq items2 n2, slots := sl2 }) (h : I 0 s) :
    wpAny (model prog w) A.in1 ((if neg = true then Builtin.«tuple.__ne__» else Builtin.«tuple.__eq__») ⟨[.ref l, .ref b], []⟩) (FinOf prog w A R) (fun e s' => R (.error e) s') s := by
  have f2 := AutoSeq1.sub_tuple_tuple
  have hZ : (items.toList.zip items2.toList).length = min items.size items2.size := by simp
  have turn : ∀ (y x : Value) (rest : List (Value × Value)) (s' : Shared), (∃ i, i ≤ k ∧ (y, x) :: rest = (items.toList.zip items2.toList).drop i ∧ I i s') →
      wpAny (model prog w) A.in1 (eqBool y x) (fun r s'' => (r = true ∧ ∃ i, i ≤ k ∧ rest = (items.toList.zip items2.toList).drop i ∧ I i s'') ∨ (r = false ∧ R (.ok (.ret (.bool (neg != false)))) s'')) (fun e s' => R (.error e) s') s' := by
    rintro y x rest s' ⟨i, hik, hz, hI⟩
    have hlt : i < (items.toList.zip items2.toList).length := by
      rcases Nat.lt_or_ge i (items.toList.zip items2.toList).length with h' | h'
      · exact h'
      · rw [List.drop_of_length_le h'] at hz; cases hz
    have hm : i < min items.size items2.size := hZ ▸ hlt
    have h1 : i < items.size := Nat.lt_of_lt_of_le hm (Nat.min_le_left _ _)
    have h2 : i < items2.size := Nat.lt_of_lt_of_le hm (Nat.min_le_right _ _)
    rw [List.drop_eq_getElem_cons hlt] at hz
    injection hz with hyx hrest
    have hy : y = items[i] := by have := congrArg Prod.fst hyx; simpa using this
    have hx : x = items2[i] := by have := congrArg Prod.snd hyx; simpa using this
    subst hy hx
    refine wpAny_mono (hl i s' hI hik h1 h2) (fun r s'' q => ?_) fun _ _ z => z
    obtain ⟨rfl, hI2⟩ := q
    by_cases c : i < k
    · exact .inl ⟨decide_eq_true c, i + 1, by omega, hrest, hI2⟩
    · refine .inr ⟨decide_eq_false c, ?_⟩
      have := fin _ _ hI2
      rw [decide_eq_false (show ¬ k = min items.size items2.size by omega), Bool.false_and] at this
      exact this
  have last : ∀ s', (∃ i, i ≤ k ∧ ([] : List (Value × Value)) = (items.toList.zip items2.toList).drop i ∧ I i s') → R (.ok (.ret (.bool (neg != decide (items.size = items2.size))))) s' := by
    rintro s' ⟨i, hik, hz, hI⟩
    have hge : min items.size items2.size ≤ i := by
      rcases Nat.lt_or_ge i (items.toList.zip items2.toList).length with h' | h'
      · rw [List.drop_eq_getElem_cons h'] at hz; cases hz
      · exact hZ ▸ h'
    have := fin _ _ hI
    rw [decide_eq_true (show k = min items.size items2.size by omega), Bool.true_and] at this
    exact this
  obtain ⟨hp, g, d, tk, os⟩ := s
  cases neg with
  | true =>
    rw [if_pos rfl]
    wp_walk using wpAny_loadPart' hl1, wpAny_loadPart' hb1, wpAny_forIn_list _ (fun rest b s' => b.1 = none ∧ ∃ i, i ≤ k ∧ rest = (items.toList.zip items2.toList).drop i ∧ I i s') _
    case turn =>
      rintro ⟨y, x⟩ rest b s' ⟨hb', hz⟩
      refine wpAny_bind (wpAny_mono (turn y x rest s' hz) (fun r s'' q => ?_) fun _ _ z => z)
      rcases q with ⟨rfl, q⟩ | ⟨rfl, q⟩
      · obtain ⟨hp2, g2, d2, tk2, os2⟩ := s''
        wp_walk
        exact ⟨rfl, q⟩
      · obtain ⟨hp2, g2, d2, tk2, os2⟩ := s''
        wp_walk
        exact q
    case fin =>
      rintro ⟨b1, b2⟩ s' ⟨hb', hz⟩
      simp only at hb'
      subst hb'
      have q := last s' hz
      obtain ⟨hp2, g2, d2, tk2, os2⟩ := s'
      wp_walk
      refine cast (congrArg (fun z => R (.ok (.ret z)) _) ?_) q
      show _ = Value.bool _
      congr 1
      by_cases c : items.size = items2.size <;> simp [c]
    case h =>
      exact ⟨rfl, 0, Nat.zero_le _, rfl, h⟩
  | false =>
    rw [if_neg (by decide)]
    wp_walk using wpAny_loadPart' hl1, wpAny_loadPart' hb1, wpAny_forIn_list _ (fun rest b s' => b.1 = none ∧ ∃ i, i ≤ k ∧ rest = (items.toList.zip items2.toList).drop i ∧ I i s') _
    case turn =>
      rintro ⟨y, x⟩ rest b s' ⟨hb', hz⟩
      refine wpAny_bind (wpAny_mono (turn y x rest s' hz) (fun r s'' q => ?_) fun _ _ z => z)
      rcases q with ⟨rfl, q⟩ | ⟨rfl, q⟩
      · obtain ⟨hp2, g2, d2, tk2, os2⟩ := s''
        wp_walk
        exact ⟨rfl, q⟩
      · obtain ⟨hp2, g2, d2, tk2, os2⟩ := s''
        wp_walk
        exact q
    case fin =>
      rintro ⟨b1, b2⟩ s' ⟨hb', hz⟩
      simp only at hb'
      subst hb'
      have q := last s' hz
      obtain ⟨hp2, g2, d2, tk2, os2⟩ := s'
      wp_walk
      refine cast (congrArg (fun z => R (.ok (.ret z)) _) ?_) q
      show _ = Value.bool _
      congr 1
      by_cases c : items.size = items2.size <;> simp [c]
    case h =>
      exact ⟨rfl, 0, Nat.zero_le _, rfl, h⟩
end
section
variable {prog : Program} {w : World} {A : Around} {E : Value → Shared → Prop} {s : Shared}
theorem rc_tupB (neg : Bool) {l b : Addr} {items items2 : Array Value} {n n2 : Nat} {dd dd2 : Option Addr} {sl sl2 : Array (Option Value)} {Q : Value → Shared → Prop} (k : Nat) (hk : k ≤ min items.size items2.size) (hu : A.units < cLine) (I : Nat → Shared → Prop)
    (hl : ∀ i s', I i s' → i ≤ k → ∀ (h1 : i < items.size) (h2 : i < items2.size), wpAny (model prog w) A.in1 (eqBool items[i] items2[i]) (fun r s'' => r = decide (i < k) ∧ I (i + 1) s'') E s')
    (fin : ∀ i s', I i s' → Q (.bool (neg != (decide (k = min items.size items2.size) && decide (items.size = items2.size)))) s')
    (hl1 : s.heap.get? l = some { cls := .type "tuple", dict := dd, data := .seq items n, slots := sl }) (hb1 : s.heap.get? b = some { cls := .type "tuple", dict := dd2, data := .seq items2 n2, slots := sl2 }) (h : I 0 s) : wpAny (model prog w) A (richCompare (opB neg) (.ref l) (.ref b)) Q E s := by
  have z := tup_eqB (prog := prog) (w := w) (A := A) (R := wants (fun v s' => v ≠ .notImplemented ∧ Q v s') E) neg l b k hk I hl (fun i s' q => ⟨(fun x => nomatch x), fin i s' q⟩) hl1 hb1 h
  cases neg with
  | true => exact wpAny_richCompare_same_room (op := .NotEq) ⟨_, hl1, rfl⟩ ⟨_, hb1, rfl⟩ F.slot_tuple_ne (call_here F.slot_tuple_ne ⟨_, hl1, rfl⟩ F.entry_tuple_ne (F.args_tuple_ne_2 _ _) z) hu
  | false => exact wpAny_richCompare_same_room (op := .Eq) ⟨_, hl1, rfl⟩ ⟨_, hb1, rfl⟩ F.slot_tuple_eq (call_here F.slot_tuple_eq ⟨_, hl1, rfl⟩ F.entry_tuple_eq (F.args_tuple_eq_2 _ _) z) hu
end
end
section
open GQ
variable {X : Cx} {n m : Nat} {D D' : EqvB}
/-- tuples: alike up to k, and unlike there, or one of them ends there -/
def PrsT (D : EqvB) (xs ys : List V) (b : Bool) (H : Hp) : Prop :=
  ∃ k, k ≤ min xs.length ys.length ∧ b = (decide (k = min xs.length ys.length) && decide (xs.length = ys.length)) ∧ (∀ (i : Nat) x y, xs[i]? = some x → ys[i]? = some y → i ≤ k → D x y (decide (i < k)) H)
theorem PrsT.mon (hD : MonB D) {xs ys : List V} {b : Bool} {H H' : Hp} (e : Ext H H') (p : PrsT D xs ys b H) : PrsT D xs ys b H' := by
  obtain ⟨k, hk, hb, q⟩ := p
  exact ⟨k, hk, hb, fun i x y h1 h2 h3 => hD _ _ _ _ _ e (q i x y h1 h2 h3)⟩
def DTupB (D : EqvB) : EqvB := fun x y b H => ∃ a c xs ys, x = .ref a ∧ y = .ref c ∧ H a = some (.tup xs) ∧ H c = some (.tup ys) ∧ PrsT D xs ys b H
theorem monB_tup (hD : MonB D) : MonB (DTupB D) := fun x y b H H' e d => by
  obtain ⟨a, c, xs, ys, hx, hy, h1, h2, p⟩ := d
  exact ⟨a, c, xs, ys, hx, hy, e _ _ h1, e _ _ h2, p.mon hD e⟩
theorem selfB_tup (hs : SelfB D) : SelfB (DTupB D) := fun x b H d => by
  obtain ⟨a, c, xs, ys, rfl, hy, h1, h2, k, hk, hb, q⟩ := d
  cases hy
  rw [h1] at h2
  cases h2
  rw [hb, Nat.min_self] at *
  by_cases c : k = xs.length
  · rw [decide_eq_true c, decide_eq_true rfl]; rfl
  · have hlt : k < xs.length := by omega
    have := hs _ _ _ (q k _ _ (List.getElem?_eq_getElem hlt) (List.getElem?_eq_getElem hlt) (Nat.le_refl _))
    rw [decide_eq_false (Nat.lt_irrefl k)] at this
    cases this
theorem dcB_tup (neg : Bool) (hD : MonB D) (h : DqB X n D) : DcB X (n + 1) (opB neg) (fun b => neg != b) (DTupB D) := by
  intro A pins s σ H x y u v b sb I rx ry d
  obtain ⟨a, c, xs, ys, rfl, rfl, ha, hb, k, hk, rfl, q⟩ := d
  cases rx
  cases ry
  obtain ⟨_, its, r, o, h1, h2, n1, h3⟩ := I.hok a _ ha
  obtain ⟨_, its2, r2, o2, g1, g2, n2, g3⟩ := I.hok c _ hb
  obtain ⟨oc, od, odt, osl⟩ := o
  obtain ⟨oc2, od2, odt2, osl2⟩ := o2
  simp only at h2 h3 g2 g3
  subst h2 h3 g2 g3
  have z1 := r.length
  have z2 := r2.length
  refine rc_tupB neg (items := its.toArray) (items2 := its2.toArray) k (by rw [List.size_toArray, List.size_toArray, ← z1, ← z2]; exact hk) sb.room.units0 (fun _ s' => LoopI X pins σ H s') (fun i s' z hik h1' h2' => ?_) (fun i s' z => ⟨?_, z⟩) h1 g1 ⟨H, I, Ext.rfl'⟩
  · obtain ⟨H1, I1, e1⟩ := id z
    have k1 : its[i]? = some its.toArray[i] := by
      have h1'' : i < its.length := by simpa using h1'
      rw [List.getElem?_eq_getElem h1''] <;> simp
    have k2 : its2[i]? = some its2.toArray[i] := by
      have h2'' : i < its2.length := by simpa using h2'
      rw [List.getElem?_eq_getElem h2''] <;> simp
    have l1 : i < xs.length := by rw [z1]; simpa using h1'
    have l2 : i < ys.length := by rw [z2]; simpa using h2'
    obtain ⟨u, hu, ru⟩ := r.get (List.getElem?_eq_getElem l1)
    obtain ⟨v, hv, rv⟩ := r2.get (List.getElem?_eq_getElem l2)
    rw [k1] at hu
    rw [k2] at hv
    rw [Option.some.inj hu, Option.some.inj hv]
    refine wpAny_mono (h A.in1 pins s' σ H1 _ _ u v _ sb.in1 I1 ru rv (hD _ _ _ _ _ e1 (q i _ _ (List.getElem?_eq_getElem l1) (List.getElem?_eq_getElem l2) hik))) (fun r s2 q => ?_) fun _ _ x => x
    obtain ⟨hr, H2, I2, e2⟩ := q
    exact ⟨hr, H2, I2, e1.trans e2⟩
  · rw [List.size_toArray, List.size_toArray, ← z1, ← z2]
theorem dqB_tup (hD : MonB D) (hs : SelfB D) (h : DqB X n D) : DqB X (n + 1) (DTupB D) := by
  have z := dcB_tup false hD h
  refine DcB.dqB (D := DTupB D) ?_ (fun _ _ _ _ d => let ⟨a, b, _, _, hx, hy, _⟩ := d; ⟨a, b, hx, hy⟩) (selfB_tup hs)
  intro A pins s σ H x y u v b sb I rx ry d
  refine wpAny_mono (z A pins s σ H x y u v b sb I rx ry d) (fun r s' q => ?_) fun _ _ x => x
  obtain ⟨e, q⟩ := q
  refine ⟨e.trans ?_, q⟩
  cases b <;> rfl
/-- texts -/
def DStrB : EqvB := fun x y b _ => ∃ i j : Str, x = .str i ∧ y = .str j ∧ b = decide (i = j)
theorem monB_str : MonB DStrB := fun _ _ _ _ _ _ d => d
theorem selfB_str : SelfB DStrB := fun x b H ⟨i, j, h1, h2, h3⟩ => by
  rw [h1] at h2
  cases h2
  rw [h3, decide_eq_true rfl]
theorem dqB_str : DqB X n DStrB := fun A pins s σ H x y u v b sb I rx ry ⟨i, j, h1, h2, h3⟩ => by
  subst h1 h2
  obtain ⟨t, rfl⟩ := (show ∃ t, u = Value.str i t from rx)
  obtain ⟨t2, rfl⟩ := (show ∃ t, v = Value.str j t from ry)
  exact wpAny_eqBool_str ⟨h3.symm, H, I, Ext.rfl'⟩
/-- x == y, x != y of tuples -/
theorem op_dqT (neg : Bool) (hD : MonB D) (h : DqB X n D) (hr : Room (n + 1) X.A) : OpR X (compareOp (opB neg)) (rDqB (DTupB D) (fun b => neg != b)) := by
  intro pins s σ H x y v u Q I rx ry hq
  obtain ⟨b, d, q⟩ := hq
  have z := dcB_tup neg hD h X.A pins s σ H x y v u b ⟨hr, rfl⟩ I rx ry d
  cases neg with
  | true =>
    show wpAny (model X.prog X.w) X.A (richCompare .NotEq v u) (EP X pins σ Q) X.xe s
    refine wpAny_mono z (fun r s' z => ?_) fun _ _ x => x
    obtain ⟨hr', H', I', e⟩ := z
    subst hr'
    exact ⟨.bl _, H', I', rfl, q H' e⟩
  | false =>
    show wpAny (model X.prog X.w) X.A (richCompare .Eq v u) (EP X pins σ Q) X.xe s
    refine wpAny_mono z (fun r s' z => ?_) fun _ _ x => x
    obtain ⟨hr', H', I', e⟩ := z
    subst hr'
    exact ⟨.bl _, H', I', rfl, q H' e⟩
end
/-! ### data of readings -/
def rdD (r : Rd) : PyData := .tuple [.int r.m, .str (kindS r.w), .int r.n]
theorem kind_ok (w : Bool) : PyData.strOk (kindS w) = true := by cases w <;> decide +kernel
theorem rds_lay : ∀ rs : List Rd, PyData.canLayAll0 (rs.map rdD) = true
  | [] => rfl
  | r :: t => by simp [PyData.canLayAll0, PyData.canLay0, rdD, kind_ok, rds_lay t]
theorem rds_depth : ∀ rs : List Rd, PyData.depthAll (rs.map rdD) ≤ 1
  | [] => by simp [PyData.depthAll]
  | r :: t => by
    have := rds_depth t
    simp only [List.map_cons, PyData.depthAll, rdD, PyData.depth]
    omega
theorem rds_shaped (rs : List Rd) : SeqAt.shaped (.list (rs.map rdD)) = true := by
  have h1 := rds_depth rs
  have h2 : PyData.depth (.list (rs.map rdD)) ≤ 64 := by simp only [PyData.depth]; omega
  show (PyData.canLay0 (.list (rs.map rdD)) && decide (PyData.depth (.list (rs.map rdD)) ≤ 64)) = true
  rw [decide_eq_true h2, Bool.and_true]
  show PyData.canLayAll0 _ = true
  exact rds_lay rs
theorem rds_dp {K : PySem.W.Frag} {H : Hp} {xs : List V} {rs : List Rd} (h : Rds H xs rs) : DpAll K H xs (rs.map rdD) := by
  induction h with
  | nil => exact .nil
  | cons e _ ih => exact .cons (.tup (SqT.of e) (.cons (.int _) (.cons (.str _) (.cons (.int _) .nil)))) ih
theorem rds_refl (rs : List Rd) : PyData.eqv (.list (rs.map rdD)) (.list (rs.map rdD)) = true := SeqAt.eqv_refl _ (SeqAt.canLay_of_shaped (rds_shaped rs))
theorem pickI {xs : List Int} {lo hi : Int} (h : ∀ z ∈ xs, lo ≤ z ∧ z ≤ hi) {j : Nat} {x : V} (e : (xs.map V.int)[j]? = some x) : ∃ z : Int, x = .int z ∧ lo ≤ z ∧ z ≤ hi := by
  rw [List.getElem?_map] at e
  cases e2 : xs[j]? with
  | none => rw [e2] at e; cases e
  | some z => rw [e2] at e; cases e; exact ⟨z, rfl, h z (List.mem_of_getElem? e2)⟩
def spReadings : Sp := fun vs H Q _ => ∃ (T c : Addr) (many : Int) (n : Nat), vs = [.ref T, .int many] ∧ 0 < many ∧ many ≤ 1000 ∧ n < 500000 ∧ Tape H T c n ∧
  ∀ (p : Addr) (rs : List Rd) H', RdsAt H' p rs → rs.length ≤ many.toNat → (∀ r ∈ rs, 0 ≤ r.m ∧ r.m ≤ 1003000) → p ≠ T → H p = none → Tape H' T c (n + 20000) → Keep T H H' → Q (.ref p) H'
structure TxtR (mg : Str → Option Value) : Prop where
  mlen : mg "len" = none
  mrange : mg "range" = none
  msorted : mg "sorted" = none
def spBounds : Sp := fun vs H Q _ => ∃ (T c : Addr) (n : Nat), vs = [.ref T] ∧ n < 500000 ∧ Tape H T c n ∧
  ∀ (p : Addr) (g : Gg) H', H' p = some (.lst [.int g.lag, .int g.high, .int g.top, .int g.thin, .int g.thick]) → 0 ≤ g.lag → g.lag ≤ 1440 → 1 ≤ g.high → 1 ≤ g.top → 1 ≤ g.thin → 1 ≤ g.thick → p ≠ T → Tape H' T c (n + 30) → Keep T H H' → Q (.ref p) H'
section
variable {P : Program} {w : World} {K : PySem.W.Frag} {mg : Str → Option Value} {base : Heap} {C : Addr}
theorem ok_readings {f fD fO : Addr} {fd fdD fdO : FuncData} {k : Nat} (F : Fun K "_law_readings" "_law_readings" sReadings f fd) (T0 : Txt0 mg) (T : TxtR mg)
    (F_law_draw : Fun K "_law_draw" "_law_draw" sDraw fD fdD) (g_law_draw : mg "_law_draw" = some (.ref fD)) (b_law_draw : Binds K fdD ["_law_feed_here", "_law_many"] [])
    (F_law_of : Fun K "_law_of" "_law_of" sOf fO fdO) (g_law_of : mg "_law_of" = some (.ref fO)) (b_law_of : Binds K fdO ["_law_feed_here", "_law_some"] []) :
    FnOk P w K mg base CX0 (k + 3) f fd ["_law_feed_here", "_law_many"] spReadings := by
  have G_law_draw : FnOk P w K mg base CX0 (k + 2) fD fdD ["_law_feed_here", "_law_many"] spDraw := ok_draw F_law_draw T0
  have G_law_of : FnOk P w K mg base CX0 (k + 2) fO fdO ["_law_feed_here", "_law_some"] spPick := ok_of F_law_of T0 F_law_draw g_law_draw b_law_draw
  refine F.ok scReadings (fun vs H Q E h => ?_) (fun cdv A outer s H vs Q E hr h => ?_)
  · obtain ⟨a, c, m, n, rfl, _⟩ := h
    rfl
  · obtain ⟨a, c, many, n, rfl, hm0, hm1, hn, hT, q⟩ := h
    have hr_law_draw := hr
    have hr_law_of := hr
    refine ⟨_,
      (pss_cut (ps_par (i := 2) (j := 3) rfl scReadings.nd rfl rfl (by decide) rfl rfl (pa_cons (pe_call G_law_of hr_law_of (by rfl) g_law_of F_law_of.kp b_law_of .nil pass0 (pa_cons (pv 0) (pa_cons (pe_lst (pa_cons pe_int (pa_cons (pe_call G_law_draw hr_law_draw (by rfl) g_law_draw F_law_draw.kp b_law_draw .nil pass0 (pa_cons (pv 0) (pa_cons pe_int pa_nil))) (pa_cons (pe_call G_law_draw hr_law_draw (by rfl) g_law_draw F_law_draw.kp b_law_draw .nil pass0 (pa_cons (pv 0) (pa_cons (pe_op op_pow pe_int pe_int) pa_nil))) pa_nil)))) pa_nil))) (pa_cons (pe_lst pa_nil) pa_nil)) (by rfl))
      (pss_cons (ps_for PassesOwn.never rfl (pi_range1 (by rfl) T.mrange (pa_cons (pe_call G_law_draw hr_law_draw (by rfl) g_law_draw F_law_draw.kp b_law_draw .nil pass0 (pa_cons (pv 0) (pa_cons (pv 1) pa_nil))) pa_nil)) (pg_name (i := 4) scReadings.nd rfl (.inl rfl))
      (pss_cons (ps_set (i := 5) scReadings.nd rfl (.inl rfl) (pe_op op_add (pv 2) (pe_call G_law_of hr_law_of (by rfl) g_law_of F_law_of.kp b_law_of .nil pass0 (pa_cons (pv 0) (pa_cons (pe_lst (pa_cons pe_int (pa_cons (pe_call G_law_draw hr_law_draw (by rfl) g_law_draw F_law_draw.kp b_law_draw .nil pass0 (pa_cons (pv 0) (pa_cons pe_int pa_nil))) (pa_cons (pe_call G_law_draw hr_law_draw (by rfl) g_law_draw F_law_draw.kp b_law_draw .nil pass0 (pa_cons (pv 0) (pa_cons pe_int pa_nil))) (pa_cons (pe_call G_law_draw hr_law_draw (by rfl) g_law_draw F_law_draw.kp b_law_draw .nil pass0 (pa_cons (pv 0) (pa_cons pe_int pa_nil))) pa_nil))))) pa_nil)))))
      (pss_cut (ps_if (PW.pt (pw_and (pt_cmpR (op_neD hr.units) (pv 3) (pe_lst pa_nil) (nomark _)) (pw_and1 (pt_cmpR op_eq (pe_call G_law_draw hr_law_draw (by rfl) g_law_draw F_law_draw.kp b_law_draw .nil pass0 (pa_cons (pv 0) (pa_cons pe_int pa_nil))) pe_int (nomark _)))))
      (pss_one (ps_set (i := 5) scReadings.nd rfl (.inl rfl) (pe_ix ix_tup (pe_call G_law_of hr_law_of (by rfl) g_law_of F_law_of.kp b_law_of .nil pass0 (pa_cons (pv 0) (pa_cons (pv 3) pa_nil))) pe_int (fun _ _ => rfl))))
      pss_nil)
      (pss_cons (ps_set (i := 6) scReadings.nd rfl (.inl rfl) (pe_call G_law_of hr_law_of (by rfl) g_law_of F_law_of.kp b_law_of .nil pass0 (pa_cons (pv 0) (pa_cons (pe_lst (pa_cons pe_int (pa_cons pe_int (pa_cons (pe_call G_law_draw hr_law_draw (by rfl) g_law_draw F_law_draw.kp b_law_draw .nil pass0 (pa_cons (pv 0) (pa_cons pe_int pa_nil))) (pa_cons (pe_call G_law_draw hr_law_draw (by rfl) g_law_draw F_law_draw.kp b_law_draw .nil pass0 (pa_cons (pv 0) (pa_cons pe_int pa_nil))) (pa_cons (pe_call G_law_draw hr_law_draw (by rfl) g_law_draw F_law_draw.kp b_law_draw .nil pass0 (pa_cons (pv 0) (pa_cons pe_int pa_nil))) pa_nil)))))) pa_nil))))
      (pss_one (ps_expr (pe_bm PySem.F.plainAttrs_list PySem.F.slot_list_append PySem.F.type_list_append mt_append (pv 3) (pa_cons (pe_tup (pa_cons (pv 5) (pa_cons (pe_ix ix_list (pe_lst (pa_cons pe_str (pa_cons pe_str pa_nil))) (pe_call G_law_draw hr_law_draw (by rfl) g_law_draw F_law_draw.kp b_law_draw .nil pass0 (pa_cons (pv 0) (pa_cons pe_int pa_nil))) (fun _ _ => rfl)) (pa_cons (pv 6) pa_nil)))) pa_nil))))))))
      (pss_one (ps_ret (pv 3)))))
      , ?_⟩
    -- base, found
    refine ⟨fun σ H1 => ∃ (b : Int) (fp : Addr), 0 ≤ b ∧ b ≤ 1000000 ∧ σ = [some (.ref a), some (.int many), some (.int b), some (.ref fp), none, none, none] ∧ H1 fp = some (.lst []) ∧ H fp = none ∧ fp ≠ a ∧ fp ≠ c ∧ Tape H1 a c (n + 3) ∧ Keep a H H1, ?_, ?_⟩
    · refine ⟨_, rfl, _, rfl, a, c, 3000, n, rfl, by omega, by omega, by omega, hT, fun d1 H1 d10 d11 T1 k1 => ?_⟩
      refine ⟨_, rfl, _, _, rfl, rfl, ⟨by decide, by decide, by decide⟩, a, c, 1000000, n + 1, rfl, by omega, by omega, by omega, T1, fun d2 H2 d20 d21 T2 k2 => ⟨by show 3 ≤ sizeLine; decide, fun l hl => ?_⟩⟩
      refine ⟨a, c, l, _, n + 2, rfl, upd_same, T2.ne hl, by show 0 < 3; decide, by show 3 < 1000000; decide, by omega, T2.new hl, fun j x H3 hx T3 k3 => ?_⟩
      obtain ⟨z, rfl, hz0, hz1⟩ := pickI (xs := [0, d1, d2]) (lo := 0) (hi := 1000000) (by simp; omega) hx
      refine ⟨Nat.zero_le _, fun fp hfp => ?_⟩
      have kk : Keep a H H3 := ((k1.trans k2).new hl).trans k3
      have hfp0 : H fp = none := by
        cases e : H fp with
        | none => rfl
        | some o => have := kk fp o (T3.ne hfp) e; rw [hfp] at this; cases this
      exact ⟨_, _, rfl, z, fp, hz0, hz1, rfl, upd_same, hfp0, T3.ne hfp, T3.nec hfp, T3.new hfp, kk.new hfp⟩
    rintro σ H1 ⟨b, fp, hb0, hb1, rfl, e1, hfp, nfa, nfc, T1, k1⟩
    refine ⟨_, rfl, _, rfl, a, c, many, n + 3, rfl, hm0, by omega, by omega, T1, fun dm H2 dm0 dm1 T2 k2 => ⟨_, rfl, by omega, by omega, ?_⟩⟩
    refine for_range (lo := 0) (n := dm.toNat) (fun i σ H' => ∃ (v4 v5 v6 : Option V) (xs : List V) (rs : List Rd), σ = [some (.ref a), some (.int many), some (.int b), some (.ref fp), v4, v5, v6] ∧ H' fp = some (.lst xs) ∧ Rds H' xs rs ∧ rs.length = i ∧ (∀ r ∈ rs, 0 ≤ r.m ∧ r.m ≤ 1003000) ∧ Tape H' a c (n + 4 + 15 * i) ∧ Keep a H H')
      ⟨_, _, _, [], [], rfl, k2 _ _ nfa e1, .nil, rfl, fun r hr => (by cases hr), T2, k1.trans k2⟩ ?_ ?_
    · rintro i σ H3 hi ⟨v4, v5, v6, xs, rs, rfl, e3, hrs, hlen, hall, T3, k3⟩
      have hi2 : i < 1000 := by omega
      -- moment
      refine ⟨_, rfl, _, rfl, _, rfl, a, c, 12, n + 4 + 15 * i, rfl, by omega, by omega, by omega, T3, fun d1 H4 d10 d11 T4 k4 => ?_⟩
      refine ⟨_, rfl, a, c, 400, _, rfl, by omega, by omega, by omega, T4, fun d2 H5 d20 d21 T5 k5 => ?_⟩
      refine ⟨_, rfl, a, c, 3000, _, rfl, by omega, by omega, by omega, T5, fun d3 H6 d30 d31 T6 k6 => ⟨by show 4 ≤ sizeLine; decide, fun l hl => ?_⟩⟩
      refine ⟨a, c, l, _, _, rfl, upd_same, T6.ne hl, by show 0 < 4; decide, by show 4 < 1000000; decide, by omega, T6.new hl, fun j x H7 hx T7 k7 => ?_⟩
      obtain ⟨z, rfl, hz0, hz1⟩ := pickI (xs := [0, d1, d2, d3]) (lo := 0) (hi := 3000) (by simp; omega) hx
      refine ⟨_, _, rfl, rfl, ?_⟩
      have kk : Keep a H3 H7 := (((k4.trans k5).trans k6).new hl).trans k7
      have e7 := kk _ _ nfa e3
      obtain ⟨_, _, _, hTa, _⟩ := T3.ex
      have r7 : Rds H7 xs rs := hrs.mono fun x ts z => kk _ _ (ne_of z hTa (by intro z; cases z)) z
      -- if
      refine ⟨fun σ H8 => ∃ (mo : Int), 0 ≤ mo ∧ mo ≤ 1003000 ∧ σ = [some (.ref a), some (.int many), some (.int b), some (.ref fp), some (.int (0 + (i : Int))), some (.int mo), v6] ∧ Tape H8 a c (n + 4 + 15 * i + 6) ∧ Keep a H3 H8, ?_, ?_⟩
      · refine ⟨_, rfl, Nat.zero_le _, fun l8 hl8 => ?_⟩
        have u7 := upd_at (o := .lst []) hl8 e7
        have ru : Rds (upd H7 l8 (.lst [])) xs rs := r7.mono fun x ts z => upd_at hl8 z
        have ku : Keep a H3 (upd H7 l8 (.lst [])) := kk.new hl8
        have Tu := T7.new (o := .lst []) hl8
        refine ⟨.list (rs.map rdD), .list [], .lst (SqL.of u7) (rds_dp ru), .lst (SqL.of upd_same) .nil, rds_shaped rs, rds_shaped [], _, rfl, ?_⟩
        cases hrs' : rs with
        | nil => exact iteF (iteF ⟨b + z, by omega, by omega, rfl, Tu.mono (by omega), ku⟩)
        | cons r0 rt =>
          refine iteT ⟨_, rfl, a, c, 4, _, rfl, by omega, by omega, by omega, Tu, fun d4 H9 d40 d41 T9 k9 => ⟨rfl, _, rfl, ite2 (fun _ => ?_) (fun _ => ⟨b + z, by omega, by omega, rfl, T9.mono (by omega), ku.trans k9⟩)⟩⟩
          have e9 := k9 _ _ nfa u7
          have hxl : xs.length = rs.length := hrs.len
          refine ⟨_, rfl, _, rfl, a, c, fp, xs, _, rfl, e9, nfa, by rw [hxl, hrs']; exact Nat.succ_pos _, by omega, by omega, T9, fun j x H10 hx T10 k10 => ?_⟩
          have k39 : Keep a H3 H10 := (ku.trans k9).trans k10
          have r10 : Rds H10 xs rs := hrs.mono fun x ts z => k39 _ _ (ne_of z hTa (by intro z; cases z)) z
          obtain ⟨ad, r, rfl, hrj, had⟩ := r10.at hx
          exact ⟨ad, _, 0, _, rfl, rfl, SqT.of had, atI_nat (j := 0) rfl, r.m, (hall r (List.mem_of_getElem? hrj)).1, (hall r (List.mem_of_getElem? hrj)).2, rfl, T10.mono (by omega), k39⟩
      rintro σ H8 ⟨mo, hmo, hmo1, rfl, T8, k8⟩
      -- number
      refine ⟨_, rfl, _, rfl, a, c, 30, _, rfl, by omega, by omega, by omega, T8, fun f1 H9 f10 f11 T9 k9 => ?_⟩
      refine ⟨_, rfl, a, c, 600, _, rfl, by omega, by omega, by omega, T9, fun f2 H10 f20 f21 T10 k10 => ?_⟩
      refine ⟨_, rfl, a, c, 4096, _, rfl, by omega, by omega, by omega, T10, fun f3 H11 f30 f31 T11 k11 => ⟨by show 5 ≤ sizeLine; decide, fun l2 hl2 => ?_⟩⟩
      refine ⟨a, c, l2, _, _, rfl, upd_same, T11.ne hl2, by show 0 < 5; decide, by show 5 < 1000000; decide, by omega, T11.new hl2, fun j2 x2 H12 hx2 T12 k12 => ?_⟩
      obtain ⟨nu, rfl, hnu0, hnu1⟩ := pickI (xs := [0, 4095, f1, f2, f3]) (lo := 0) (hi := 5000) (by simp; omega) hx2
      have kk2 : Keep a H3 H12 := k8.trans ((((k9.trans k10).trans k11).new hl2).trans k12)
      have e12 := kk2 _ _ nfa e3
      -- append
      refine ⟨_, rfl, .inl ⟨rfl, _, SqL.of e12⟩, _, rfl, by show 2 ≤ sizeLine; decide, fun l3 hl3 => ⟨_, rfl, a, c, 2, _, rfl, by omega, by omega, by omega, T12.new hl3, fun dk H13 dk0 dk1 T13 k13 => ?_⟩⟩
      have hd : ∃ (j : Nat) (wq : Bool), dk = (j : Int) ∧ ([.str "water", .str "ice"] : List V)[j]? = some (.str (kindS wq)) := by
        have : dk = 0 ∨ dk = 1 := by omega
        rcases this with rfl | rfl
        · exact ⟨0, true, rfl, rfl⟩
        · exact ⟨1, false, rfl, rfl⟩
      obtain ⟨j3, wq, rfl, hw⟩ := hd
      have l13 := k13 _ _ (T12.ne hl3) (upd_same (H := H12) (a := l3) (o := .lst [.str "water", .str "ice"]))
      refine ⟨l3, _, (j3 : Int), _, rfl, rfl, SqL.of l13, atI_nat hw, _, rfl, by show 3 ≤ sizeLine; decide, fun t ht => ?_⟩
      have k3t : Keep a H3 (upd H13 t (.tup [.int mo, .str (kindS wq), .int nu])) := ((kk2.new hl3).trans k13).new ht
      have et := k3t _ _ nfa e3
      have hxl : xs.length = i := by rw [hrs.len, hlen]
      refine ⟨fp, _, _, rfl, rfl, et, Nat.lt_of_lt_of_le (show xs.length < 1001 by omega) (Nat.le_trans (show 1001 ≤ 100000 by decide) (by decide)), ?_⟩
      have rt : Rds (upd H13 t (.tup [.int mo, .str (kindS wq), .int nu])) xs rs := hrs.mono fun x ts z => k3t _ _ (ne_of z hTa (by intro z; cases z)) z
      have ntf : t ≠ fp := (ne_of_none (((kk2.new hl3).trans k13) _ _ nfa e3) ht).symm
      refine ⟨_, _, _, xs ++ [.ref t], rs ++ [⟨mo, wq, nu⟩], rfl, upd_same, ?_, by rw [List.length_append, hlen]; rfl, ?_, ?_, ?_⟩
      · refine (rt.mono fun x ts z => ?_).app (.cons (r := ⟨mo, wq, nu⟩) (by rw [upd_ne ntf]; exact upd_same) .nil)
        rw [upd_ne (ne_of z et (by intro z; cases z))]; exact z
      · intro r hr
        rcases List.mem_append.mp hr with hr | hr
        · exact hall r hr
        · rw [List.mem_singleton.mp hr]; exact ⟨hmo, hmo1⟩
      · exact ((T13.new ht).upd nfa nfc).mono (by omega)
      · exact fun x o nx e => by rw [upd_ne (ne_of_none e hfp)]; exact k3t x o nx (k3 x o nx e)
    · rintro σ H3 ⟨v4, v5, v6, xs, rs, rfl, e3, hrs, hlen, hall, T3, k3⟩
      exact ⟨_, rfl, q fp rs H3 ⟨xs, e3, hrs⟩ (by omega) hall nfa hfp (T3.mono (by omega)) k3⟩
theorem ok_bounds {f fD fO : Addr} {fd fdD fdO : FuncData} {k : Nat} (F : Fun K "_law_bounds" "_law_bounds" sBounds f fd) (T0 : Txt0 mg) (T : TxtR mg)
    (F_law_draw : Fun K "_law_draw" "_law_draw" sDraw fD fdD) (g_law_draw : mg "_law_draw" = some (.ref fD)) (b_law_draw : Binds K fdD ["_law_feed_here", "_law_many"] [])
    (F_law_of : Fun K "_law_of" "_law_of" sOf fO fdO) (g_law_of : mg "_law_of" = some (.ref fO)) (b_law_of : Binds K fdO ["_law_feed_here", "_law_some"] []) :
    FnOk P w K mg base CX0 (k + 3) f fd ["_law_feed_here"] spBounds := by
  have G_law_draw : FnOk P w K mg base CX0 (k + 2) fD fdD ["_law_feed_here", "_law_many"] spDraw := ok_draw F_law_draw T0
  have G_law_of : FnOk P w K mg base CX0 (k + 2) fO fdO ["_law_feed_here", "_law_some"] spPick := ok_of F_law_of T0 F_law_draw g_law_draw b_law_draw
  refine F.ok scBounds (fun vs H Q E h => ?_) (fun cdv A outer s H vs Q E hr h => ?_)
  · obtain ⟨a, c, n, rfl, _⟩ := h
    rfl
  · obtain ⟨a, c, n, rfl, hn, hT, q⟩ := h
    have hr_law_draw := hr
    have hr_law_of := hr
    refine ⟨_,
      (pss_cons (ps_set (i := 1) scBounds.nd rfl (.inl rfl) (pe_call G_law_of hr_law_of (by rfl) g_law_of F_law_of.kp b_law_of .nil pass0 (pa_cons (pv 0) (pa_cons (pe_lst (pa_cons pe_int (pa_cons pe_int (pa_cons pe_int (pa_cons (pe_call G_law_draw hr_law_draw (by rfl) g_law_draw F_law_draw.kp b_law_draw .nil pass0 (pa_cons (pv 0) (pa_cons pe_int pa_nil))) pa_nil))))) pa_nil))))
      (pss_cut (ps_set (i := 2) scBounds.nd rfl (.inl rfl) (pe_callB cr_sorted (by rfl) T.msorted (by decide +kernel) (pa_cons (pe_lc (own := [("_law_k", 4)]) (g := gName 4) (tt := tYes) rfl scBounds.nd (pi_range1 (by rfl) T.mrange (pa_cons pe_int pa_nil)) (blkOk_by (N := NBounds) (own := [("_law_k", 4)]) (sc := defScope sBounds) (by decide +kernel)) (fun _ _ _ _ _ => pg_name (i := 4) scBounds.nd rfl (Or.inl rfl)) (fun _ _ _ _ _ => pts_nil) (fun _ _ _ _ _ => (pe_op op_add pe_int (pe_call G_law_draw hr_law_draw (by rfl) g_law_draw F_law_draw.kp b_law_draw .nil pass0 (pa_cons (pv 0) (pa_cons (pe_call G_law_of hr_law_of (by rfl) g_law_of F_law_of.kp b_law_of .nil pass0 (pa_cons (pv 0) (pa_cons (pe_lst (pa_cons pe_int (pa_cons pe_int (pa_cons pe_int pa_nil)))) pa_nil))) pa_nil)))))) pa_nil)))
      (pss_cut (ps_set (i := 3) scBounds.nd rfl (.inl rfl) (pe_callB cr_sorted (by rfl) T.msorted (by decide +kernel) (pa_cons (pe_lc (own := [("_law_k", 4)]) (g := gName 4) (tt := tYes) rfl scBounds.nd (pi_range1 (by rfl) T.mrange (pa_cons pe_int pa_nil)) (blkOk_by (N := NBounds) (own := [("_law_k", 4)]) (sc := defScope sBounds) (by decide +kernel)) (fun _ _ _ _ _ => pg_name (i := 4) scBounds.nd rfl (Or.inl rfl)) (fun _ _ _ _ _ => pts_nil) (fun _ _ _ _ _ => (pe_op op_add pe_int (pe_call G_law_draw hr_law_draw (by rfl) g_law_draw F_law_draw.kp b_law_draw .nil pass0 (pa_cons (pv 0) (pa_cons (pe_call G_law_of hr_law_of (by rfl) g_law_of F_law_of.kp b_law_of .nil pass0 (pa_cons (pv 0) (pa_cons (pe_lst (pa_cons pe_int (pa_cons pe_int (pa_cons pe_int pa_nil)))) pa_nil))) pa_nil)))))) pa_nil)))
      (pss_one (ps_ret (pe_op op_cat (pe_op op_cat (pe_lst (pa_cons (pv 1) pa_nil)) (pv 2)) (pv 3)))))))
      , ?_⟩
    refine ⟨_, rfl, _, rfl, a, c, 90, n, rfl, by omega, by omega, by omega, hT, fun d1 H1 d10 d11 T1 k1 => ⟨by show 4 ≤ sizeLine; decide, fun l hl => ?_⟩⟩
    refine ⟨a, c, l, _, n + 1, rfl, upd_same, T1.ne hl, by show 0 < 4; decide, by show 4 < 1000000; decide, by omega, T1.new hl, fun j x H2 hx T2 k2 => ?_⟩
    obtain ⟨lag, rfl, hl0, hl1⟩ := pickI (xs := [0, 60, 1440, d1]) (lo := 0) (hi := 1440) (by simp; omega) hx
    have k02 : Keep a H H2 := (k1.new hl).trans k2
    -- waters
    refine ⟨fun σ H3 => ∃ (p : Addr) (u v : Int), σ = [some (.ref a), some (.int lag), some (.ref p), none, none] ∧ H3 p = some (.lst [.int u, .int v]) ∧ 1 ≤ u ∧ 1 ≤ v ∧ p ≠ a ∧ Tape H3 a c (n + 6) ∧ Keep a H H3, ?_, ?_⟩
    · refine ⟨2, rfl, by decide, by decide, fun D hD => ?_⟩
      have nDa : D ≠ a := T2.ne hD
      have nDc : D ≠ c := T2.nec hD
      refine lc_range (lo := 0) (n := 2) (fun i H' => ∃ ys : List Int, ys.length = i ∧ (∀ y ∈ ys, 1 ≤ y) ∧ H' D = some (.lst (ys.map V.int)) ∧ Tape H' a c (n + 2 + 2 * i) ∧ Keep a H H')
        ⟨[], rfl, fun y hy => (by cases hy), upd_same, T2.new hD, k02.new hD⟩ ?_ ?_
      · rintro i H' hi ⟨ys, ly, lo, eD, Ti, ki⟩
        have hD0 : H D = none := by
          cases e : H D with
          | none => rfl
          | some o => have := k02 D o nDa e; rw [hD] at this; cases this
        refine ⟨rfl, _, rfl, _, rfl, by show 3 ≤ sizeLine; decide, fun l5 hl5 => ?_⟩
        refine ⟨a, c, l5, _, _, rfl, upd_same, Ti.ne hl5, by show 0 < 3; decide, by show 3 < 1000000; decide, by omega, Ti.new hl5, fun j x H5 hx T5 k5 => ?_⟩
        obtain ⟨z, rfl, hz0, hz1⟩ := pickI (xs := [30, 500, 4095]) (lo := 1) (hi := 4095) (by simp) hx
        refine ⟨a, c, z, _, rfl, by omega, by omega, by omega, T5, fun d H6 d0 d1 T6 k6 => ?_⟩
        have k36 : Keep a H' H6 := (Keep.refl.new hl5).trans (k5.trans k6)
        refine ⟨_, _, rfl, rfl, _, k36 _ _ nDa eD, by rw [List.length_map]; exact Nat.lt_of_lt_of_le (show ys.length < 100 by omega) (small_line (by decide)), ys ++ [1 + d], by rw [List.length_append, ly]; rfl, ?_, ?_, ?_, ?_⟩
        · intro y hy
          rcases List.mem_append.mp hy with hy | hy
          · exact lo y hy
          · rw [List.mem_singleton.mp hy]; omega
        · rw [upd_same, List.map_append]; rfl
        · exact (T6.upd nDa nDc).mono (by omega)
        · exact fun x o nx e => by rw [upd_ne (ne_of_none e hD0)]; exact k36 x o nx (ki x o nx e)
      · rintro H' ⟨ys, ly, lo, eD, Ti, ki⟩
        refine ⟨D, ys, rfl, SqL.of eD, by omega, fun zs p perm _ new => ?_⟩
        have lz : zs.length = 2 := by rw [perm.length_eq, ly]
        match zs, lz with
        | [u, v], _ =>
          exact ⟨p, u, v, rfl, upd_same, lo u (perm.mem_iff.mp (by simp)), lo v (perm.mem_iff.mp (by simp)), Ti.ne new, Ti.new new, ki.new new⟩
    rintro σ H3 ⟨pw, u, v, rfl, ew, hu, hv, nwa, T3, k3⟩
    refine ⟨fun σ H4 => ∃ (p : Addr) (u2 v2 : Int), σ = [some (.ref a), some (.int lag), some (.ref pw), some (.ref p), none] ∧ H4 p = some (.lst [.int u2, .int v2]) ∧ H4 pw = some (.lst [.int u, .int v]) ∧ 1 ≤ u2 ∧ 1 ≤ v2 ∧ p ≠ a ∧ Tape H4 a c (n + 10) ∧ Keep a H H4, ?_, ?_⟩
    · refine ⟨2, rfl, by decide, by decide, fun D hD => ?_⟩
      have nDa : D ≠ a := T3.ne hD
      have nDc : D ≠ c := T3.nec hD
      have nDw : pw ≠ D := ne_of_none ew hD
      refine lc_range (lo := 0) (n := 2) (fun i H' => ∃ ys : List Int, ys.length = i ∧ (∀ y ∈ ys, 1 ≤ y) ∧ H' D = some (.lst (ys.map V.int)) ∧ H' pw = some (.lst [.int u, .int v]) ∧ Tape H' a c (n + 6 + 2 * i) ∧ Keep a H H')
        ⟨[], rfl, fun y hy => (by cases hy), upd_same, upd_at hD ew, T3.new hD, k3.new hD⟩ ?_ ?_
      · rintro i H' hi ⟨ys, ly, lo, eD, eW, Ti, ki⟩
        have hD0 : H D = none := by
          cases e : H D with
          | none => rfl
          | some o => have := k3 D o nDa e; rw [hD] at this; cases this
        refine ⟨rfl, _, rfl, _, rfl, by show 3 ≤ sizeLine; decide, fun l5 hl5 => ?_⟩
        refine ⟨a, c, l5, _, _, rfl, upd_same, Ti.ne hl5, by show 0 < 3; decide, by show 3 < 1000000; decide, by omega, Ti.new hl5, fun j x H5 hx T5 k5 => ?_⟩
        obtain ⟨z, rfl, hz0, hz1⟩ := pickI (xs := [12, 30, 4095]) (lo := 1) (hi := 4095) (by simp) hx
        refine ⟨a, c, z, _, rfl, by omega, by omega, by omega, T5, fun d H6 d0 d1 T6 k6 => ?_⟩
        have k36 : Keep a H' H6 := (Keep.refl.new hl5).trans (k5.trans k6)
        refine ⟨_, _, rfl, rfl, _, k36 _ _ nDa eD, by rw [List.length_map]; exact Nat.lt_of_lt_of_le (show ys.length < 100 by omega) (small_line (by decide)), ys ++ [1 + d], by rw [List.length_append, ly]; rfl, ?_, ?_, ?_, ?_, ?_⟩
        · intro y hy
          rcases List.mem_append.mp hy with hy | hy
          · exact lo y hy
          · rw [List.mem_singleton.mp hy]; omega
        · rw [upd_same, List.map_append]; rfl
        · rw [upd_ne nDw]; exact k36 _ _ nwa eW
        · exact (T6.upd nDa nDc).mono (by omega)
        · exact fun x o nx e => by rw [upd_ne (ne_of_none e hD0)]; exact k36 x o nx (ki x o nx e)
      · rintro H' ⟨ys, ly, lo, eD, eW, Ti, ki⟩
        refine ⟨D, ys, rfl, SqL.of eD, by omega, fun zs p perm _ new => ?_⟩
        have lz : zs.length = 2 := by rw [perm.length_eq, ly]
        match zs, lz with
        | [u2, v2], _ =>
          exact ⟨p, u2, v2, rfl, upd_same, upd_at new eW, lo u2 (perm.mem_iff.mp (by simp)), lo v2 (perm.mem_iff.mp (by simp)), Ti.ne new, Ti.new new, ki.new new⟩
    rintro σ H4 ⟨pi, u2, v2, rfl, ei, ew4, hu2, hv2, nia, T4, k4⟩
    refine ⟨_, rfl, by show 1 ≤ sizeLine; decide, fun l1 n1 => ?_⟩
    refine ⟨_, rfl, _, _, _, _, rfl, rfl, upd_same, upd_at n1 ew4, by show 3 ≤ sizeLine; decide, fun l2 n2 => ?_⟩
    refine ⟨_, rfl, _, _, _, _, rfl, rfl, upd_same, upd_at n2 (upd_at n1 ei), by show 5 ≤ sizeLine; decide, fun l3 n3 => ?_⟩
    exact q l3 ⟨lag, u, v, u2, v2⟩ _ upd_same hl0 hl1 hu hv hu2 hv2 (((T4.new n1).new n2).ne n3) ((((T4.new n1).new n2).new n3).mono (by omega)) (((k4.new n1).new n2).new n3)
end
/-! ### the last pair of a minute, by the law's own walk -/
inductive Prs (H : Hp) : List V → List (Int × Int) → Prop
  | nil : Prs H [] []
  | cons {a : Addr} {x : Int × Int} {xs : List V} {qs : List (Int × Int)} : H a = some (.tup [.int x.1, .int x.2]) → Prs H xs qs → Prs H (.ref a :: xs) (x :: qs)
theorem Prs.len {H : Hp} {xs : List V} {qs : List (Int × Int)} (h : Prs H xs qs) : xs.length = qs.length := by
  induction h with
  | nil => rfl
  | cons _ _ ih => rw [List.length_cons, List.length_cons, ih]
theorem Prs.at {H : Hp} {xs : List V} {qs : List (Int × Int)} (h : Prs H xs qs) : ∀ {i : Nat} {y : V}, xs[i]? = some y → ∃ a x, y = .ref a ∧ qs[i]? = some x ∧ H a = some (.tup [.int x.1, .int x.2]) := by
  induction h with
  | nil => intro i y e; cases e
  | cons e _ ih =>
    intro i y z
    cases i with
    | zero => cases z; exact ⟨_, _, rfl, rfl, e⟩
    | succ i => exact ih z
theorem Prs.mono {H H' : Hp} {xs : List V} {qs : List (Int × Int)} (h : Prs H xs qs) (s : ∀ a ts, H a = some (.tup ts) → H' a = some (.tup ts)) : Prs H' xs qs := by
  induction h with
  | nil => exact .nil
  | cons e _ ih => exact .cons (s _ _ e) ih
theorem Prs.app {H : Hp} {xs ys : List V} {qs ss : List (Int × Int)} (h : Prs H xs qs) (h2 : Prs H ys ss) : Prs H (xs ++ ys) (qs ++ ss) := by
  induction h with
  | nil => exact h2
  | cons e _ ih => exact .cons e ih
def lStep (m : Int) (s : Option (Int × Int)) (x : Int × Int) : Option (Int × Int) := if x.1 ≤ m ∧ (s = none ∨ ∃ b, s = some b ∧ x.1 ≥ b.1) then some x else s
def lFold (m : Int) (qs : List (Int × Int)) : Option (Int × Int) := qs.foldl (lStep m) none
def lastOf (qs : List (Int × Int)) (m : Int) : Int := match lFold m qs with | none => 0 | some x => x.2
theorem lFold_succ {m : Int} {qs : List (Int × Int)} {i : Nat} {x : Int × Int} (h : qs[i]? = some x) : lFold m (qs.take (i + 1)) = lStep m (lFold m (qs.take i)) x := by
  unfold lFold
  rw [List.take_succ, h, List.foldl_append]
  rfl
def BestV (H : Hp) (v : V) (s : Option (Int × Int)) : Prop := (s = none ∧ v = .non) ∨ (∃ x t, s = some x ∧ v = .ref t ∧ H t = some (.tup [.int x.1, .int x.2]))
theorem BestV.same {H H' : Hp} {v : V} {s : Option (Int × Int)} (h : BestV H v s) (z : Same H H') : BestV H' v s := by
  rcases h with h | ⟨x, t, e1, e2, e3⟩
  · exact .inl h
  · exact .inr ⟨x, t, e1, e2, z _ _ e3⟩
def prOf (d : Int) (r : Rd) : Int × Int := (r.m + d, r.n)
/-- both walks come to the same number -/
theorem last_num (w : Bool) (d M : Int) : ∀ (rs : List Rd), (∀ r ∈ rs, 0 ≤ r.m) → ∀ (s : Option (Int × Int)) (p : Int × Int), ((s = none ∧ p = (0, 0)) ∨ s = some (p.1 + d, p.2)) →
    (match ((rs.filter fun r => r.w == w).map (prOf d)).foldl (lStep M) s with | none => (0 : Int) | some x => x.2) = (rs.foldl (nStep w (M - d)) p).2
  | [], _, s, p, h => by
    rcases h with ⟨rfl, rfl⟩ | rfl <;> rfl
  | r :: t, hall, s, p, h => by
    have h0 := hall r List.mem_cons_self
    have ht := fun z hz => hall z (List.mem_cons_of_mem _ hz)
    rw [List.foldl_cons]
    by_cases hw : r.w = w
    · have hf : (r :: t).filter (fun r => r.w == w) = r :: t.filter (fun r => r.w == w) := List.filter_cons_of_pos (by simp [hw])
      rw [hf, List.map_cons, List.foldl_cons]
      by_cases c : r.m + d ≤ M ∧ p.1 ≤ r.m
      · have e1 : nStep w (M - d) p r = (r.m, r.n) := if_pos ⟨hw, c.2, by omega⟩
        have e2 : lStep M s (prOf d r) = some (r.m + d, r.n) := by
          refine if_pos ⟨c.1, ?_⟩
          rcases h with ⟨rfl, rfl⟩ | rfl
          · exact .inl rfl
          · refine .inr ⟨_, rfl, ?_⟩
            show r.m + d ≥ p.1 + d
            omega
        rw [e1, e2]
        exact last_num w d M t ht _ _ (.inr rfl)
      · have e1 : nStep w (M - d) p r = p := if_neg fun z => c ⟨by have := z.2.2; omega, z.2.1⟩
        have e2 : lStep M s (prOf d r) = s := by
          refine if_neg fun z => c ⟨z.1, ?_⟩
          rcases h with ⟨rfl, rfl⟩ | rfl
          · exact h0
          · rcases z.2 with z2 | ⟨b, z2, z3⟩
            · cases z2
            · cases z2
              have : r.m + d ≥ p.1 + d := z3
              omega
        rw [e1, e2]
        exact last_num w d M t ht _ _ h
    · have hf : (r :: t).filter (fun r => r.w == w) = t.filter (fun r => r.w == w) := List.filter_cons_of_neg (by simp [hw])
      have e1 : nStep w (M - d) p r = p := if_neg fun z => hw z.1
      rw [hf, e1]
      exact last_num w d M t ht _ _ h
theorem lastOf_num {w : Bool} {d M : Int} {rs : List Rd} (h : ∀ r ∈ rs, 0 ≤ r.m) : lastOf ((rs.filter fun r => r.w == w).map (prOf d)) M = numAt rs w (M - d) :=
  last_num w d M rs h none (0, 0) (.inl ⟨rfl, rfl⟩)
theorem filt_succ {w : Bool} {rs : List Rd} {i : Nat} {r : Rd} (h : rs[i]? = some r) : (rs.take (i + 1)).filter (fun r => r.w == w) = (rs.take i).filter (fun r => r.w == w) ++ (if r.w = w then [r] else []) := by
  rw [List.take_succ, h, List.filter_append]
  by_cases c : r.w = w
  · rw [if_pos c]
    show _ ++ [r].filter _ = _
    rw [List.filter_cons_of_pos (by simp [c])]
    rfl
  · rw [if_neg c]
    show _ ++ [r].filter _ = _
    rw [List.filter_cons_of_neg (by simp [c])]
    rfl
def spLast : Sp := fun vs H Q _ => ∃ (p : Addr) (xs : List V) (qs : List (Int × Int)) (m : Int), vs = [.ref p, .int m] ∧ H p = some (.lst xs) ∧ Prs H xs qs ∧ ∀ H', Same H H' → Q (.int (lastOf qs m)) H'
def spLStand : Sp := fun vs H Q _ => ∃ (b p : Addr) (g : Gg) (rs : List Rd) (m : Int), vs = [.ref b, .ref p, .int m] ∧ H b = some (.lst [.int g.lag, .int g.high, .int g.top, .int g.thin, .int g.thick]) ∧ RdsAt H p rs ∧ rs.length ≤ 1000 ∧ (∀ r ∈ rs, 0 ≤ r.m) ∧
  ∀ H', Same H H' → Q (.str (standG g rs m)) H'
section
variable {P : Program} {w : World} {K : PySem.W.Frag} {mg : Str → Option Value} {base : Heap} {C : Addr}
theorem ok_last {f : Addr} {fd : FuncData} {k : Nat} (F : Fun K "_law_last" "_law_last" sLast f fd) : FnOk P w K mg base CX0 (k + 1) f fd ["_law_rows", "_law_moment"] spLast := by
  refine F.ok scLast (fun vs H Q E h => ?_) (fun cdv A outer s H vs Q E hr h => ?_)
  · obtain ⟨p, xs, qs, m, rfl, _⟩ := h
    rfl
  · obtain ⟨p, xs, qs, m, rfl, hp, hq, q⟩ := h
    refine ⟨_,
      (pss_cons (ps_set (i := 2) scLast.nd rfl (.inl rfl) pe_non)
      (pss_cons (ps_for PassesOwn.never rfl (pi_list (pv 0)) (pg_tup rfl (pgs_cons (pg_name (i := 3) scLast.nd rfl (.inl rfl)) (pgs_cons (pg_name (i := 4) scLast.nd rfl (.inl rfl)) pgs_nil)))
      (pss_one (ps_if (PW.pt (pw_and (pt_cmpR op_le (pv 3) (pv 1) (nomark _)) (pw_and1 (PW.pt (pw_or (pt_cmpR op_isN (pv 2) pe_non (nomark _)) (pw_or1 (pt_cmpR op_ge (pv 3) (pe_ix ix_tup (pv 2) pe_int (fun _ _ => rfl)) (nomark _))))))))
      (pss_one (ps_set (i := 2) scLast.nd rfl (.inl rfl) (pe_tup (pa_cons (pv 3) (pa_cons (pv 4) pa_nil)))))
      pss_nil)))
      (pss_one (ps_ret (pe_ifExp (pt_cmpR op_isN (pv 2) pe_non (nomark _)) pe_int (pe_ix ix_tup (pv 2) pe_int (fun _ _ => rfl)))))))
      , ?_⟩
    refine ⟨_, rfl, p, rfl, ⟨_, SqL.of hp⟩, for_list (K := K) (a := p) (xs := xs) (fun j σ H' => ∃ v v3 v4, σ = [some (.ref p), some (.int m), some v, v3, v4] ∧ BestV H' v (lFold m (qs.take j)) ∧ Same H H')
      ⟨_, _, _, rfl, .inl ⟨rfl, rfl⟩, same_refl⟩ (fun j σ H' _ ⟨_, _, _, _, _, z⟩ => SqL.of (z _ _ hp)) ?_ ?_⟩
    · rintro j y σ H' hj ⟨v, v3, v4, rfl, hb, s1⟩
      obtain ⟨a, x, rfl, hx, ha⟩ := hq.at hj
      have es := lFold_succ (m := m) hx
      have ha' := s1 _ _ ha
      refine ⟨a, _, rfl, SqT.of ha', rfl, _, _, rfl, _, _, rfl, rfl, ?_⟩
      have keep : ∀ (hn : ¬ (x.1 ≤ m ∧ (lFold m (qs.take j) = none ∨ ∃ b, lFold m (qs.take j) = some b ∧ x.1 ≥ b.1))), BestV H' v (lFold m (qs.take (j + 1))) := fun hn => by
        have e2 : lStep m (lFold m (qs.take j)) x = lFold m (qs.take j) := if_neg hn
        rw [es, e2]; exact hb
      have take : ∀ (hn : x.1 ≤ m ∧ (lFold m (qs.take j) = none ∨ ∃ b, lFold m (qs.take j) = some b ∧ x.1 ≥ b.1)), lFold m (qs.take (j + 1)) = some x := fun hn => by
        have e2 : lStep m (lFold m (qs.take j)) x = some x := if_pos hn
        rw [es, e2]
      refine ⟨_, rfl, _, rfl, _, _, rfl, rfl, _, rfl, ite2 (fun c1 => ?_) (fun c1 => iteF ⟨_, _, _, rfl, keep fun z => c1 (decide_eq_true z.1), s1⟩)⟩
      have c1' : x.1 ≤ m := of_decide_eq_true c1
      refine ⟨_, rfl, rfl, _, rfl, ite2 (fun c2 => iteT ?_) (fun c2 => ?_)⟩
      · have hn : lFold m (qs.take j) = none := by
          rcases hb with hb | ⟨_, _, _, e, _⟩
          · exact hb.1
          · rw [e] at c2; exact absurd (of_decide_eq_true c2) (by intro z; cases z)
        refine ⟨_, rfl, _, rfl, by show 2 ≤ sizeLine; decide, fun t ht => ?_⟩
        exact ⟨_, _, _, rfl, .inr ⟨x, t, take ⟨c1', .inl hn⟩, rfl, upd_same⟩, s1.trans (same_upd ht)⟩
      · rcases hb with hb | ⟨b, t0, e0, e1, e2⟩
        · exact absurd (decide_eq_true hb.2) c2
        · subst e1
          refine ⟨_, rfl, _, rfl, t0, _, 0, _, rfl, rfl, SqT.of e2, atI_nat (j := 0) rfl, _, _, rfl, rfl, _, rfl, ite2 (fun c3 => ?_) (fun c3 => ?_)⟩
          · refine ⟨_, rfl, _, rfl, by show 2 ≤ sizeLine; decide, fun t ht => ?_⟩
            exact ⟨_, _, _, rfl, .inr ⟨x, t, take ⟨c1', .inr ⟨b, e0, of_decide_eq_true c3⟩⟩, rfl, upd_same⟩, s1.trans (same_upd ht)⟩
          · refine ⟨_, _, _, rfl, keep fun z => ?_, s1⟩
            rcases z.2 with z2 | ⟨b', z2, z3⟩
            · rw [e0] at z2; cases z2
            · rw [e0] at z2; cases z2
              exact c3 (decide_eq_true z3)
    · rintro σ H' ⟨v, v3, v4, rfl, hb, s1⟩
      rw [hq.len, List.take_length] at hb
      refine ⟨_, rfl, rfl, _, rfl, ite2 (fun c => ?_) (fun c => ?_)⟩
      · have e : lastOf qs m = 0 := by
          rcases hb with hb | ⟨_, _, _, e, _⟩
          · unfold lastOf; rw [hb.1]
          · rw [e] at c; exact absurd (of_decide_eq_true c) (by intro z; cases z)
        rw [e] at q
        exact q _ s1
      · rcases hb with hb | ⟨b, t0, e0, e1, e2⟩
        · exact absurd (decide_eq_true hb.2) c
        · subst e1
          have e : lastOf qs m = b.2 := by unfold lastOf; rw [e0]
          rw [e] at q
          exact ⟨_, rfl, t0, _, 1, _, rfl, rfl, SqT.of e2, atI_nat (j := 1) rfl, q _ s1⟩
theorem ok_lstand {f fL : Addr} {fd fdL : FuncData} {k : Nat} (F : Fun K "_law_stand" "_law_stand" sLStand f fd)
    (F_law_last : Fun K "_law_last" "_law_last" sLast fL fdL) (g_law_last : mg "_law_last" = some (.ref fL)) (b_law_last : Binds K fdL ["_law_rows", "_law_moment"] []) :
    FnOk P w K mg base CX0 (k + 2) f fd ["_law_bounds_here", "_law_came", "_law_moment"] spLStand := by
  have G_law_last : FnOk P w K mg base CX0 (k + 1) fL fdL ["_law_rows", "_law_moment"] spLast := ok_last F_law_last
  refine F.ok scLStand (fun vs H Q E h => ?_) (fun cdv A outer s H vs Q E hr h => ?_)
  · obtain ⟨b, p, g, rs, m, rfl, _⟩ := h
    rfl
  · obtain ⟨b, p, g, rs, m, rfl, hb, ⟨xs, hp, hrs⟩, hlen, hall, q⟩ := h
    have hr_law_last := hr
    refine ⟨_,
      (pss_cut (ps_set (i := 3) scLStand.nd rfl (.inl rfl) (pe_call G_law_last hr_law_last (by rfl) g_law_last F_law_last.kp b_law_last .nil pass0 (pa_cons (pe_lc (own := [("_law_row", 5)]) (g := gName 5)  rfl scLStand.nd (pi_list (pv 1)) (blkOk_by (N := NLStand) (own := [("_law_row", 5)]) (sc := defScope sLStand) (by decide +kernel)) (fun _ _ _ _ _ => pg_name (i := 5) scLStand.nd rfl (Or.inl rfl)) (fun _ _ _ _ _ => pts_one (pt_cmpR op_eq (pe_ix (r := rIxT K) ix_tup (pv 5) pe_int (fun _ _ => rfl)) pe_str (nomark _))) (fun _ _ _ _ _ => (pe_tup (pa_cons (pe_op op_add (pe_ix (r := rIxT K) ix_tup (pv 5) pe_int (fun _ _ => rfl)) (pe_ix (r := rIxL K) ix_list (pv 0) pe_int (fun _ _ => rfl))) (pa_cons (pe_ix (r := rIxT K) ix_tup (pv 5) pe_int (fun _ _ => rfl)) pa_nil))))) (pa_cons (pv 2) pa_nil))))
      (pss_cut (ps_set (i := 4) scLStand.nd rfl (.inl rfl) (pe_call G_law_last hr_law_last (by rfl) g_law_last F_law_last.kp b_law_last .nil pass0 (pa_cons (pe_lc (own := [("_law_row", 5)]) (g := gName 5)  rfl scLStand.nd (pi_list (pv 1)) (blkOk_by (N := NLStand) (own := [("_law_row", 5)]) (sc := defScope sLStand) (by decide +kernel)) (fun _ _ _ _ _ => pg_name (i := 5) scLStand.nd rfl (Or.inl rfl)) (fun _ _ _ _ _ => pts_one (pt_cmpR op_eq (pe_ix (r := rIxT K) ix_tup (pv 5) pe_int (fun _ _ => rfl)) pe_str (nomark _))) (fun _ _ _ _ _ => (pe_tup (pa_cons (pe_ix (r := rIxT K) ix_tup (pv 5) pe_int (fun _ _ => rfl)) (pa_cons (pe_ix (r := rIxT K) ix_tup (pv 5) pe_int (fun _ _ => rfl)) pa_nil))))) (pa_cons (pv 2) pa_nil))))
      (pss_cons (ps_if (pt_cmpR op_ge (pv 3) (pe_ix ix_list (pv 0) pe_int (fun _ _ => rfl)) (nomark _))
      (pss_one (ps_ret pe_str))
      pss_nil)
      (pss_cons (ps_if (pt_cmpR op_ge (pv 4) (pe_ix ix_list (pv 0) pe_int (fun _ _ => rfl)) (nomark _))
      (pss_one (ps_ret pe_str))
      pss_nil)
      (pss_one (ps_ret (pe_ifExp (PW.pt (pw_or (pt_cmpR op_ge (pv 3) (pe_ix ix_list (pv 0) pe_int (fun _ _ => rfl)) (nomark _)) (pw_or1 (pt_cmpR op_ge (pv 4) (pe_ix ix_list (pv 0) pe_int (fun _ _ => rfl)) (nomark _))))) pe_str pe_str)))))))
      , ?_⟩
    have hxl := hrs.len
    refine ⟨fun σ H1 => σ = [some (.ref b), some (.ref p), some (.int m), some (.int (numAt rs true (m - g.lag))), none, none] ∧ Same H H1, ?_, ?_⟩
    · refine ⟨_, rfl, p, rfl, ⟨_, SqL.of hp⟩, fun D hD => ?_⟩
      refine lc_list (K := K) (a := p) (xs := xs) (fun i H' => ∃ ys, H' D = some (.lst ys) ∧ Prs H' ys (((rs.take i).filter fun r => r.w == true).map (prOf g.lag)) ∧ ys.length ≤ i ∧ Same H H')
        ⟨[], upd_same, .nil, Nat.le_refl _, same_upd hD⟩ (fun i H' _ ⟨_, _, _, _, z⟩ => SqL.of (z _ _ hp)) ?_ ?_
      · rintro i y H' hy ⟨ys, eD, hys, ly, si⟩
        obtain ⟨a, r, rfl, hr2, ha⟩ := hrs.at hy
        have ha' := si _ _ ha
        have hi : i < xs.length := (List.getElem?_eq_some_iff.mp hy).1
        refine ⟨rfl, _, rfl, a, _, 1, _, rfl, rfl, SqT.of ha', atI_nat (j := 1) rfl, rfl, _, rfl, ite2 (fun c => ?_) (fun c => ?_)⟩
        · have ew : r.w = true := kindS_inj.mp (V.str.inj (of_decide_eq_true c))
          refine ⟨_, rfl, a, _, 0, _, rfl, rfl, SqT.of ha', atI_nat (j := 0) rfl, _, rfl, b, _, 0, _, rfl, rfl, SqL.of (si _ _ hb), atI_nat (j := 0) rfl, _, _, rfl, rfl, _, rfl, a, _, 2, _, rfl, rfl, SqT.of ha', atI_nat (j := 2) rfl, by show 2 ≤ sizeLine; decide, fun t ht => ?_⟩
          have eD' := upd_at (o := .tup [.int (r.m + g.lag), .int r.n]) ht eD
          have ntD : t ≠ D := (ne_of_none eD ht).symm
          refine ⟨_, eD', Nat.lt_of_lt_of_le (show ys.length < 1001 by omega) (Nat.le_trans (show 1001 ≤ 100000 by decide) (by decide)), ys ++ [.ref t], upd_same, ?_, by rw [List.length_append]; exact Nat.succ_le_succ ly, fun x o e => ?_⟩
          · rw [filt_succ hr2, if_pos ew, List.map_append]
            refine (hys.mono fun x ts z => ?_).app (.cons (by rw [upd_ne ntD]; exact upd_same) .nil)
            rw [upd_ne (ne_of z eD (by intro z; cases z))]; exact upd_at ht z
          · rw [upd_ne (ne_of_none e hD)]
            exact upd_at ht (si _ _ e)
        · have ew : ¬ r.w = true := fun z => c (decide_eq_true (congrArg V.str (kindS_inj.mpr z)))
          refine ⟨ys, eD, ?_, by omega, si⟩
          rw [filt_succ hr2, if_neg ew, List.append_nil]
          exact hys
      · rintro H' ⟨ys, eD, hys, ly, si⟩
        rw [hxl, List.take_length] at hys
        refine ⟨_, rfl, D, ys, _, m, rfl, eD, hys, fun H2 s2 => ?_⟩
        rw [lastOf_num hall]
        exact ⟨rfl, si.trans s2⟩
    rintro σ H1 ⟨rfl, s1⟩
    refine ⟨fun σ H2 => σ = [some (.ref b), some (.ref p), some (.int m), some (.int (numAt rs true (m - g.lag))), some (.int (numAt rs false m)), none] ∧ Same H H2, ?_, ?_⟩
    · refine ⟨_, rfl, p, rfl, ⟨_, SqL.of (s1 _ _ hp)⟩, fun D hD => ?_⟩
      refine lc_list (K := K) (a := p) (xs := xs) (fun i H' => ∃ ys, H' D = some (.lst ys) ∧ Prs H' ys (((rs.take i).filter fun r => r.w == false).map (prOf 0)) ∧ ys.length ≤ i ∧ Same H H')
        ⟨[], upd_same, .nil, Nat.le_refl _, s1.trans (same_upd hD)⟩ (fun i H' _ ⟨_, _, _, _, z⟩ => SqL.of (z _ _ hp)) ?_ ?_
      · rintro i y H' hy ⟨ys, eD, hys, ly, si⟩
        obtain ⟨a, r, rfl, hr2, ha⟩ := hrs.at hy
        have ha' := si _ _ ha
        have hi : i < xs.length := (List.getElem?_eq_some_iff.mp hy).1
        refine ⟨rfl, _, rfl, a, _, 1, _, rfl, rfl, SqT.of ha', atI_nat (j := 1) rfl, rfl, _, rfl, ite2 (fun c => ?_) (fun c => ?_)⟩
        · have ew : r.w = false := kindS_inj.mp (V.str.inj (of_decide_eq_true c))
          refine ⟨_, rfl, a, _, 0, _, rfl, rfl, SqT.of ha', atI_nat (j := 0) rfl, _, rfl, a, _, 2, _, rfl, rfl, SqT.of ha', atI_nat (j := 2) rfl, by show 2 ≤ sizeLine; decide, fun t ht => ?_⟩
          have eD' := upd_at (o := .tup [.int r.m, .int r.n]) ht eD
          have ntD : t ≠ D := (ne_of_none eD ht).symm
          refine ⟨_, eD', Nat.lt_of_lt_of_le (show ys.length < 1001 by omega) (Nat.le_trans (show 1001 ≤ 100000 by decide) (by decide)), ys ++ [.ref t], upd_same, ?_, by rw [List.length_append]; exact Nat.succ_le_succ ly, fun x o e => ?_⟩
          · rw [filt_succ hr2, if_pos ew, List.map_append]
            refine (hys.mono fun x ts z => ?_).app (.cons (by rw [upd_ne ntD, upd_same]; show some (HO.tup [.int r.m, .int r.n]) = some (.tup [.int (r.m + 0), .int r.n]); rw [Int.add_zero]) .nil)
            rw [upd_ne (ne_of z eD (by intro z; cases z))]; exact upd_at ht z
          · by_cases exD : x = D
            · subst exD
              exact absurd (s1 _ _ e) (by rw [hD]; intro z; cases z)
            · rw [upd_ne exD]
              exact upd_at ht (si _ _ e)
        · have ew : ¬ r.w = false := fun z => c (decide_eq_true (congrArg V.str (kindS_inj.mpr z)))
          refine ⟨ys, eD, ?_, by omega, si⟩
          rw [filt_succ hr2, if_neg ew, List.append_nil]
          exact hys
      · rintro H' ⟨ys, eD, hys, ly, si⟩
        rw [hxl, List.take_length] at hys
        refine ⟨_, rfl, D, ys, _, m, rfl, eD, hys, fun H2 s2 => ?_⟩
        rw [lastOf_num hall, Int.sub_zero]
        exact ⟨rfl, si.trans s2⟩
    rintro σ H2 ⟨rfl, s2⟩
    have hb2 := s2 _ _ hb
    have q2 := q _ s2
    refine ⟨_, rfl, _, rfl, b, _, 2, _, rfl, rfl, SqL.of hb2, atI_nat (j := 2) rfl, _, _, rfl, rfl, _, rfl, ite2 (fun c1 => ?_) (fun c1 => ?_)⟩
    · have e : standG g rs m = "lost" := if_pos (of_decide_eq_true c1)
      rw [e] at q2
      exact q2
    refine ⟨_, rfl, _, rfl, b, _, 4, _, rfl, rfl, SqL.of hb2, atI_nat (j := 4) rfl, _, _, rfl, rfl, _, rfl, ite2 (fun c2 => ?_) (fun c2 => ?_)⟩
    · have e : standG g rs m = "shut" := (if_neg fun z => c1 (decide_eq_true z)).trans (if_pos (of_decide_eq_true c2))
      rw [e] at q2
      exact q2
    have e0 : standG g rs m = (if numAt rs true (m - g.lag) ≥ g.high ∨ numAt rs false m ≥ g.thin then ("slow" : Str) else ("free" : Str)) := (if_neg fun z => c1 (decide_eq_true z)).trans (if_neg fun z => c2 (decide_eq_true z))
    rw [e0] at q2
    refine ⟨_, rfl, _, rfl, b, _, 1, _, rfl, rfl, SqL.of hb2, atI_nat (j := 1) rfl, _, _, rfl, rfl, _, rfl, ite2 (fun c3 => iteT ?_) (fun c3 => ?_)⟩
    · rw [if_pos (Or.inl (of_decide_eq_true c3))] at q2
      exact q2
    refine ⟨_, rfl, _, rfl, b, _, 3, _, rfl, rfl, SqL.of hb2, atI_nat (j := 3) rfl, _, _, rfl, rfl, _, rfl, ite2 (fun c4 => ?_) (fun c4 => ?_)⟩
    · rw [if_pos (Or.inr (of_decide_eq_true c4))] at q2
      exact q2
    · rw [if_neg (fun z => z.elim (fun z => c3 (decide_eq_true z)) (fun z => c4 (decide_eq_true z)))] at q2
      exact q2
end
/-! ### the first minute at which it is lost -/
theorem filt_take {α : Type} {p : α → Bool} {xs : List α} {i : Nat} {x : α} (h : xs[i]? = some x) : (xs.take (i + 1)).filter p = (xs.take i).filter p ++ (if p x = true then [x] else []) := by
  rw [List.take_succ, h, List.filter_append]
  by_cases c : p x = true
  · rw [if_pos c]
    show _ ++ [x].filter p = _
    rw [List.filter_cons_of_pos c]; rfl
  · rw [if_neg c]
    show _ ++ [x].filter p = _
    rw [List.filter_cons_of_neg c]; rfl
def chg (g : Gg) (rs : List Rd) : List Int := rs.map fun r => if r.w = true then r.m + g.lag else r.m
def knownOf (n : Int) (rs : List Rd) : List Rd := rs.filter fun r => decide (r.m ≤ n)
def lostB (g : Gg) (kn : List Rd) (m : Int) : Bool := decide (numAt kn true (m - g.lag) ≥ g.top)
theorem lost_iff {g : Gg} {rs : List Rd} {m : Int} : V.str (standG g rs m) = V.str "lost" ↔ lostB g rs m = true := by
  have n1 : ¬ (("shut" : Str) = "lost") := by decide +kernel
  have n2 : ¬ (("slow" : Str) = "lost") := by decide +kernel
  have n3 : ¬ (("free" : Str) = "lost") := by decide +kernel
  unfold lostB
  rw [decide_eq_true_eq]
  constructor
  · intro h
    have h := V.str.inj h
    apply Classical.byContradiction
    intro c
    unfold standG standS at h
    rw [if_neg c] at h
    split at h
    · exact n1 h
    · split at h
      · exact n2 h
      · exact n3 h
  · intro h
    exact congrArg V.str (if_pos h)
def lostP (g : Gg) (kn : List Rd) (now : Int) : List Int := (now :: (chg g kn).filter fun m => decide (m > now)).filter (lostB g kn)
def lostL (g : Gg) (kn : List Rd) (now : Int) : List Int := (now :: (kn.filter fun r => r.w == true).map fun r => r.m + g.lag).filter fun m => decide (m ≥ now) && lostB g kn m
theorem nfold_up {w : Bool} {u : Int} : ∀ (rs : List Rd) (s : Int × Int), s.1 ≤ (rs.foldl (nStep w u) s).1
  | [], s => Int.le_refl _
  | r :: t, s => by
    rw [List.foldl_cons]
    refine Int.le_trans ?_ (nfold_up t _)
    unfold nStep
    split
    · rename_i c; exact c.2.1
    · exact Int.le_refl _
theorem nfold_steady {w : Bool} {u u' : Int} : ∀ (rs : List Rd) (s : Int × Int), (rs.foldl (nStep w u) s).1 ≤ u' → u' ≤ u → rs.foldl (nStep w u') s = rs.foldl (nStep w u) s
  | [], s, _, _ => rfl
  | r :: t, s, h, hu => by
    rw [List.foldl_cons, List.foldl_cons]
    rw [List.foldl_cons] at h
    have e : nStep w u' s r = nStep w u s r := by
      by_cases c : r.w = w ∧ s.1 ≤ r.m ∧ r.m ≤ u
      · have e1 : nStep w u s r = (r.m, r.n) := if_pos c
        rw [e1] at h
        have := nfold_up (w := w) (u := u) t (r.m, r.n)
        have h2 : r.m ≤ u' := Int.le_trans this h
        have e2 : nStep w u' s r = (r.m, r.n) := if_pos ⟨c.1, c.2.1, h2⟩
        rw [e1, e2]
      · have e1 : nStep w u s r = s := if_neg c
        have e2 : nStep w u' s r = s := if_neg fun z => c ⟨z.1, z.2.1, Int.le_trans z.2.2 hu⟩
        rw [e1, e2]
    rw [e]
    exact nfold_steady t _ h hu
theorem nfold_from {w : Bool} {u : Int} : ∀ (rs : List Rd) (s : Int × Int), rs.foldl (nStep w u) s = s ∨ ∃ r ∈ rs, r.w = w ∧ (rs.foldl (nStep w u) s).1 = r.m ∧ r.m ≤ u
  | [], s => .inl rfl
  | r :: t, s => by
    rw [List.foldl_cons]
    rcases nfold_from t (nStep w u s r) with h | ⟨q, hq, h1, h2, h3⟩
    · rw [h]
      by_cases c : r.w = w ∧ s.1 ≤ r.m ∧ r.m ≤ u
      · have e1 : nStep w u s r = (r.m, r.n) := if_pos c
        rw [e1]
        exact .inr ⟨r, List.mem_cons_self, c.1, rfl, c.2.2⟩
      · exact .inl (if_neg c)
    · exact .inr ⟨q, List.mem_cons_of_mem _ hq, h1, h2, h3⟩
theorem mem_lostL {g : Gg} {kn : List Rd} {now m : Int} : m ∈ lostL g kn now ↔ (m = now ∨ ∃ r ∈ kn, r.w = true ∧ r.m + g.lag = m) ∧ now ≤ m ∧ lostB g kn m = true := by
  unfold lostL
  rw [List.mem_filter, List.mem_cons, List.mem_map, Bool.and_eq_true, decide_eq_true_eq]
  constructor
  · rintro ⟨h | ⟨r, hr, e⟩, h2, h3⟩
    · exact ⟨.inl h, h2, h3⟩
    · rw [List.mem_filter, beq_iff_eq] at hr
      exact ⟨.inr ⟨r, hr.1, hr.2, e⟩, h2, h3⟩
  · rintro ⟨h | ⟨r, hr, hw, e⟩, h2, h3⟩
    · exact ⟨.inl h, h2, h3⟩
    · exact ⟨.inr ⟨r, by rw [List.mem_filter, beq_iff_eq]; exact ⟨hr, hw⟩, e⟩, h2, h3⟩
theorem mem_lostP {g : Gg} {kn : List Rd} {now m : Int} : m ∈ lostP g kn now ↔ (m = now ∨ (m ∈ chg g kn ∧ now < m)) ∧ lostB g kn m = true := by
  unfold lostP
  rw [List.mem_filter, List.mem_cons, List.mem_filter, decide_eq_true_eq]
theorem lostL_P {g : Gg} {kn : List Rd} {now m : Int} (h : m ∈ lostL g kn now) : m ∈ lostP g kn now := by
  obtain ⟨h1, h2, h3⟩ := mem_lostL.mp h
  refine mem_lostP.mpr ⟨?_, h3⟩
  by_cases e : m = now
  · exact .inl e
  · rcases h1 with h1 | ⟨r, hr, hw, er⟩
    · exact absurd h1 e
    · refine .inr ⟨?_, by omega⟩
      unfold chg
      rw [List.mem_map]
      exact ⟨r, hr, by rw [if_pos hw]; exact er⟩
/-- where it is lost, the law's own walk has a minute no later -/
theorem lostP_L {g : Gg} {kn : List Rd} {now m : Int} (ht : 1 ≤ g.top) (h : m ∈ lostP g kn now) : ∃ y ∈ lostL g kn now, y ≤ m := by
  obtain ⟨h1, h3⟩ := mem_lostP.mp h
  have hnm : now ≤ m := by rcases h1 with h1 | h1 <;> omega
  by_cases e : m = now
  · exact ⟨m, mem_lostL.mpr ⟨.inl e, hnm, h3⟩, Int.le_refl _⟩
  have hl : numAt kn true (m - g.lag) ≥ g.top := of_decide_eq_true h3
  have same : ∀ u', (nFold true (m - g.lag) kn).1 ≤ u' → u' ≤ m - g.lag → numAt kn true u' = numAt kn true (m - g.lag) := fun u' a b => congrArg Prod.snd (nfold_steady kn (0, 0) a b)
  rcases nfold_from (w := true) (u := m - g.lag) kn (0, 0) with z | ⟨r, hr, hw, er, hru⟩
  · have : numAt kn true (m - g.lag) = 0 := congrArg Prod.snd z
    omega
  · have er' : (nFold true (m - g.lag) kn).1 = r.m := er
    by_cases c : now ≤ r.m + g.lag
    · refine ⟨r.m + g.lag, mem_lostL.mpr ⟨.inr ⟨r, hr, hw, rfl⟩, c, ?_⟩, by omega⟩
      have := same (r.m + g.lag - g.lag) (by omega) (by omega)
      unfold lostB
      rw [this]; exact decide_eq_true hl
    · refine ⟨now, mem_lostL.mpr ⟨.inl rfl, Int.le_refl _, ?_⟩, hnm⟩
      have := same (now - g.lag) (by omega) (by omega)
      unfold lostB
      rw [this]; exact decide_eq_true hl
/-- the first such minute -/
def IsFl (g : Gg) (kn : List Rd) (now f : Int) : Prop := f ∈ lostL g kn now ∧ ∀ y ∈ lostL g kn now, f ≤ y
theorem isFl_of {g : Gg} {kn : List Rd} {now f : Int} (ht : 1 ≤ g.top) (h : f ∈ lostP g kn now) (h2 : ∀ y ∈ lostP g kn now, f ≤ y) : IsFl g kn now f := by
  obtain ⟨y, hy, hyf⟩ := lostP_L ht h
  have e : y = f := Int.le_antisymm hyf (h2 y (lostL_P hy))
  exact ⟨e ▸ hy, fun y hy => h2 y (lostL_P hy)⟩
theorem noFl_of {g : Gg} {kn : List Rd} {now : Int} (h : lostP g kn now = []) : lostL g kn now = [] := by
  cases e : lostL g kn now with
  | nil => rfl
  | cons y r =>
    have : y ∈ lostP g kn now := lostL_P (by rw [e]; exact List.mem_cons_self)
    rw [h] at this
    cases this
def spChg (C : Addr) : Sp := fun vs H Q _ => ∃ (p q : Addr) (g : Gg) (rs : List Rd), vs = [.ref p, .ref q] ∧ GgAt C H p g ∧ RdsAt H q rs ∧ rs.length ≤ 1000 ∧ ∀ r H', Same H H' → H r = none → H' r = some (.lst ((chg g rs).map V.int)) → Q (.ref r) H'
theorem ggF_changes (g : Gg) : (ggF g).lookup ("_changes" : Str) = none := ggF_no g (by decide +kernel) (by decide +kernel) (by decide +kernel) (by decide +kernel) (by decide +kernel)
theorem ggF_last (g : Gg) : (ggF g).lookup ("last_call" : Str) = none := ggF_no g (by decide +kernel) (by decide +kernel) (by decide +kernel) (by decide +kernel) (by decide +kernel)
theorem small1001 {n : Nat} (h : n ≤ 1001) : n < sizeLine := Nat.lt_of_le_of_lt h (Nat.lt_of_lt_of_le (show 1001 < 100000 by decide) (by decide))
section
variable {P : Program} {w : World} {K : PySem.W.Frag} {mg : Str → Option Value} {base : Heap} {C CT : Addr}
theorem ok_chg {f : Addr} {fd : FuncData} {k : Nat} (F : Fun K "_changes" "Gauge._changes" sChg f fd) (T : GCl K mg C) (TW : TxtW mg) : FnOk P w K mg base CX0 (k + 1) f fd ["self", "readings"] (spChg C) := by
  refine F.ok scChg (fun vs H Q E h => ?_) (fun cdv A outer s H vs Q E hr h => ?_)
  · obtain ⟨p, q, g, rs, rfl, _⟩ := h
    rfl
  · obtain ⟨p, r, g, rs, rfl, hp, ⟨xs, er, hrs⟩, hl, q⟩ := h
    obtain ⟨tw, mWATER⟩ := TW.mWATER
    refine ⟨_,
      (pss_one (ps_ret (pe_lc (own := [("minute", 2), ("kind", 3), ("number", 4)]) (g := gTup K 3 (gCons (gName 2) (gCons (gName 3) (gCons (gName 4) gNil)))) (tt := tYes) rfl scChg.nd (pi_list (pv 1)) (blkOk_by (N := NChg) (own := [("minute", 2), ("kind", 3), ("number", 4)]) (sc := defScope sChg) (by decide +kernel)) (fun _ _ _ _ _ => pg_tup rfl (pgs_cons (pg_name (i := 2) scChg.nd rfl (Or.inl rfl)) (pgs_cons (pg_name (i := 3) scChg.nd rfl (Or.inl rfl)) (pgs_cons (pg_name (i := 4) scChg.nd rfl (Or.inl rfl)) pgs_nil)))) (fun _ _ _ _ _ => pts_nil) (fun _ _ _ _ _ => (pe_ifExp (pt_cmpR op_eq (pv 3) (pe_glob (v := .str "water") (by rfl) mWATER ⟨_, rfl⟩) (nomark _)) (pe_op op_add (pv 2) (show PE _ _ (tFld K (tVar 0) "lag") from pe_fld (pv 0) rfl)) (pv 2))))))
      , ?_⟩
    obtain ⟨dx, ep⟩ := id hp
    refine ⟨_, rfl, r, rfl, ⟨_, SqL.of er⟩, fun D hD => ?_⟩
    refine lc_list (K := K) (a := r) (xs := xs) (fun i H' => H' D = some (.lst ((chg g (rs.take i)).map V.int)) ∧ Same H H')
      ⟨upd_same, same_upd hD⟩ (fun i H' _ ⟨_, z⟩ => SqL.of (z _ _ er)) ?_ ?_
    · rintro i y H' hy ⟨eD, si⟩
      obtain ⟨a, x, rfl, hx, ha⟩ := hrs.at hy
      have hi : i < xs.length := (List.getElem?_eq_some_iff.mp hy).1
      have hxl := hrs.len
      have fin : ∀ z : Int, z = (if x.w = true then x.m + g.lag else x.m) → (∃ acc, H' D = some (.lst acc) ∧ acc.length < sizeLine ∧ (upd H' D (.lst (acc ++ [.int z])) D = some (.lst ((chg g (rs.take (i + 1))).map V.int)) ∧ Same H (upd H' D (.lst (acc ++ [.int z]))))) := by
        intro z hz
        refine ⟨_, eD, ?_, ?_, fun y o e => by rw [upd_ne (ne_of_none e hD)]; exact si _ _ e⟩
        · unfold chg
          rw [List.length_map, List.length_map, List.length_take]
          exact small1001 (by omega)
        · rw [upd_same]
          unfold chg
          rw [List.take_succ, hx, hz]
          simp
      refine ⟨a, _, rfl, SqT.of (si _ _ ha), rfl, _, _, rfl, _, _, rfl, _, _, rfl, rfl, rfl, ?_⟩
      refine ⟨_, rfl, rfl, _, rfl, ite2 (fun c => ?_) (fun c => ?_)⟩
      · have ew : x.w = true := kindS_inj.mp (V.str.inj (of_decide_eq_true c))
        exact ⟨_, rfl, _, rfl, p, C, dx, _, _, rfl, si _ _ ep, T.cl, T.nL, ggF_lag g, _, _, rfl, rfl, fin _ (if_pos ew).symm⟩
      · have ew : ¬ x.w = true := fun z => c (decide_eq_true (congrArg V.str (kindS_inj.mpr z)))
        exact ⟨_, rfl, fin _ (if_neg ew).symm⟩
    · rintro H' ⟨eD, si⟩
      rw [hrs.len, List.take_length] at eD
      exact q D H' si hD eD
end
/-! ### readings, a step at a time -/
section
variable {σ : L2.St} {H : Hp} {Q : VK} {D : Ends} {ta tb te : TE} {tr t : TA} {E : XK} {sp : Sp} {dvs : List V}
theorem i_var {i : Nat} {v : V} (e : σ[i]? = some (some v)) (h : Q v H) : tVar i σ H Q := ⟨v, e, h⟩
theorem i_c {v : V} (h : Q v H) : tC v σ H Q := h
theorem i_nil {Q : List V → Hp → Prop} (h : Q [] H) : tNil σ H Q := h
theorem i_cons {Q : List V → Hp → Prop} (h : ta σ H fun x H1 => tr σ H1 fun xs H2 => Q (x :: xs) H2) : tCons ta tr σ H Q := h
theorem i_op {r : R2} (h : ta σ H fun x H1 => tb σ H1 fun y H2 => r x y H2 Q) : tOp r ta tb σ H Q := h
theorem i_un {r : V → Hp → VK → Prop} (h : ta σ H fun x H1 => r x H1 Q) : tUn r ta σ H Q := h
theorem i_call (h : t σ H fun vs H1 => sp (vs ++ dvs) H1 Q E) : tCall sp dvs E t σ H Q := h
theorem i_cb {r : List V → Hp → VK → Prop} (h : t σ H fun vs H1 => r vs H1 Q) : tCB r t σ H Q := h
theorem i_asg {g : TG} (h : te σ H fun x H1 => g x σ H1 D.nx) : tAsg te g D σ H := h
theorem i_name {i : Nat} {v : V} {Q : L2.St → Hp → Prop} (h : Q (σ.set i (some v)) H) : gName i v σ H Q := h
theorem i_seq {u v : TS} (h : u { D with nx := v D } σ H) : tSeq u v D σ H := h
theorem i_next (h : D.nx σ H) : tNext D σ H := h
theorem i_ret (h : te σ H D.rt) : tRet te D σ H := h
theorem i_drop (h : te σ H fun _ H1 => D.nx σ H1) : tDrop te D σ H := h
theorem i_if {c : TT} {u v : TS} (h : c σ H fun b H1 => if b = true then u D σ H1 else v D σ H1) : tIfS c u v D σ H := h
theorem i_and {u v : TT} {Q : Bool → Hp → Prop} (h : u σ H fun c H1 => if c = true then v σ H1 Q else Q false H1) : tAnd u v σ H Q := h
theorem i_or {u v : TT} {Q : Bool → Hp → Prop} (h : u σ H fun c H1 => if c = true then Q true H1 else v σ H1 Q) : tOr u v σ H Q := h
theorem i_not {u : TT} {Q : Bool → Hp → Prop} (h : u σ H fun c H1 => Q (!c) H1) : tNot u σ H Q := h
theorem i_test {Q : Bool → Hp → Prop} (h : te σ H fun x H1 => ∃ k, x = .bl k ∧ Q k H1) : tTest te σ H Q := h
theorem i_ite {c : TT} (h : c σ H fun b H1 => if b = true then ta σ H1 Q else tb σ H1 Q) : tIf c ta tb σ H Q := h
theorem i_lst (h : t σ H fun xs H1 => xs.length ≤ sizeLine ∧ ∀ p, H1 p = none → Q (.ref p) (upd H1 p (.lst xs))) : tLst t σ H Q := h
theorem i_tup (h : t σ H fun xs H1 => xs.length ≤ sizeLine ∧ ∀ p, H1 p = none → Q (.ref p) (upd H1 p (.tup xs))) : tTup t σ H Q := h
theorem i_bm {K : PySem.W.Frag} {S : String} {r : V → List V → Hp → VK → Prop} (h : ta σ H fun x H1 => tyV K S x H1 ∧ t σ H1 fun xs H2 => r x xs H2 Q) : tBM K S r ta t σ H Q := h
theorem i_aug {i : Nat} {ti : TIp} {x : V} (e : σ[i]? = some (some x)) (h : te σ H fun y H1 => ti x y H1 fun z H2 => D.nx (σ.set i (some z)) H2) : tAug i te ti D σ H := ⟨x, e, h⟩
theorem i_par {i j : Nat} {v w : V} (h : t σ H fun vs H1 => ∃ v w, vs = [v, w] ∧ D.nx ((σ.set i (some v)).set j (some w)) H1) : tPar i j t D σ H := h
theorem i_gsub {to ti : TE} {ts : TSet} {v : V} {Q : L2.St → Hp → Prop} (h : to σ H fun o H1 => ti σ H1 fun i H2 => ts o i v H2 fun H3 => Q σ H3) : gSub to ti ts v σ H Q := h
theorem i_chain {r r' : R2} {tc : TE} (h : ta σ H fun x H1 => tb σ H1 fun y H2 => r x y H2 fun z H3 => ∃ k, z = .bl k ∧ if k = true then tc σ H3 fun v H4 => r' y v H4 Q else Q (.bl false) H3) : tChain r r' ta tb tc σ H Q := h
theorem i_sl {r : V → Option Int → Option Int → Hp → VK → Prop} {tl th : TO} (h : te σ H fun x H1 => tl σ H1 fun l H2 => th σ H2 fun u H3 => r x l u H3 Q) : tSl r te tl th σ H Q := h
theorem i_nopart {Q : Option Int → Hp → Prop} (h : Q none H) : tNoPart σ H Q := h
theorem i_part {Q : Option Int → Hp → Prop} (h : te σ H fun x H1 => ∃ i, x = .int i ∧ Q (some i) H1) : tPart te σ H Q := h
end
section
variable {σ : L2.St} {H : Hp} {Q : VK} {ta te : TE} {t : TA}
theorem i_m1 {r : V → List V → Hp → VK → Prop} (h : ta σ H fun x H1 => (∃ a, x = .str a) ∧ te σ H1 fun y H2 => r x [y] H2 Q) : tM1 r ta te σ H Q := h
theorem i_m0 {r : V → List V → Hp → VK → Prop} (h : ta σ H fun x H1 => (∃ a, x = .str a) ∧ r x [] H1 Q) : tM0 r ta σ H Q := h
theorem i_iList {K : PySem.W.Frag} {R : It → Hp → Prop} (h : ta σ H fun x H1 => ∃ a, x = .ref a ∧ (∃ xs, SqL K H1 a xs) ∧ R (Itl K a) H1) : iList K ta σ H R := h
theorem i_iTup {K : PySem.W.Frag} {R : It → Hp → Prop} (h : ta σ H fun x H1 => ∃ a, x = .ref a ∧ (∃ xs, SqT K H1 a xs) ∧ R (Itt K a) H1) : iTup K ta σ H R := h
theorem i_iStr {R : It → Hp → Prop} (h : ta σ H fun v H1 => ∃ x, v = .str x ∧ R (Its x) H1) : iStr ta σ H R := h
theorem i_r1 {R : It → Hp → Prop} (h : t σ H fun vs H1 => ∃ j : Int, vs = [.int j] ∧ -(2 ^ 62) ≤ j ∧ j < 2 ^ 62 ∧ R (Itr 0 j.toNat) H1) : iRng1 t σ H R := h
theorem i_lc {wi : TI} {g : TG} {tt : TT} {vs : List Nat} (h : wi σ H fun J H1 => ∀ D, H1 D = none → ∃ W : Nat → Nat → Hp → Prop, (∃ m, W 0 m (upd H1 D (.lst []))) ∧ ∀ i m H, W i m H →
  (J.stop i H ∧ Q (.ref D) H) ∨ (J.go i H ∧ ∃ Nx : Hp → Prop, (∀ H', Nx H' → ∃ m', m' < m ∧ W (i + 1) m' H') ∧ ∀ x H', J.yld i H x H' → g x (wipe σ vs) H' fun σ2 H2 => wipe σ2 vs = wipe σ vs ∧ tt σ2 H2 fun b H3 =>
    if b = true then te σ2 H3 fun y H4 => ∃ acc, H4 D = some (.lst acc) ∧ acc.length < sizeLine ∧ Nx (upd H4 D (.lst (acc ++ [y]))) else Nx H3)) : tLc wi g tt te vs σ H Q := h
end
theorem app_same {H1 H4 : Hp} {D : Addr} {o : HO} (hD : H1 D = none) (s : Same H1 H4) : Same H1 (upd H4 D o) := fun y u e => by rw [upd_ne (ne_of_none e hD)]; exact s _ _ e
theorem app_keep {F : Addr} {H1 H4 : Hp} {D : Addr} {o : HO} (hD : H1 D = none) (s : Keep F H1 H4) : Keep F H1 (upd H4 D o) := fun y u n e => by rw [upd_ne (ne_of_none e hD)]; exact s _ _ n e
theorem lt_line {n : Nat} (h : n < 100000) : n < sizeLine := Nat.lt_of_lt_of_le h (by decide)
theorem le_line {n : Nat} (h : n ≤ 100000) : n ≤ sizeLine := Nat.le_trans h (by decide)
theorem ixN_nat {n j : Nat} (h : j < n) : ixN n (j : Int) = some j := by
  unfold ixN
  rw [if_pos (by omega), if_pos (by omega)]
  simp
theorem i_callk {σ : L2.St} {H : Hp} {Q : VK} {sp : Sp} {gV : List V → List V → List V} {E : XK} {t tk : TA} (h : t σ H fun vs H1 => tk σ H1 fun zs H2 => sp (gV vs zs) H2 Q E) : tCallK sp gV E t tk σ H Q := h
theorem i_callN {σ : L2.St} {H : Hp} {Q : VK} {n m : Nat} {sp : Sp} {gV : List V → List V → List V} {E : XK} {t tk : TA} (h : t σ H fun vs H1 => tk σ H1 fun zs H2 => vs.length = n ∧ zs.length = m ∧ sp (gV vs zs) H2 Q E) : tCallN n m sp gV E t tk σ H Q := h
theorem i_ckw {σ : L2.St} {H : Hp} {Q : VK} {r : List V → List V → Hp → VK → Prop} {t tk : TA} (h : t σ H fun vs H1 => tk σ H1 fun zs H2 => r vs zs H2 Q) : tCKw r t tk σ H Q := h
theorem i_revL {K : PySem.W.Frag} {σ : L2.St} {H : Hp} {Q : VK} {te : TE} (h : te σ H fun x H1 => ∃ a xs, x = .ref a ∧ SqL K H1 a xs ∧ ∀ p, H1 p = none → Q (.ref p) (upd H1 p (.lst xs.reverse))) : tRevL K te σ H Q := h
theorem ite_str {a b : Str} {A B : Prop} (h1 : a = b → A) (h2 : ¬ a = b → B) : if decide (V.str a = V.str b) = true then A else B := by
  by_cases c : a = b
  · rw [if_pos (decide_eq_true (congrArg V.str c))]; exact h1 c
  · rw [if_neg (fun z => c (V.str.inj (of_decide_eq_true z)))]; exact h2 c
theorem ite_nstr {a b : Str} {A B : Prop} (h1 : ¬ a = b → A) (h2 : a = b → B) : if (!decide (V.str a = V.str b)) = true then A else B := by
  by_cases c : a = b
  · rw [decide_eq_true (congrArg V.str c)]; exact iteF (h2 c)
  · rw [decide_eq_false (fun z => c (V.str.inj z))]; exact iteT (h1 c)
theorem i_tB {te : TE} {σ : L2.St} {H : Hp} {Q : Bool → Hp → Prop} (h : te σ H fun x H1 => ∃ c, x = .bl c ∧ Q c H1) : tB te σ H Q := h
theorem i_kw {K : PySem.W.Frag} {n : Nat} {gs : TGs} {a : Addr} {xs : List V} {σ : L2.St} {H : Hp} {Q : L2.St → Hp → Prop} (h : SqT K H a xs) (e : xs.length = n) (q : gs xs σ H Q) : gTup K n gs (.ref a) σ H Q := ⟨a, xs, rfl, h, e, q⟩
theorem i_andV {ta tb : TE} {σ : L2.St} {H : Hp} {Q : VK} (h : ta σ H fun x H1 => ∃ c, x = .bl c ∧ if c = true then tb σ H1 Q else Q (.bl false) H1) : tAndV ta tb σ H Q := h
theorem i_orV {ta tb : TE} {σ : L2.St} {H : Hp} {Q : VK} (h : ta σ H fun x H1 => ∃ c, x = .bl c ∧ if c = true then Q (.bl true) H1 else tb σ H1 Q) : tOrV ta tb σ H Q := h
theorem i_notV {ta : TE} {σ : L2.St} {H : Hp} {Q : VK} (h : ta σ H fun x H1 => ∃ c, x = .bl c ∧ Q (.bl (!c)) H1) : tNotV ta σ H Q := h
theorem i_ixT {K : PySem.W.Frag} {H : Hp} {p : Addr} {xs : List V} {j : Nat} {v : V} {Q : VK} (h : SqT K H p xs) (e : xs[j]? = some v) (q : Q v H) : rIxT K (.ref p) (.int (j : Int)) H Q := ⟨p, xs, _, v, rfl, rfl, h, atI_nat e, q⟩
theorem i_ixL {K : PySem.W.Frag} {H : Hp} {p : Addr} {xs : List V} {j : Nat} {v : V} {Q : VK} (h : SqL K H p xs) (e : xs[j]? = some v) (q : Q v H) : rIxL K (.ref p) (.int (j : Int)) H Q := ⟨p, xs, _, v, rfl, rfl, h, atI_nat e, q⟩
theorem i_ixT0 {K : PySem.W.Frag} {H : Hp} {p : Addr} {x : V} {xs : List V} {Q : VK} (h : SqT K H p (x :: xs)) (q : Q x H) : rIxT K (.ref p) (.int 0) H Q := ⟨p, _, 0, x, rfl, rfl, h, atI_nat (j := 0) rfl, q⟩
theorem i_ixT1 {K : PySem.W.Frag} {H : Hp} {p : Addr} {x y : V} {xs : List V} {Q : VK} (h : SqT K H p (x :: y :: xs)) (q : Q y H) : rIxT K (.ref p) (.int 1) H Q := ⟨p, _, 1, y, rfl, rfl, h, atI_nat (j := 1) rfl, q⟩
theorem i_ixT2 {K : PySem.W.Frag} {H : Hp} {p : Addr} {x y z : V} {xs : List V} {Q : VK} (h : SqT K H p (x :: y :: z :: xs)) (q : Q z H) : rIxT K (.ref p) (.int 2) H Q := ⟨p, _, 2, z, rfl, rfl, h, atI_nat (j := 2) rfl, q⟩
theorem i_ixT3 {K : PySem.W.Frag} {H : Hp} {p : Addr} {x y z w : V} {xs : List V} {Q : VK} (h : SqT K H p (x :: y :: z :: w :: xs)) (q : Q w H) : rIxT K (.ref p) (.int 3) H Q := ⟨p, _, 3, w, rfl, rfl, h, atI_nat (j := 3) rfl, q⟩
theorem i_ixLe {K : PySem.W.Frag} {H : Hp} {p : Addr} {xs : List V} {i : Int} (j : Nat) {v : V} {Q : VK} (h : SqL K H p xs) (ei : i = (j : Int)) (e : xs[j]? = some v) (q : Q v H) : rIxL K (.ref p) (.int i) H Q := by subst ei; exact i_ixL h e q
theorem i_ixTe {K : PySem.W.Frag} {H : Hp} {p : Addr} {xs : List V} {i : Int} (j : Nat) {v : V} {Q : VK} (h : SqT K H p xs) (ei : i = (j : Int)) (e : xs[j]? = some v) (q : Q v H) : rIxT K (.ref p) (.int i) H Q := by subst ei; exact i_ixT h e q
def rFld (K : PySem.W.Frag) (f : Str) : V → Hp → VK → Prop := fun x H Q => ∃ a C dx fs v, x = .ref a ∧ H a = some (.ins C dx fs) ∧ Cls K C ∧ NoAttr K C f ∧ fs.lookup f = some v ∧ Q v H
theorem i_fld {K : PySem.W.Frag} {ta : TE} {f : Str} {σ : L2.St} {H : Hp} {Q : VK} (h : ta σ H fun x H1 => rFld K f x H1 Q) : tFld K ta f σ H Q := h
theorem i_sfld {K : PySem.W.Frag} {ta tv : TE} {f : Str} {D : Ends} {σ : L2.St} {H : Hp} (h : tv σ H fun y H1 => ta σ H1 fun x H2 => ∃ a C dx fs, x = .ref a ∧ H2 a = some (.ins C dx fs) ∧ Cls K C ∧ NoAttr K C f ∧ fs.length < 1000 ∧ D.nx σ (upd H2 a (.ins C dx (putF f y fs)))) : sFld K ta tv f D σ H := h
/-- a new object, to be made by its __init__ -/
def rMkN (C : Addr) (sp : Sp) (gV : List V → List V → List V) (E : XK) (vs zs : List V) (H : Hp) (Q : VK) : Prop := ∀ x dx, H x = none → H dx = none → dx ≠ x → sp (gV (.ref x :: vs) zs) (upd (upd H dx (.own x)) x (.ins C dx [])) (fun v H3 => v = .non ∧ Q (.ref x) H3) E
def rMk (C : Addr) (sp : Sp) (dvs : List V) (E : XK) (vs : List V) (H : Hp) (Q : VK) : Prop := ∀ x dx, H x = none → H dx = none → dx ≠ x → sp (.ref x :: (vs ++ dvs)) (upd (upd H dx (.own x)) x (.ins C dx [])) (fun v H3 => v = .non ∧ Q (.ref x) H3) E
theorem i_make {C : Addr} {sp : Sp} {dvs : List V} {E : XK} {t : TA} {σ : L2.St} {H : Hp} {Q : VK} (h : t σ H fun vs H1 => rMk C sp dvs E vs H1 Q) : tMake C sp dvs E t σ H Q := h
theorem i_makeN {C : Addr} {n m : Nat} {sp : Sp} {gV : List V → List V → List V} {E : XK} {t tk : TA} {σ : L2.St} {H : Hp} {Q : VK} (h : t σ H fun vs H1 => tk σ H1 fun zs H2 => vs.length = n ∧ zs.length = m ∧ rMkN C sp gV E vs zs H2 Q) : tMakeN C n m sp gV E t tk σ H Q := h
theorem i_meth {C : Addr} {m : Str} {sp : Sp} {dvs : List V} {E : XK} {ta : TE} {t : TA} {σ : L2.St} {H : Hp} {Q : VK} (h : ta σ H fun x H1 => ∃ a dx fs, x = .ref a ∧ H1 a = some (.ins C dx fs) ∧ fs.lookup m = none ∧ t σ H1 fun vs H2 => sp (x :: (vs ++ dvs)) H2 Q E) : tMeth C m sp dvs E ta t σ H Q := h
theorem ixN_last {n : Nat} : ixN (n + 1) (-1) = some n := by
  unfold ixN
  rw [if_neg (by decide), if_pos (by omega)]
  congr 1
  omega
theorem i_ixLast {K : PySem.W.Frag} {H : Hp} {p : Addr} {xs : List V} {v : V} {Q : VK} (h : SqL K H p (xs ++ [v])) (q : Q v H) : rIxL K (.ref p) (.int (-1)) H Q := by
  refine ⟨p, xs ++ [v], -1, v, rfl, rfl, h, ?_, q⟩
  unfold atI
  rw [List.length_append, List.length_singleton, ixN_last]
  simp
theorem i_setLast {H : Hp} {p : Addr} {xs : List V} {v w : V} {Q : Hp → Prop} (h : H p = some (.lst (xs ++ [v]))) (q : Q (upd H p (.lst (xs ++ [w])))) : rSetL (.ref p) (.int (-1)) w H Q := by
  refine ⟨p, xs ++ [v], -1, xs.length, rfl, rfl, h, by rw [List.length_append, List.length_singleton, ixN_last], ?_⟩
  rw [show (xs ++ [v]).set xs.length w = xs ++ [w] by simp]
  exact q
theorem isi_list {K : PySem.W.Frag} {H : Hp} {p : Addr} {xs : List V} {Q : VK} (e : H p = some (.lst xs)) (q : Q (.bl true) H) : rIsi K [.ref p, .ty "list"] H Q := ⟨_, _, _, _, true, rfl, .ty _, .base (.lst e), rfl, q⟩
theorem isi_own {K : PySem.W.Frag} {H : Hp} {x : V} {C : Addr} {Q : VK} (e : TyX K H x (.ref C)) (q : Q (.bl true) H) : rIsi K [x, .ref C] H Q := ⟨_, _, _, _, true, rfl, .own C, e, if_pos (beq_self_eq_true _), q⟩
theorem i_yes {σ : L2.St} {H : Hp} {Q : Bool → Hp → Prop} (h : Q true H) : tYes σ H Q := h
set_option maxHeartbeats 8000000
local macro_rules | `(tactic| walk_at "c") => `(tactic| first | omega | decide | exact ⟨by omega, by omega⟩ | exact ⟨by decide, by decide⟩ | exact .inl ⟨by omega, by omega⟩ | exact .inr ⟨by omega, by omega⟩ | exact ⟨by omega, by omega, by omega⟩ | exact ⟨by decide, by decide, by decide⟩ | exact le_line (Nat.le_of_ble_eq_true rfl))
local macro_rules | `(tactic| walk_at "a") => `(tactic| with_reducible (first | refine i_seq ?_ | refine i_asg ?_ | refine i_cons ?_ | refine i_c ?_ | refine i_nil ?_ | refine i_op ?_ | refine i_call ?_ | refine i_cb ?_ | refine i_name ?_ | refine i_next ?_ | refine i_ret ?_ | refine i_drop ?_ | refine i_if ?_ | refine i_test ?_ | refine i_and ?_ | refine i_or ?_ | refine i_not ?_ | refine i_ite ?_ | refine i_lst ?_ | refine i_tup ?_ | refine i_bm ?_ | refine i_un ?_ | refine i_par ?_ | refine i_gsub ?_ | refine i_chain ?_ | refine i_sl ?_ | refine i_nopart ?_ | refine i_part ?_ | refine i_m1 ?_ | refine i_m0 ?_ | refine i_lc ?_ | refine i_iList ?_ | refine i_iTup ?_ | refine i_iStr ?_ | refine i_r1 ?_ | refine i_set ?_ | refine i_callk ?_ | refine i_callN ?_ | refine i_ckw ?_ | refine i_revL ?_ | refine i_tB ?_ | refine i_fld ?_ | refine i_sfld ?_ | refine i_make ?_ | refine i_makeN ?_ | refine i_meth ?_ | refine i_andV ?_ | refine i_orV ?_ | refine i_notV ?_ | refine iteT ?_ | refine iteF ?_ | refine i_yes ?_))
local macro_rules | `(tactic| walk_at "s") => `(tactic| repeat (first | walk_at "a" | refine i_var rfl ?_ | refine i_aug rfl ?_ | refine And.intro ⟨_, rfl⟩ ?_ | refine ⟨_, rfl, ?_⟩ | refine ⟨_, _, rfl, rfl, ?_⟩ | refine ⟨_, _, rfl, ?_⟩ | refine ⟨rfl, ?_⟩ | refine And.intro (by walk_at "c") ?_))
abbrev FunDf_Stretch___init__ (K : PySem.W.Frag) (f : Addr) (fd : FuncData) : Prop := FunD K "__init__" "Stretch.__init__" (defArgs sSInit) (defBody sSInit) (defScope sSInit) [.non] [] f fd
abbrev FunDf_Gauge_last_call (K : PySem.W.Frag) (f : Addr) (fd : FuncData) : Prop := FunD K "last_call" "Gauge.last_call" (defArgs sLc) (defBody sLc) (defScope sLc) [.int 120] [] f fd
structure Ev (K : PySem.W.Frag) (mg : Str → Option Value) where
  f_wall : Addr
  fd_wall : FuncData
  F_wall : Fun K "_wall" "_wall" sWall f_wall fd_wall
  b_wall : Binds K fd_wall ["k"] []
  g_wall : mg "_wall" = some (.ref f_wall)
  fshow_time : Addr
  fdshow_time : FuncData
  Fshow_time : Fun K "show_time" "show_time" sShow fshow_time fdshow_time
  bshow_time : Binds K fdshow_time ["minute"] []
  gshow_time : mg "show_time" = some (.ref fshow_time)
  f_number_at : Addr
  fd_number_at : FuncData
  F_number_at : Fun K "_number_at" "_number_at" sNumAt f_number_at fd_number_at
  b_number_at : Binds K fd_number_at ["readings", "kind", "until"] []
  g_number_at : mg "_number_at" = some (.ref f_number_at)
  f_law_feed : Addr
  fd_law_feed : FuncData
  F_law_feed : Fun K "_law_feed" "_law_feed" sFeed f_law_feed fd_law_feed
  b_law_feed : Binds K fd_law_feed ["_law_script"] []
  g_law_feed : mg "_law_feed" = some (.ref f_law_feed)
  f_law_draw : Addr
  fd_law_draw : FuncData
  F_law_draw : Fun K "_law_draw" "_law_draw" sDraw f_law_draw fd_law_draw
  b_law_draw : Binds K fd_law_draw ["_law_feed_here", "_law_many"] []
  g_law_draw : mg "_law_draw" = some (.ref f_law_draw)
  f_law_of : Addr
  fd_law_of : FuncData
  F_law_of : Fun K "_law_of" "_law_of" sOf f_law_of fd_law_of
  b_law_of : Binds K fd_law_of ["_law_feed_here", "_law_some"] []
  g_law_of : mg "_law_of" = some (.ref f_law_of)
  f_law_readings : Addr
  fd_law_readings : FuncData
  F_law_readings : Fun K "_law_readings" "_law_readings" sReadings f_law_readings fd_law_readings
  b_law_readings : Binds K fd_law_readings ["_law_feed_here", "_law_many"] []
  g_law_readings : mg "_law_readings" = some (.ref f_law_readings)
  f_law_bounds : Addr
  fd_law_bounds : FuncData
  F_law_bounds : Fun K "_law_bounds" "_law_bounds" sBounds f_law_bounds fd_law_bounds
  b_law_bounds : Binds K fd_law_bounds ["_law_feed_here"] []
  g_law_bounds : mg "_law_bounds" = some (.ref f_law_bounds)
  f_law_last : Addr
  fd_law_last : FuncData
  F_law_last : Fun K "_law_last" "_law_last" sLast f_law_last fd_law_last
  b_law_last : Binds K fd_law_last ["_law_rows", "_law_moment"] []
  g_law_last : mg "_law_last" = some (.ref f_law_last)
  f_law_stand : Addr
  fd_law_stand : FuncData
  F_law_stand : Fun K "_law_stand" "_law_stand" sLStand f_law_stand fd_law_stand
  b_law_stand : Binds K fd_law_stand ["_law_bounds_here", "_law_came", "_law_moment"] []
  g_law_stand : mg "_law_stand" = some (.ref f_law_stand)
  f_law_edges : Addr
  fd_law_edges : FuncData
  F_law_edges : Fun K "_law_edges" "_law_edges" sEdges f_law_edges fd_law_edges
  b_law_edges : Binds K fd_law_edges ["_law_bounds_here", "_law_came"] []
  g_law_edges : mg "_law_edges" = some (.ref f_law_edges)
  f_law_right : Addr
  fd_law_right : FuncData
  F_law_right : Fun K "_law_right" "_law_right" sLRight f_law_right fd_law_right
  b_law_right : Binds K fd_law_right ["_law_bounds_here", "_law_came", "_law_told", "_law_start", "_law_upto"] []
  g_law_right : mg "_law_right" = some (.ref f_law_right)
  flaw : Addr
  fdlaw : FuncData
  Flaw : Fun K "law" "law" sLaw flaw fdlaw
  blaw : Binds K fdlaw ["_law_script"] []
  glaw : mg "law" = some (.ref flaw)
  fStretch___init__ : Addr
  fdStretch___init__ : FuncData
  FStretch___init__ : FunDf_Stretch___init__ K fStretch___init__ fdStretch___init__
  fStretch___eq__ : Addr
  fdStretch___eq__ : FuncData
  FStretch___eq__ : Fun K "__eq__" "Stretch.__eq__" sSEq fStretch___eq__ fdStretch___eq__
  bStretch___eq__ : Binds K fdStretch___eq__ ["self", "other"] []
  fStretch___len__ : Addr
  fdStretch___len__ : FuncData
  FStretch___len__ : Fun K "__len__" "Stretch.__len__" sSLen fStretch___len__ fdStretch___len__
  bStretch___len__ : Binds K fdStretch___len__ ["self"] []
  fStretch___str__ : Addr
  fdStretch___str__ : FuncData
  FStretch___str__ : Fun K "__str__" "Stretch.__str__" sSStr fStretch___str__ fdStretch___str__
  bStretch___str__ : Binds K fdStretch___str__ ["self"] []
  fStretch___repr__ : Addr
  fdStretch___repr__ : FuncData
  FStretch___repr__ : Fun K "__repr__" "Stretch.__repr__" sSRepr fStretch___repr__ fdStretch___repr__
  bStretch___repr__ : Binds K fdStretch___repr__ ["self"] []
  fGauge___init__ : Addr
  fdGauge___init__ : FuncData
  FGauge___init__ : FunDf_Gauge___init__ K fGauge___init__ fdGauge___init__
  fGauge_stand : Addr
  fdGauge_stand : FuncData
  FGauge_stand : Fun K "stand" "Gauge.stand" sGStand fGauge_stand fdGauge_stand
  bGauge_stand : Binds K fdGauge_stand ["self", "readings", "minute"] []
  fGauge_stands : Addr
  fdGauge_stands : FuncData
  FGauge_stands : Fun K "stands" "Gauge.stands" sGaugeStands fGauge_stands fdGauge_stands
  bGauge_stands : Binds K fdGauge_stands ["self", "readings", "within"] []
  fGauge_last_call : Addr
  fdGauge_last_call : FuncData
  FGauge_last_call : FunDf_Gauge_last_call K fGauge_last_call fdGauge_last_call
  fGauge__changes : Addr
  fdGauge__changes : FuncData
  FGauge__changes : Fun K "_changes" "Gauge._changes" sChg fGauge__changes fdGauge__changes
  bGauge__changes : Binds K fdGauge__changes ["self", "readings"] []
  fNoStretch___init__ : Addr
  fdNoStretch___init__ : FuncData
  FNoStretch___init__ : Fun K "__init__" "NoStretch.__init__" sNInit fNoStretch___init__ fdNoStretch___init__
  bNoStretch___init__ : Binds K fdNoStretch___init__ ["self", "first", "behind"] []
  tDAY : Tok
  mDAY : mg "DAY" = some (.int 1440 tDAY)
  tHOUR : Tok
  mHOUR : mg "HOUR" = some (.int 60 tHOUR)
  tWATER : Tok
  mWATER : mg "WATER" = some (.str "water" tWATER)
  tICE : Tok
  mICE : mg "ICE" = some (.str "ice" tICE)
  tLOST : Tok
  mLOST : mg "LOST" = some (.str "lost" tLOST)
  tSHUT : Tok
  mSHUT : mg "SHUT" = some (.str "shut" tSHUT)
  tSLOW : Tok
  mSLOW : mg "SLOW" = some (.str "slow" tSLOW)
  tFREE : Tok
  mFREE : mg "FREE" = some (.str "free" tFREE)
  mArithmeticError : mg "ArithmeticError" = none
  mdivmod : mg "divmod" = none
  mint : mg "int" = none
  misinstance : mg "isinstance" = none
  mlen : mg "len" = none
  mlist : mg "list" = none
  mmax : mg "max" = none
  mrange : mg "range" = none
  mrepr : mg "repr" = none
  msorted : mg "sorted" = none
  mzip : mg "zip" = none
  CStretch : Addr
  CGauge : Addr
  CNoStretch : Addr
  gCNoStretch : mg "NoStretch" = some (.ref CNoStretch)
  oxNoStretch : OexB K CNoStretch
  exNoStretch : PySem.W.subIn K (.ref CNoStretch) (.type "BaseException") = some true
  hdNoStretch : PySem.W.hasDictIn K CNoStretch = true
  tyNoStretch : PySem.W.typeIn K (.ref CNoStretch) = some (.type "type")
  icNoStretch : PySem.W.isClsIn K CNoStretch = true
  seNoStretch : PySem.W.subIn K (.ref CNoStretch) (.ref CNoStretch) = some true
  upNoStretch : PySem.W.subIn K (.ref CNoStretch) (.type "ArithmeticError") = some true
  gaNoStretch : PySem.W.findIn K (.ref CNoStretch) "__getattribute__" = some (some (.builtin "BaseException.__getattribute__"))
  ggNoStretch : PySem.W.findIn K (.ref CNoStretch) "__getattr__" = some none
  haNoStretch : PySem.W.findIn K (.ref CNoStretch) "__class__" = some (some (.builtin "object.__class__"))
  hnNoStretch : PySem.W.specialIn K (.builtin "object.__class__") "__get__" = some (some (.builtin "getset_descriptor.__get__"))
  htNoStretch : PySem.W.takesIn K (.builtin "object.__class__") = some true
  hmNoStretch : PySem.W.mroIn K CNoStretch (.type "object") = some true
  nNoStretch_first : PySem.W.findIn K (.ref CNoStretch) "first" = some none
  nNoStretch_behind : PySem.W.findIn K (.ref CNoStretch) "behind" = some none
  aNoStretch___init__ : PySem.W.findIn K (.ref CNoStretch) "__init__" = some (some (.ref fNoStretch___init__))
  iNoStretch___init__ : PySem.W.isFn K (.ref fNoStretch___init__) = true
  kNoStretch___init__ : PySem.W.keepIn K (.ref fNoStretch___init__) = true
  gCStretch : mg "Stretch" = some (.ref CStretch)
  pgStretch : PySem.W.plainGet K CStretch Str.empty = true
  hdStretch : PySem.W.hasDictIn K CStretch = true
  poStretch : PySem.W.plainOver K CStretch = true
  saStretch : PySem.W.findIn K (.ref CStretch) "__setattr__" = some (some (.builtin "object.__setattr__"))
  mkStretch : PySem.W.makesIn K CStretch = true
  kcStretch : PySem.W.keepIn K (.ref CStretch) = true
  haStretch : PySem.W.findIn K (.ref CStretch) "__class__" = some (some (.builtin "object.__class__"))
  hnStretch : PySem.W.specialIn K (.builtin "object.__class__") "__get__" = some (some (.builtin "getset_descriptor.__get__"))
  htStretch : PySem.W.takesIn K (.builtin "object.__class__") = some true
  hmStretch : PySem.W.mroIn K CStretch (.type "object") = some true
  nfStretch : PySem.W.notFirst K CStretch (.ref CStretch) = true
  nStretch_first : PySem.W.findIn K (.ref CStretch) "first" = some none
  nStretch_behind : PySem.W.findIn K (.ref CStretch) "behind" = some none
  neStretch : PySem.W.findIn K (.ref CStretch) "__ne__" = some (some (.builtin "object.__ne__"))
  icStretch : PySem.W.isClsIn K CStretch = true
  tyStretch : PySem.W.typeIn K (.ref CStretch) = some (.type "type")
  subStretch_NoneType : PySem.W.subIn K (.ref CStretch) (.type "NoneType") = some false
  kitStretch_NoneType : PySem.W.subIn K (.type "NoneType") (.ref CStretch) = some false
  ntStretch_NoneType : PySem.W.notFirst K CStretch (.type "NoneType") = true
  subStretch_int : PySem.W.subIn K (.ref CStretch) (.type "int") = some false
  kitStretch_int : PySem.W.subIn K (.type "int") (.ref CStretch) = some false
  ntStretch_int : PySem.W.notFirst K CStretch (.type "int") = true
  subStretch_str : PySem.W.subIn K (.ref CStretch) (.type "str") = some false
  kitStretch_str : PySem.W.subIn K (.type "str") (.ref CStretch) = some false
  ntStretch_str : PySem.W.notFirst K CStretch (.type "str") = true
  subStretch_list : PySem.W.subIn K (.ref CStretch) (.type "list") = some false
  kitStretch_list : PySem.W.subIn K (.type "list") (.ref CStretch) = some false
  ntStretch_list : PySem.W.notFirst K CStretch (.type "list") = true
  subStretch_tuple : PySem.W.subIn K (.ref CStretch) (.type "tuple") = some false
  kitStretch_tuple : PySem.W.subIn K (.type "tuple") (.ref CStretch) = some false
  ntStretch_tuple : PySem.W.notFirst K CStretch (.type "tuple") = true
  subStretch_dict : PySem.W.subIn K (.ref CStretch) (.type "dict") = some false
  kitStretch_dict : PySem.W.subIn K (.type "dict") (.ref CStretch) = some false
  ntStretch_dict : PySem.W.notFirst K CStretch (.type "dict") = true
  aStretch___init__ : PySem.W.findIn K (.ref CStretch) "__init__" = some (some (.ref fStretch___init__))
  iStretch___init__ : PySem.W.isFn K (.ref fStretch___init__) = true
  kStretch___init__ : PySem.W.keepIn K (.ref fStretch___init__) = true
  aStretch___eq__ : PySem.W.findIn K (.ref CStretch) "__eq__" = some (some (.ref fStretch___eq__))
  iStretch___eq__ : PySem.W.isFn K (.ref fStretch___eq__) = true
  kStretch___eq__ : PySem.W.keepIn K (.ref fStretch___eq__) = true
  aStretch___len__ : PySem.W.findIn K (.ref CStretch) "__len__" = some (some (.ref fStretch___len__))
  iStretch___len__ : PySem.W.isFn K (.ref fStretch___len__) = true
  kStretch___len__ : PySem.W.keepIn K (.ref fStretch___len__) = true
  aStretch___str__ : PySem.W.findIn K (.ref CStretch) "__str__" = some (some (.ref fStretch___str__))
  iStretch___str__ : PySem.W.isFn K (.ref fStretch___str__) = true
  kStretch___str__ : PySem.W.keepIn K (.ref fStretch___str__) = true
  aStretch___repr__ : PySem.W.findIn K (.ref CStretch) "__repr__" = some (some (.ref fStretch___repr__))
  iStretch___repr__ : PySem.W.isFn K (.ref fStretch___repr__) = true
  kStretch___repr__ : PySem.W.keepIn K (.ref fStretch___repr__) = true
  gCGauge : mg "Gauge" = some (.ref CGauge)
  pgGauge : PySem.W.plainGet K CGauge Str.empty = true
  hdGauge : PySem.W.hasDictIn K CGauge = true
  poGauge : PySem.W.plainOver K CGauge = true
  saGauge : PySem.W.findIn K (.ref CGauge) "__setattr__" = some (some (.builtin "object.__setattr__"))
  mkGauge : PySem.W.makesIn K CGauge = true
  kcGauge : PySem.W.keepIn K (.ref CGauge) = true
  haGauge : PySem.W.findIn K (.ref CGauge) "__class__" = some (some (.builtin "object.__class__"))
  hnGauge : PySem.W.specialIn K (.builtin "object.__class__") "__get__" = some (some (.builtin "getset_descriptor.__get__"))
  htGauge : PySem.W.takesIn K (.builtin "object.__class__") = some true
  hmGauge : PySem.W.mroIn K CGauge (.type "object") = some true
  nfGauge : PySem.W.notFirst K CGauge (.ref CGauge) = true
  nGauge_lag : PySem.W.findIn K (.ref CGauge) "lag" = some none
  nGauge_high : PySem.W.findIn K (.ref CGauge) "high" = some none
  nGauge_top : PySem.W.findIn K (.ref CGauge) "top" = some none
  nGauge_thin : PySem.W.findIn K (.ref CGauge) "thin" = some none
  nGauge_thick : PySem.W.findIn K (.ref CGauge) "thick" = some none
  aGauge___init__ : PySem.W.findIn K (.ref CGauge) "__init__" = some (some (.ref fGauge___init__))
  iGauge___init__ : PySem.W.isFn K (.ref fGauge___init__) = true
  kGauge___init__ : PySem.W.keepIn K (.ref fGauge___init__) = true
  aGauge_stand : PySem.W.findIn K (.ref CGauge) "stand" = some (some (.ref fGauge_stand))
  iGauge_stand : PySem.W.isFn K (.ref fGauge_stand) = true
  kGauge_stand : PySem.W.keepIn K (.ref fGauge_stand) = true
  aGauge_stands : PySem.W.findIn K (.ref CGauge) "stands" = some (some (.ref fGauge_stands))
  iGauge_stands : PySem.W.isFn K (.ref fGauge_stands) = true
  kGauge_stands : PySem.W.keepIn K (.ref fGauge_stands) = true
  aGauge_last_call : PySem.W.findIn K (.ref CGauge) "last_call" = some (some (.ref fGauge_last_call))
  iGauge_last_call : PySem.W.isFn K (.ref fGauge_last_call) = true
  kGauge_last_call : PySem.W.keepIn K (.ref fGauge_last_call) = true
  aGauge__changes : PySem.W.findIn K (.ref CGauge) "_changes" = some (some (.ref fGauge__changes))
  iGauge__changes : PySem.W.isFn K (.ref fGauge__changes) = true
  kGauge__changes : PySem.W.keepIn K (.ref fGauge__changes) = true
theorem kb_Gauge___init___6 {K : PySem.W.Frag} {mg : Str → Option Value} (T : Ev K mg) : ∃ its : List Value, KBn K T.fdGauge___init__ ["self", "lag", "high", "top", "thin", "thick"] 6 [] (fun us ws => pickL (us ++ its ++ ws) [0, 1, 2, 3, 4, 5]) (fun vs zs => pickL (vs ++ [.int 60, .int 200, .int 400, .int 5, .int 20] ++ zs) [0, 1, 2, 3, 4, 5]) :=
  kbD T.FGauge___init__ 6 [] [0, 1, 2, 3, 4, 5] (by intro z; cases z) fun _ _ _ _ _ _ _ us its ws h1 h2 h3 => match us, its, ws, h1, h2, h3 with | [_, _, _, _, _, _], [_, _, _, _, _], [], _, _, _ => ⟨_, rfl, rfl⟩
theorem kb_Gauge_stands_1_within_readings {K : PySem.W.Frag} {mg : Str → Option Value} (T : Ev K mg) : KBn K T.fdGauge_stands ["self", "readings", "within"] 1 ["within", "readings"] (fun us ws => pickL (us ++ ws) [0, 2, 1]) (fun vs zs => pickL (vs ++ zs) [0, 2, 1]) :=
  kbF T.FGauge_stands 1 ["within", "readings"] [0, 2, 1] fun _ _ _ _ _ _ us ws h1 h2 => match us, ws, h1, h2 with | [_], [_, _], _, _ => rfl
theorem kb_Stretch___init___3 {K : PySem.W.Frag} {mg : Str → Option Value} (T : Ev K mg) : ∃ its : List Value, KBn K T.fdStretch___init__ ["self", "first", "behind"] 3 [] (fun us ws => pickL (us ++ its ++ ws) [0, 1, 2]) (fun vs zs => pickL (vs ++ [.non] ++ zs) [0, 1, 2]) :=
  kbD T.FStretch___init__ 3 [] [0, 1, 2] (by intro z; cases z) fun _ _ _ _ _ _ _ us its ws h1 h2 h3 => match us, its, ws, h1, h2, h3 with | [_, _, _], [_], [], _, _, _ => ⟨_, rfl, rfl⟩
theorem kb_Gauge___init___1 {K : PySem.W.Frag} {mg : Str → Option Value} (T : Ev K mg) : ∃ its : List Value, KBn K T.fdGauge___init__ ["self", "lag", "high", "top", "thin", "thick"] 1 [] (fun us ws => pickL (us ++ its ++ ws) [0, 1, 2, 3, 4, 5]) (fun vs zs => pickL (vs ++ [.int 60, .int 200, .int 400, .int 5, .int 20] ++ zs) [0, 1, 2, 3, 4, 5]) :=
  kbD T.FGauge___init__ 1 [] [0, 1, 2, 3, 4, 5] (by intro z; cases z) fun _ _ _ _ _ _ _ us its ws h1 h2 h3 => match us, its, ws, h1, h2, h3 with | [_], [_, _, _, _, _], [], _, _, _ => ⟨_, rfl, rfl⟩
theorem cl_Stretch {K : PySem.W.Frag} {mg : Str → Option Value} (T : Ev K mg) : Cls K T.CStretch := ⟨T.pgStretch, T.hdStretch, T.poStretch, T.saStretch⟩
theorem mt_Stretch___init__ {K : PySem.W.Frag} {mg : Str → Option Value} (T : Ev K mg) : Meth K T.CStretch "__init__" T.fStretch___init__ := ⟨T.aStretch___init__, T.iStretch___init__, T.kStretch___init__⟩
theorem mk_Stretch {K : PySem.W.Frag} {mg : Str → Option Value} (T : Ev K mg) : Mk K T.CStretch T.fStretch___init__ := ⟨T.mkStretch, T.aStretch___init__, T.iStretch___init__, T.kcStretch⟩
theorem mt_Stretch___eq__ {K : PySem.W.Frag} {mg : Str → Option Value} (T : Ev K mg) : Meth K T.CStretch "__eq__" T.fStretch___eq__ := ⟨T.aStretch___eq__, T.iStretch___eq__, T.kStretch___eq__⟩
theorem mt_Stretch___len__ {K : PySem.W.Frag} {mg : Str → Option Value} (T : Ev K mg) : Meth K T.CStretch "__len__" T.fStretch___len__ := ⟨T.aStretch___len__, T.iStretch___len__, T.kStretch___len__⟩
theorem mt_Stretch___str__ {K : PySem.W.Frag} {mg : Str → Option Value} (T : Ev K mg) : Meth K T.CStretch "__str__" T.fStretch___str__ := ⟨T.aStretch___str__, T.iStretch___str__, T.kStretch___str__⟩
theorem mt_Stretch___repr__ {K : PySem.W.Frag} {mg : Str → Option Value} (T : Ev K mg) : Meth K T.CStretch "__repr__" T.fStretch___repr__ := ⟨T.aStretch___repr__, T.iStretch___repr__, T.kStretch___repr__⟩
theorem cl_Gauge {K : PySem.W.Frag} {mg : Str → Option Value} (T : Ev K mg) : Cls K T.CGauge := ⟨T.pgGauge, T.hdGauge, T.poGauge, T.saGauge⟩
theorem mt_Gauge___init__ {K : PySem.W.Frag} {mg : Str → Option Value} (T : Ev K mg) : Meth K T.CGauge "__init__" T.fGauge___init__ := ⟨T.aGauge___init__, T.iGauge___init__, T.kGauge___init__⟩
theorem mk_Gauge {K : PySem.W.Frag} {mg : Str → Option Value} (T : Ev K mg) : Mk K T.CGauge T.fGauge___init__ := ⟨T.mkGauge, T.aGauge___init__, T.iGauge___init__, T.kcGauge⟩
theorem mt_Gauge_stand {K : PySem.W.Frag} {mg : Str → Option Value} (T : Ev K mg) : Meth K T.CGauge "stand" T.fGauge_stand := ⟨T.aGauge_stand, T.iGauge_stand, T.kGauge_stand⟩
theorem mt_Gauge_stands {K : PySem.W.Frag} {mg : Str → Option Value} (T : Ev K mg) : Meth K T.CGauge "stands" T.fGauge_stands := ⟨T.aGauge_stands, T.iGauge_stands, T.kGauge_stands⟩
theorem mt_Gauge_last_call {K : PySem.W.Frag} {mg : Str → Option Value} (T : Ev K mg) : Meth K T.CGauge "last_call" T.fGauge_last_call := ⟨T.aGauge_last_call, T.iGauge_last_call, T.kGauge_last_call⟩
theorem mt_Gauge__changes {K : PySem.W.Frag} {mg : Str → Option Value} (T : Ev K mg) : Meth K T.CGauge "_changes" T.fGauge__changes := ⟨T.aGauge__changes, T.iGauge__changes, T.kGauge__changes⟩
/-! ### the tape, by what is known of the names -/
section
variable {P : Program} {w : World} {K : PySem.W.Frag} {mg : Str → Option Value} {base : Heap} (T : Ev K mg)
theorem ok_law_draw : FnOk P w K mg base CX0 1 T.f_law_draw T.fd_law_draw ["_law_feed_here", "_law_many"] spDraw := ok_draw T.F_law_draw ⟨T.mlen⟩
theorem ok_law_of : FnOk P w K mg base CX0 2 T.f_law_of T.fd_law_of ["_law_feed_here", "_law_some"] spPick := ok_of T.F_law_of ⟨T.mlen⟩ T.F_law_draw T.g_law_draw T.b_law_draw
theorem ok_law_feed : FnOk P w K mg base CX0 1 T.f_law_feed T.fd_law_feed ["_law_script"] (spTape K) := ok_feed T.F_law_feed ⟨T.mlist⟩
end
theorem dr {H : Hp} {F c : Addr} (b : Int) {n : Nat} {Q : VK} {E : XK} (hT : Tape H F c n) (b0 : 0 < b) (b1 : b < 1073741824) (hn : n < 1000000)
    (q : ∀ d H', 0 ≤ d → d < b → Tape H' F c (n + 1) → Keep F H H' → Q (.int d) H') : spDraw [.ref F, .int b] H Q E := ⟨F, c, b, n, rfl, b0, b1, hn, hT, q⟩
theorem pk {H : Hp} {F c p : Addr} {xs : List V} {n : Nat} {Q : VK} {E : XK} (hT : Tape H F c n) (hp : H p = some (.lst xs)) (ne : p ≠ F) (l0 : 0 < xs.length) (l1 : xs.length < 1000000) (hn : n < 1000000)
    (q : ∀ x H', x ∈ xs → Tape H' F c (n + 1) → Keep F H H' → Q x H') : spPick [.ref F, .ref p] H Q E := ⟨F, c, p, xs, n, rfl, hp, ne, l0, l1, hn, hT, fun _ x H' e => q x H' (List.mem_of_getElem? e)⟩
/-- of a list that is written there -/
theorem pkn {H : Hp} {F c : Addr} {xs : List V} {n : Nat} {Q : VK} {E : XK} (hT : Tape H F c n) (l0 : 0 < xs.length) (l1 : xs.length < 1000000) (hn : n < 1000000)
    (q : ∀ x H', x ∈ xs → Tape H' F c (n + 1) → Keep F H H' → Q x H') : ∀ p, H p = none → spPick [.ref F, .ref p] (upd H p (.lst xs)) Q E := fun p hp =>
  pk (hT.new hp) upd_same (hT.ne hp) l0 l1 hn fun x H' m t k => q x H' m t ((Keep.refl.new hp).trans k)
theorem Tape.tape {H : Hp} {F c : Addr} {n : Nat} (h : Tape H F c n) : ∃ ys, H F = some (.lst ys) := by
  obtain ⟨t, r, ns, h1, _⟩ := h.ex
  exact ⟨_, h1⟩
/-- a place that was free ahead of all that is kept -/
theorem Keep.free {F : Addr} {H H' : Hp} {p : Addr} (k : Keep F H H') (hp : H' p = none) (ne : p ≠ F) : H p = none := by
  cases e : H p with
  | none => rfl
  | some o => have := k p o ne e; rw [hp] at this; cases this
set_option maxHeartbeats 8000000
local macro_rules | `(tactic| walk_at "c") => `(tactic| first | omega | decide | exact ⟨by omega, by omega⟩ | exact ⟨by decide, by decide⟩ | exact .inl ⟨by omega, by omega⟩ | exact .inr ⟨by omega, by omega⟩ | exact ⟨by omega, by omega, by omega⟩ | exact ⟨by decide, by decide, by decide⟩ | exact le_line (Nat.le_of_ble_eq_true rfl))
local macro_rules | `(tactic| walk_at "a") => `(tactic| with_reducible (first | refine i_seq ?_ | refine i_asg ?_ | refine i_cons ?_ | refine i_c ?_ | refine i_nil ?_ | refine i_op ?_ | refine i_call ?_ | refine i_cb ?_ | refine i_name ?_ | refine i_next ?_ | refine i_ret ?_ | refine i_drop ?_ | refine i_if ?_ | refine i_test ?_ | refine i_and ?_ | refine i_or ?_ | refine i_not ?_ | refine i_ite ?_ | refine i_lst ?_ | refine i_tup ?_ | refine i_bm ?_ | refine i_un ?_ | refine i_par ?_ | refine i_gsub ?_ | refine i_chain ?_ | refine i_sl ?_ | refine i_nopart ?_ | refine i_part ?_ | refine i_m1 ?_ | refine i_m0 ?_ | refine i_lc ?_ | refine i_iList ?_ | refine i_iTup ?_ | refine i_iStr ?_ | refine i_r1 ?_ | refine i_set ?_ | refine i_callk ?_ | refine i_callN ?_ | refine i_ckw ?_ | refine i_revL ?_ | refine i_tB ?_ | refine i_fld ?_ | refine i_sfld ?_ | refine i_make ?_ | refine i_makeN ?_ | refine i_meth ?_ | refine i_andV ?_ | refine i_orV ?_ | refine i_notV ?_ | refine iteT ?_ | refine iteF ?_ | refine i_yes ?_))
local macro_rules | `(tactic| walk_at "s") => `(tactic| repeat (first | walk_at "a" | refine i_var rfl ?_ | refine i_aug rfl ?_ | refine And.intro ⟨_, rfl⟩ ?_ | refine ⟨_, rfl, ?_⟩ | refine ⟨_, _, rfl, rfl, ?_⟩ | refine ⟨_, _, rfl, ?_⟩ | refine ⟨rfl, ?_⟩ | refine And.intro (by walk_at "c") ?_))
/-! ### a Stretch -/
theorem fb : ¬ (("first" : Str) = "behind") := by decide +kernel
def strF (a b : Int) : List (Str × V) := putF "behind" (.int b) (putF "first" (.int a) [])
theorem strF_first (a b : Int) : (strF a b).lookup ("first" : Str) = some (.int a) := by
  unfold strF
  rw [lookup_putF, if_neg fb, lookup_putF, if_pos rfl]
theorem strF_behind (a b : Int) : (strF a b).lookup ("behind" : Str) = some (.int b) := by
  unfold strF
  rw [lookup_putF, if_pos rfl]
/-- a Stretch of these minutes stands at p -/
def StrAt (C : Addr) (H : Hp) (p : Addr) (a b : Int) : Prop := ∃ dx, H p = some (.ins C dx (strF a b))
theorem StrAt.same {C : Addr} {H H' : Hp} {p : Addr} {a b : Int} (h : StrAt C H p a b) (s : Same H H') : StrAt C H' p a b := by
  obtain ⟨dx, e⟩ := h; exact ⟨dx, s _ _ e⟩
theorem StrAt.sm {TT : List (Addr × Str)} {C : Addr} {H H' : Hp} {p : Addr} {a b : Int} (h : StrAt C H p a b) (s : Sm TT H H') : StrAt C H' p a b := by
  obtain ⟨dx, e⟩ := h; exact ⟨dx, s.at e⟩
theorem StrAt.keep {C T : Addr} {ys : List V} {H H' : Hp} {p : Addr} {a b : Int} (h : StrAt C H p a b) (hT : H T = some (.lst ys)) (s : Keep T H H') : StrAt C H' p a b := by
  obtain ⟨dx, e⟩ := h; exact ⟨dx, s _ _ (ne_of e hT (by intro z; cases z)) e⟩
/-- Stretch objects, one by one -/
def StrsAt (C : Addr) (H : Hp) (xs : List V) (ps : List (Int × Int)) : Prop := Paired (fun x q => ∃ p, x = V.ref p ∧ StrAt C H p q.1 q.2) xs ps
theorem StrsAt.mono {C : Addr} {H H' : Hp} (f : ∀ p a b, StrAt C H p a b → StrAt C H' p a b) {xs : List V} {ps : List (Int × Int)} (h : StrsAt C H xs ps) : StrsAt C H' xs ps := by
  unfold StrsAt at h ⊢
  induction h with
  | nil => exact .nil
  | cons a _ ih =>
    obtain ⟨p, e, h⟩ := a
    exact .cons ⟨p, e, f _ _ _ h⟩ ih
theorem StrsAt.same {C : Addr} {H H' : Hp} {xs : List V} {ps : List (Int × Int)} (h : StrsAt C H xs ps) (s : Same H H') : StrsAt C H' xs ps := h.mono fun _ _ _ z => z.same s
theorem StrsAt.sm {TT : List (Addr × Str)} {C : Addr} {H H' : Hp} {xs : List V} {ps : List (Int × Int)} (h : StrsAt C H xs ps) (s : Sm TT H H') : StrsAt C H' xs ps := h.mono fun _ _ _ z => z.sm s
/-- a list is none of them -/
theorem StrsAt.upd {C : Addr} {H : Hp} {f : Addr} {ys : List V} {o : HO} {xs : List V} {ps : List (Int × Int)} (h : StrsAt C H xs ps) (hf : H f = some (.lst ys)) : StrsAt C (upd H f o) xs ps := h.mono fun _ _ _ ⟨dx, e⟩ => ⟨dx, by rw [upd_ne (ne_of e hf (by intro z; cases z))]; exact e⟩
theorem StrsAt.len {C : Addr} {H : Hp} {xs : List V} {ps : List (Int × Int)} (h : StrsAt C H xs ps) : xs.length = ps.length := Paired.length h
theorem paired_at {α β : Type} {R : α → β → Prop} : ∀ {l : List α} {m : List β} {i : Nat} {x : α}, Paired R l m → l[i]? = some x → ∃ y, m[i]? = some y ∧ R x y
  | _, _, _, _, .nil, e => by cases e
  | _, _, 0, _, .cons a _, e => by cases e; exact ⟨_, rfl, a⟩
  | _, _, i + 1, _, .cons _ r, e => paired_at (i := i) r e
theorem paired_app {α β : Type} {R : α → β → Prop} : ∀ {l l' : List α} {m m' : List β}, Paired R l m → Paired R l' m' → Paired R (l ++ l') (m ++ m')
  | _, _, _, _, .nil, h => h
  | _, _, _, _, .cons a r, h => .cons a (paired_app r h)
theorem paired_rev {α β : Type} {R : α → β → Prop} : ∀ {l : List α} {m : List β}, Paired R l m → Paired R l.reverse m.reverse
  | _, _, .nil => .nil
  | _, _, .cons a r => by
    rw [List.reverse_cons, List.reverse_cons]
    exact paired_app (paired_rev r) (.cons a .nil)
theorem StrsAt.at {C : Addr} {H : Hp} {xs : List V} {ps : List (Int × Int)} (h : StrsAt C H xs ps) {i : Nat} {x : V} (e : xs[i]? = some x) : ∃ p a b, x = .ref p ∧ ps[i]? = some (a, b) ∧ StrAt C H p a b := by
  obtain ⟨⟨a, b⟩, h1, p, rfl, h2⟩ := paired_at h e
  exact ⟨p, a, b, rfl, h1, h2⟩
theorem StrsAt.snoc {C : Addr} {H : Hp} {xs : List V} {ps : List (Int × Int)} {p : Addr} {a b : Int} (h : StrsAt C H xs ps) (hp : StrAt C H p a b) : StrsAt C H (xs ++ [.ref p]) (ps ++ [(a, b)]) := paired_app h (.cons ⟨p, rfl, hp⟩ .nil)
def spSInit (C : Addr) : Sp := fun vs H Q _ => ∃ (p dx : Addr) (a b : Int) (y : V), vs = [.ref p, .int a, y] ∧ (y = .int b ∨ y = .non ∧ b = a + 1) ∧ a ≤ b ∧ H p = some (.ins C dx []) ∧ ∀ H', StrAt C H' p a b → (∀ x o, x ≠ p → H x = some o → H' x = some o) → Q .non H'
theorem mkStr {C : Addr} {H : Hp} {a b : Int} {y : V} {Q : VK} {E : XK} {gV : List V → List V → List V} {vs zs : List V} (hy : y = .int b ∨ y = .non ∧ b = a + 1) (hab : a ≤ b) (q : ∀ x H', H x = none → StrAt C H' x a b → Same H H' → Q (.ref x) H')
    (hv : ∀ x, gV (.ref x :: vs) zs = [.ref x, .int a, y] := by intro _; rfl) : rMkN C (spSInit C) gV E vs zs H Q := fun x dx hx hd ne =>
  ⟨x, dx, a, b, y, hv x, hy, hab, upd_same, fun H' e k => ⟨rfl, q x H' hx e (made_same hx hd k)⟩⟩
def spSEq (K : PySem.W.Frag) (C : Addr) : Sp := fun vs H Q _ => ∃ (p : Addr) (y : V) (a b : Int), vs = [.ref p, y] ∧ StrAt C H p a b ∧
  ((∃ q c d, y = .ref q ∧ StrAt C H q c d ∧ Q (.bl (decide (a = c) && decide (b = d))) H) ∨ (∃ t, TyX K H y t ∧ PySem.W.kitOne K t (.ref C) = some false ∧ Q (.bl false) H))
def spSLen (C : Addr) : Sp := fun vs H Q _ => ∃ (p : Addr) (a b : Int), vs = [.ref p] ∧ StrAt C H p a b ∧ a ≤ b ∧ b - a < 2 ^ 62 ∧ Q (.int (b - a)) H
theorem kitC {K : PySem.W.Frag} {C : Addr} : PySem.W.kitOne K (.ref C) (.ref C) = some true := if_pos (beq_self_eq_true _)
section
variable {P : Program} {w : World} {K : PySem.W.Frag} {mg : Str → Option Value} {base : Heap} (T : Ev K mg)
theorem i_first {H : Hp} {p : Addr} {a b : Int} {Q : VK} (h : StrAt T.CStretch H p a b) (q : Q (.int a) H) : rFld K "first" (.ref p) H Q := by
  obtain ⟨dx, e⟩ := h
  exact ⟨p, _, dx, _, _, rfl, e, cl_Stretch T, T.nStretch_first, strF_first _ _, q⟩
theorem i_behind {H : Hp} {p : Addr} {a b : Int} {Q : VK} (h : StrAt T.CStretch H p a b) (q : Q (.int b) H) : rFld K "behind" (.ref p) H Q := by
  obtain ⟨dx, e⟩ := h
  exact ⟨p, _, dx, _, _, rfl, e, cl_Stretch T, T.nStretch_behind, strF_behind _ _, q⟩
theorem isStr {H : Hp} {p : Addr} {a b : Int} (h : StrAt T.CStretch H p a b) : TyX K H (.ref p) (.ref T.CStretch) := by
  obtain ⟨dx, e⟩ := h
  exact .base (.ins e (cl_Stretch T) T.haStretch T.hnStretch T.htStretch T.hmStretch)
theorem okStretch___init__ : FnOk P w K mg base CX0 1 T.fStretch___init__ T.fdStretch___init__ ["self", "first", "behind"] (spSInit T.CStretch) := by
  refine T.FStretch___init__.okN scSInit (fun vs H Q E h => ?_) (fun cdv A outer s H vs Q E hr h => ?_)
  · obtain ⟨p, dx, a, b, y, rfl, _⟩ := h
    rfl
  · obtain ⟨p, dx, a, b, y, rfl, hy, hab, hp, q⟩ := h
    refine ⟨_,
      (pss_cut (ps_if (pt_cmpR op_isN (pv 2) pe_non (nomark _))
      (pss_one (ps_set (i := 2) scSInit.nd rfl (.inl rfl) (pe_op op_add (pv 1) pe_int)))
      pss_nil)
      (pss_cons (ps_if (pt_cmpR op_lt (pv 2) (pv 1) (nomark _))
      (pss_one ps_never)
      pss_nil)
      (pss_cons (ps_fld (pv 0) (pv 1) rfl)
      (pss_one (ps_fld (pv 0) (pv 2) rfl)))))
      , ?_⟩
    refine ⟨fun σ H2 => σ = [some (.ref p), some (.int a), some (.int b)] ∧ H2 = H, ?_, ?_⟩
    · rcases hy with rfl | ⟨rfl, rfl⟩
      · refine ⟨_, rfl, rfl, _, rfl, ite2 (fun d => absurd (of_decide_eq_true d) (by intro z; cases z)) (fun _ => ⟨rfl, rfl⟩)⟩
      · refine ⟨_, rfl, rfl, _, rfl, ite2 (fun _ => ?_) (fun d => absurd (decide_eq_true rfl) d)⟩
        exact ⟨_, rfl, _, _, rfl, rfl, rfl, rfl⟩
    rintro σ H2 ⟨rfl, rfl⟩
    refine ⟨_, rfl, _, rfl, _, _, rfl, rfl, _, rfl, ite2 (fun d => absurd (of_decide_eq_true d) (by omega)) (fun _ => ?_)⟩
    refine ⟨_, rfl, _, rfl, p, T.CStretch, dx, _, rfl, hp, cl_Stretch T, T.nStretch_first, (by show 0 < 1000; decide), ?_⟩
    refine ⟨_, rfl, _, rfl, p, T.CStretch, dx, _, rfl, upd_same, cl_Stretch T, T.nStretch_behind, (by show 1 < 1000; decide), ?_⟩
    exact q _ ⟨dx, upd_same⟩ fun x o n e => by rw [upd_ne n, upd_ne n]; exact e
theorem okStretch___len__ : FnOk P w K mg base CX0 1 T.fStretch___len__ T.fdStretch___len__ ["self"] (spSLen T.CStretch) := by
  refine T.FStretch___len__.ok scSLen (fun vs H Q E h => ?_) (fun cdv A outer s H vs Q E hr h => ?_)
  · obtain ⟨p, a, b, rfl, _⟩ := h
    rfl
  · obtain ⟨p, a, b, rfl, hp, h1, h2, q⟩ := h
    refine ⟨_, pss_one (ps_ret (pe_lenRg (by rfl) T.mlen (prg_2 (by rfl) T.mrange (pe_fld (pv 0) rfl) (pe_fld (pv 0) rfl)))), ?_⟩
    obtain ⟨dx, ep⟩ := id hp
    refine ⟨_, rfl, p, T.CStretch, dx, _, _, rfl, ep, cl_Stretch T, T.nStretch_first, strF_first a b, _, rfl, p, T.CStretch, dx, _, _, rfl, ep, cl_Stretch T, T.nStretch_behind, strF_behind a b, a, b, rfl, rfl, by omega, ?_⟩
    rw [show ((((b - a).toNat : Nat)) : Int) = b - a by omega]
    exact q
theorem okStretch___eq__ : FnOk P w K mg base CX0 1 T.fStretch___eq__ T.fdStretch___eq__ ["self", "other"] (spSEq K T.CStretch) := by
  refine T.FStretch___eq__.ok scSEq (fun vs H Q E h => ?_) (fun cdv A outer s H vs Q E hr h => ?_)
  · obtain ⟨p, y, a, b, rfl, _⟩ := h
    rfl
  · obtain ⟨p, y, a, b, rfl, hp, hy⟩ := h
    refine ⟨_,
      (pss_one (ps_ret (pe_and (pe_callB call_isi (by rfl) T.misinstance (by decide +kernel) (pa_cons (pv 1) (pa_cons (pe_glob (v := .ref T.CStretch) (by rfl) T.gCStretch rfl) pa_nil))) (pe_and (pe_cmpR op_eq (pe_fld (pv 0) rfl) (pe_fld (pv 1) rfl) (nomark _)) (pe_one (pe_cmpR op_eq (pe_fld (pv 0) rfl) (pe_fld (pv 1) rfl) (nomark _)))))))
      , ?_⟩
    obtain ⟨dx, ep⟩ := id hp
    rcases hy with ⟨r, c, d, rfl, hr', q⟩ | ⟨t, ty, hk, q⟩
    · obtain ⟨dy, er⟩ := id hr'
      refine ⟨_, rfl, _, _, _, _, true, rfl, .own T.CStretch, isStr T hr', kitC, true, rfl, ?_⟩
      refine ⟨_, rfl, p, T.CStretch, dx, _, _, rfl, ep, cl_Stretch T, T.nStretch_first, strF_first a b, _, rfl, r, T.CStretch, dy, _, _, rfl, er, cl_Stretch T, T.nStretch_first, strF_first c d, rfl, _, rfl, ?_⟩
      refine ite2 (fun c1 => ?_) (fun c1 => ?_)
      · have e1 : a = c := V.int.inj (of_decide_eq_true c1)
        refine ⟨_, rfl, p, T.CStretch, dx, _, _, rfl, ep, cl_Stretch T, T.nStretch_behind, strF_behind a b, _, rfl, r, T.CStretch, dy, _, _, rfl, er, cl_Stretch T, T.nStretch_behind, strF_behind c d, rfl, ?_⟩
        have z : (decide (a = c) && decide (b = d)) = decide (V.int b = V.int d) := by
          rw [decide_eq_true e1, Bool.true_and]
          exact decide_eq_decide.mpr ⟨fun e => congrArg V.int e, fun e => V.int.inj e⟩
        rw [z] at q
        exact q
      · have e1 : ¬ a = c := fun e => c1 (decide_eq_true (congrArg V.int e))
        rw [decide_eq_false e1, Bool.false_and] at q
        exact q
    · exact ⟨_, rfl, _, _, _, _, false, rfl, .own T.CStretch, ty, hk, false, rfl, q⟩
end
section
variable {K : PySem.W.Frag} {mg : Str → Option Value} {base : Heap} (T : Ev K mg)
theorem neStr {H : Hp} {p q : Addr} {a b : Int} {Q : VK} (h1 : StrAt T.CStretch H p a b) (h2 : StrAt T.CStretch H q a b) (q0 : Q (.bl false) H) : rOwnY K T.CStretch (spSEq K T.CStretch) E0 QNot (.ref p) (.ref q) H Q := by
  obtain ⟨dx, e⟩ := id h1
  exact ⟨p, dx, _, _, rfl, e, isStr T h2, T.nfStretch, p, _, a, b, rfl, h1, .inl ⟨q, a, b, rfl, h2, _, rfl, by rw [decide_eq_true rfl, decide_eq_true rfl]; exact q0⟩⟩
end
/-! ### == of lists of them -/
section
variable {C : Addr} {K : PySem.W.Frag}
def RStr (C : Addr) : Addr → Addr → Bool → Hp → Prop := fun p q r H => ∃ a b c d, StrAt C H p a b ∧ StrAt C H q c d ∧ r = (decide (a = c) && decide (b = d))
theorem monStretch : MonB (DInsB C (RStr C)) := monB_ins fun p q r H H' e ⟨a, b, c, d, h1, h2, h3⟩ => ⟨a, b, c, d, h1.same e, h2.same e, h3⟩
theorem selfStretch (p : Addr) (r : Bool) (H : Hp) (h : RStr C p p r H) : r = true := by
  obtain ⟨a, b, c, d, ⟨dx, h1⟩, ⟨dy, h2⟩, h3⟩ := h
  rw [h1] at h2
  have e : strF a b = strF c d := by injection h2 with h2; injection h2
  have e1 := strF_first a b
  have e2 := strF_behind a b
  rw [e, strF_first] at e1
  rw [e, strF_behind] at e2
  cases e1
  cases e2
  rw [h3, decide_eq_true rfl, decide_eq_true rfl]; rfl
theorem hspStretch (p q : Addr) (r : Bool) (H : Hp) (Q : VK) (h : RStr C p q r H) (hq : ∀ H', Ext H H' → Q (.bl r) H') : spSEq K C [.ref p, .ref q] H Q E0 := by
  obtain ⟨a, b, c, d, h1, h2, h3⟩ := h
  exact ⟨p, _, a, b, rfl, h1, .inl ⟨q, c, d, rfl, h2, by rw [← h3]; exact hq H Ext.rfl'⟩⟩
/-- lists of them: alike just where their minutes are -/
theorem strs_eq {H : Hp} {p q : Addr} {xs ys : List V} {ps qs : List (Int × Int)} (hp : H p = some (.lst xs)) (hq : H q = some (.lst ys)) (h1 : StrsAt C H xs ps) (h2 : StrsAt C H ys qs) (e : ps = qs) : DListB (DInsB C (RStr C)) (.ref p) (.ref q) true H := by
  subst e
  have l1 := h1.len
  have l2 := h2.len
  refine ⟨p, q, xs, ys, rfl, rfl, hp, hq, .inr ⟨by omega, xs.length, Nat.le_refl _, (decide_eq_true rfl).symm, fun i x y hx hy hi => ?_⟩⟩
  have hlt : i < xs.length := (List.getElem?_eq_some_iff.mp hx).1
  obtain ⟨o, a, b, rfl, e1, o1⟩ := h1.at hx
  obtain ⟨o', c, d, rfl, e2, o2⟩ := h2.at hy
  rw [e1] at e2
  cases e2
  obtain ⟨dx, z1⟩ := id o1
  obtain ⟨dy, z2⟩ := id o2
  rw [decide_eq_true hlt]
  exact ⟨o, o', dx, dy, _, _, rfl, rfl, z1, z2, a, b, a, b, o1, o2, by rw [decide_eq_true rfl, decide_eq_true rfl]; rfl⟩
end
/-! ### stands side by side: how pieces are put together -/
structure Pc where
  a : Int
  b : Int
  w : Str
/-- one more piece behind those so far, the last of them first -/
def pcStep (st : Int → Str) (acc : List Pc) (p : Int × Int) : List Pc :=
  if p.1 < p.2 then
    match acc with
    | [] => [⟨p.1, p.2, st p.1⟩]
    | c :: r => if c.w = st p.1 then ⟨c.a, p.2, c.w⟩ :: r else ⟨p.1, p.2, st p.1⟩ :: c :: r
  else acc
def pcFold (st : Int → Str) (ps : List (Int × Int)) : List Pc := ps.foldl (pcStep st) []
theorem pcFold_snoc (st : Int → Str) (ps : List (Int × Int)) (p : Int × Int) : pcFold st (ps ++ [p]) = pcStep st (pcFold st ps) p := by
  unfold pcFold
  rw [List.foldl_append]; rfl
theorem pcStep_len (st : Int → Str) (acc : List Pc) (p : Int × Int) : (pcStep st acc p).length ≤ acc.length + 1 := by
  unfold pcStep
  split
  · split
    · show 1 ≤ _; omega
    · split
      · show _ + 1 ≤ (_ + 1) + 1; omega
      · show _ + 1 + 1 ≤ (_ + 1) + 1; omega
  · omega
theorem pcFold_len' (st : Int → Str) : ∀ (ps : List (Int × Int)) (acc : List Pc), (ps.foldl (pcStep st) acc).length ≤ acc.length + ps.length
  | [], acc => Nat.le_refl _
  | p :: ps, acc => by
    have h1 := pcFold_len' st ps (pcStep st acc p)
    have h2 := pcStep_len st acc p
    show (ps.foldl (pcStep st) (pcStep st acc p)).length ≤ acc.length + (ps.length + 1)
    omega
theorem pcFold_len (st : Int → Str) (ps : List (Int × Int)) : (pcFold st ps).length ≤ ps.length := by
  have := pcFold_len' st ps []
  unfold pcFold
  simp only [List.length_nil] at this
  omega
theorem pcFold_from' (st : Int → Str) : ∀ (ps : List (Int × Int)) (acc : List Pc), ∀ c ∈ ps.foldl (pcStep st) acc, (∃ d ∈ acc, c.a = d.a) ∨ ∃ p ∈ ps, c.a = p.1
  | [], acc, c, h => .inl ⟨c, h, rfl⟩
  | p :: ps, acc, c, h => by
    rcases pcFold_from' st ps (pcStep st acc p) c h with ⟨d, hd, e⟩ | ⟨q, hq, e⟩
    · unfold pcStep at hd
      split at hd
      · split at hd
        · simp only [List.mem_cons, List.not_mem_nil, or_false] at hd
          exact .inr ⟨p, List.mem_cons_self, by rw [e, hd]⟩
        · next c0 r =>
          split at hd
          · rcases List.mem_cons.mp hd with hd | hd
            · exact .inl ⟨c0, List.mem_cons_self, by rw [e, hd]⟩
            · exact .inl ⟨d, List.mem_cons_of_mem _ hd, e⟩
          · rcases List.mem_cons.mp hd with hd | hd
            · exact .inr ⟨p, List.mem_cons_self, by rw [e, hd]⟩
            · exact .inl ⟨d, hd, e⟩
      · exact .inl ⟨d, hd, e⟩
    · exact .inr ⟨q, List.mem_cons_of_mem _ hq, e⟩
theorem pcFold_from (st : Int → Str) (ps : List (Int × Int)) : ∀ c ∈ pcFold st ps, ∃ p ∈ ps, c.a = p.1 := fun c h => by
  rcases pcFold_from' st ps [] c h with ⟨d, hd, _⟩ | h
  · cases hd
  · exact h
theorem sorted_take {cs : List Int} (h : cs.Pairwise (· ≤ ·)) {i : Nat} {z : Int} (hi : i < cs.length) (hz : z ∈ cs.take i) : z ≤ cs[i] := by
  obtain ⟨j, hj, rfl⟩ := List.mem_iff_getElem.mp hz
  rw [List.length_take] at hj
  rw [List.getElem_take]
  exact List.pairwise_iff_getElem.mp h j i (by omega) hi (by omega)
theorem zip_take_fst {α β : Type} : ∀ {l : List α} {m : List β} {i : Nat} {p : α × β}, p ∈ (l.zip m).take i → p.1 ∈ l.take i
  | [], _, _, _, h => by simp at h
  | _ :: _, [], _, _, h => by simp at h
  | _ :: _, _ :: _, 0, _, h => by simp at h
  | a :: l, b :: m, i + 1, p, h => by
    rw [List.zip_cons_cons, List.take_succ_cons] at h
    rw [List.take_succ_cons]
    rcases List.mem_cons.mp h with rfl | h
    · exact List.mem_cons_self
    · exact List.mem_cons_of_mem _ (zip_take_fst h)
/-- each minute with the next one, the last with the end -/
def nexts (cs : List Int) (b : Int) : List (Int × Int) := cs.zip (cs.drop 1 ++ [b])
theorem nexts_len (cs : List Int) (b : Int) (h : 0 < cs.length) : (nexts cs b).length = cs.length := by
  unfold nexts
  rw [List.length_zip, List.length_append, List.length_drop]
  show min _ (_ - 1 + 1) = _
  omega
/-- of the cuts, put together -/
def standsP (st : Int → Str) (cs : List Int) (b : Int) : List Pc := (pcFold st (nexts cs b)).reverse
def PcAt (C : Addr) (H : Hp) (v : V) (p : Pc) : Prop := ∃ t z, v = .ref t ∧ H t = some (.tup [.ref z, .str p.w]) ∧ StrAt C H z p.a p.b
theorem PcAt.mono {C : Addr} {H H' : Hp} {v : V} {p : Pc} (h : PcAt C H v p) (f : ∀ b o, (∀ ys, o ≠ HO.lst ys) → H b = some o → H' b = some o) : PcAt C H' v p := by
  obtain ⟨t, z, rfl, e1, dx, e2⟩ := h
  exact ⟨t, z, rfl, f _ _ (by intro ys y; cases y) e1, dx, f _ _ (by intro ys y; cases y) e2⟩
theorem PcAt.same {C : Addr} {H H' : Hp} {v : V} {p : Pc} (h : PcAt C H v p) (s : Same H H') : PcAt C H' v p := h.mono fun b o _ e => s b o e
theorem PcAt.upd {C : Addr} {H : Hp} {v : V} {p : Pc} {f : Addr} {ys : List V} {o : HO} (h : PcAt C H v p) (hf : H f = some (.lst ys)) : PcAt C (upd H f o) v p := h.mono fun b u n e => by rw [upd_ne (ne_of e hf (n ys))]; exact e
/-- a loop over zip of two lists, as far as the shorter one goes -/
theorem for_zipU {K : PySem.W.Frag} {a b : Addr} {xs ys : List V} {n : Nat} {g : TG} {tb : TS} {D : Ends} {σ : L2.St} {H : Hp} (h1 : n ≤ xs.length) (h2 : n ≤ ys.length) (h3 : xs.length = n ∨ ys.length = n) (Pv : Nat → L2.St → Hp → Prop) (h0 : Pv 0 σ H) (hq : ∀ i σ H, Pv i σ H → SqL K H a xs ∧ SqL K H b ys)
    (hs : ∀ (i : Nat) (x y : V) (T : Addr) (σ : L2.St) (H : Hp), i < n → xs[i]? = some x → ys[i]? = some y → Pv i σ H → H T = none → g (.ref T) σ (upd H T (.tup [x, y])) fun σ2 H2 => tb { D with nx := Pv (i + 1), ct := Pv (i + 1), bk := D.nx } σ2 H2) (hd : ∀ σ H, Pv n σ H → D.nx σ H) :
    ∃ W : Nat → Nat → L2.St → Hp → Prop, (∃ m, W 0 m σ H) ∧ ∀ i m σ H, W i m σ H →
      ((Itz K a b).stop i H ∧ D.nx σ H) ∨ ((Itz K a b).go i H ∧ ∃ N : L2.St → Hp → Prop, (∀ σ' H', N σ' H' → ∃ m', m' < m ∧ W (i + 1) m' σ' H') ∧ ∀ v H', (Itz K a b).yld i H v H' → g v σ H' fun σ2 H2 => tb { D with nx := N, ct := N, bk := D.nx } σ2 H2) := by
  refine ⟨fun i m σ H => i + m = n ∧ Pv i σ H, ⟨n, by omega, h0⟩, fun i m σ H ⟨e, p⟩ => ?_⟩
  have q := hq i σ H p
  cases m with
  | zero =>
    have : i = n := by omega
    subst this
    refine .inl ⟨⟨xs, ys, q.1, q.2, ?_⟩, hd σ H p⟩
    rcases h3 with z | z
    · exact .inl (by omega)
    · exact .inr (by omega)
  | succ m =>
    have l1 : i < xs.length := by omega
    have l2 : i < ys.length := by omega
    refine .inr ⟨⟨xs, ys, _, _, q.1, q.2, List.getElem?_eq_getElem l1, List.getElem?_eq_getElem l2⟩, Pv (i + 1), fun σ' H' p' => ⟨m, by omega, by omega, p'⟩, fun v H' y => ?_⟩
    obtain ⟨T, x', y', rfl, hT, rfl, f1, f2⟩ := y
    exact hs i x' y' T σ H (by omega) (f1 xs q.1) (f2 ys q.2) p hT
set_option maxHeartbeats 8000000
local macro_rules | `(tactic| walk_at "c") => `(tactic| first | omega | decide | exact ⟨by omega, by omega⟩ | exact ⟨by decide, by decide⟩ | exact .inl ⟨by omega, by omega⟩ | exact .inr ⟨by omega, by omega⟩ | exact ⟨by omega, by omega, by omega⟩ | exact ⟨by decide, by decide, by decide⟩ | exact le_line (Nat.le_of_ble_eq_true rfl))
local macro_rules | `(tactic| walk_at "a") => `(tactic| with_reducible (first | refine i_seq ?_ | refine i_asg ?_ | refine i_cons ?_ | refine i_c ?_ | refine i_nil ?_ | refine i_op ?_ | refine i_call ?_ | refine i_cb ?_ | refine i_name ?_ | refine i_next ?_ | refine i_ret ?_ | refine i_drop ?_ | refine i_if ?_ | refine i_test ?_ | refine i_and ?_ | refine i_or ?_ | refine i_not ?_ | refine i_ite ?_ | refine i_lst ?_ | refine i_tup ?_ | refine i_bm ?_ | refine i_un ?_ | refine i_par ?_ | refine i_gsub ?_ | refine i_chain ?_ | refine i_sl ?_ | refine i_nopart ?_ | refine i_part ?_ | refine i_m1 ?_ | refine i_m0 ?_ | refine i_lc ?_ | refine i_iList ?_ | refine i_iTup ?_ | refine i_iStr ?_ | refine i_r1 ?_ | refine i_set ?_ | refine i_callk ?_ | refine i_callN ?_ | refine i_ckw ?_ | refine i_revL ?_ | refine i_tB ?_ | refine i_fld ?_ | refine i_sfld ?_ | refine i_make ?_ | refine i_makeN ?_ | refine i_meth ?_ | refine i_andV ?_ | refine i_orV ?_ | refine i_notV ?_ | refine iteT ?_ | refine iteF ?_ | refine i_yes ?_))
local macro_rules | `(tactic| walk_at "s") => `(tactic| repeat (first | walk_at "a" | refine i_var rfl ?_ | refine i_aug rfl ?_ | refine And.intro ⟨_, rfl⟩ ?_ | refine ⟨_, rfl, ?_⟩ | refine ⟨_, _, rfl, rfl, ?_⟩ | refine ⟨_, _, rfl, ?_⟩ | refine ⟨rfl, ?_⟩ | refine And.intro (by walk_at "c") ?_))
theorem i_starW {K : PySem.W.Frag} {te : TE} {t : TA} {σ : L2.St} {H : Hp} {Q : List V → Hp → Prop} (h : te σ H fun x H1 => ∃ p xs, x = V.ref p ∧ (SqT K H1 p xs ∨ SqL K H1 p xs) ∧ t σ H1 fun ys H2 => Q (xs ++ ys) H2) : StX.tStar K te t σ H Q := h
theorem cut_from1 {xs : List V} (h : 1 ≤ xs.length) : cutV xs (some 1) none = xs.drop 1 := by
  unfold cutV
  rw [HT.sIx_none, show HT.sIx xs.length 0 (some 1) = min 1 xs.length from HT.sIx_nat _ _ 1, Nat.min_eq_left h]
  exact List.take_of_length_le (by rw [List.length_drop]; omega)
theorem paired_last {α β : Type} {R : α → β → Prop} {l : List α} {m : List β} {c : β} (h : Paired R l (m ++ [c])) : ∃ l' x, l = l' ++ [x] ∧ Paired R l' m ∧ R x c := by
  have h2 := paired_rev h
  rw [List.reverse_append] at h2
  generalize e : l.reverse = k at h2
  cases h2 with
  | cons hx hr =>
    rename_i x k'
    refine ⟨k'.reverse, x, ?_, ?_, hx⟩
    · rw [← List.reverse_reverse l, e, List.reverse_cons]
    · have := paired_rev hr
      simpa using this
theorem paired_nil {α β : Type} {R : α → β → Prop} {l : List α} (h : Paired R l []) : l = [] := by cases h; rfl
section
variable {P : Program} {w : World} {K : PySem.W.Frag} {mg : Str → Option Value} {base : Heap} (T : Ev K mg)
theorem gcl {K : PySem.W.Frag} {mg : Str → Option Value} (T : Ev K mg) : GCl K mg T.CGauge := ⟨cl_Gauge T, T.nGauge_lag, T.nGauge_high, T.nGauge_top, T.nGauge_thin, T.nGauge_thick, T.gCGauge⟩
theorem txw {K : PySem.W.Frag} {mg : Str → Option Value} (T : Ev K mg) : TxtW mg := ⟨⟨_, T.mWATER⟩, ⟨_, T.mICE⟩, ⟨_, T.mLOST⟩, ⟨_, T.mSHUT⟩, ⟨_, T.mSLOW⟩, ⟨_, T.mFREE⟩⟩
theorem txr {K : PySem.W.Frag} {mg : Str → Option Value} (T : Ev K mg) : TxtR mg := ⟨T.mlen, T.mrange, T.msorted⟩
theorem okGauge___init__ : FnOk P w K mg base CX0 1 T.fGauge___init__ T.fdGauge___init__ ["self", "lag", "high", "top", "thin", "thick"] (spGInit T.CGauge) := ok_ginit T.FGauge___init__ (gcl T)
theorem okGauge_stand : FnOk P w K mg base CX0 2 T.fGauge_stand T.fdGauge_stand ["self", "readings", "minute"] (spStand T.CGauge) := ok_stand T.FGauge_stand (gcl T) (txw T) T.F_number_at T.g_number_at T.b_number_at
theorem okGauge__changes : FnOk P w K mg base CX0 1 T.fGauge__changes T.fdGauge__changes ["self", "readings"] (spChg T.CGauge) := ok_chg T.FGauge__changes (gcl T) (txw T)
theorem ggF_stands (g : Gg) : (ggF g).lookup ("stands" : Str) = none := ggF_no g (by decide +kernel) (by decide +kernel) (by decide +kernel) (by decide +kernel) (by decide +kernel)
def spStands : Sp := fun vs H Q _ => ∃ (p q o : Addr) (g : Gg) (rs : List Rd) (a b : Int), vs = [.ref p, .ref q, .ref o] ∧ GgAt T.CGauge H p g ∧ RdsAt H q rs ∧ rs.length ≤ 1000 ∧ StrAt T.CStretch H o a b ∧
  ∀ l ys cs H', Same H H' → H l = none → H' l = some (.lst ys) → cs.Perm (a :: (chg g rs).filter fun m => decide (a < m) && decide (m < b)) → cs.Pairwise (· ≤ ·) → Paired (PcAt T.CStretch H') ys (standsP (standG g rs) cs b) → Q (.ref l) H'
theorem okGauge_stands : FnOk P w K mg base CX0 4 T.fGauge_stands T.fdGauge_stands ["self", "readings", "within"] (spStands T) := by
  refine T.FGauge_stands.ok scGaugeStands (fun vs H Q E h => ?_) (fun cdv A outer s H vs Q E hr h => ?_)
  · obtain ⟨p, q, o, g, rs, a, b, rfl, _⟩ := h
    rfl
  · obtain ⟨p, q, o, g, rs, a, b, rfl, hp, hq, hl, ho, qq⟩ := h
    refine ⟨_,
      (pss_cons (ps_setLc (i := 3) (own := [("minute", 9)]) (g := gName 9)  rfl scGaugeStands.nd rfl rfl (sw_true rfl rfl rfl (by decide +kernel)) (pi_list (pe_meth (pv 0) (cl_Gauge T) (mt_Gauge__changes T) (okGauge__changes T) (hr.mono (by decide)) T.bGauge__changes .nil pass0 (pa_cons (pv 1) pa_nil))) (blkOk_by (N := NGaugeStands) (own := [("minute", 9)]) (sc := defScope sGaugeStands) (by decide +kernel)) (fun _ _ _ _ _ => pg_name (i := 9) scGaugeStands.nd rfl (Or.inl rfl)) (fun _ _ _ _ _ => pts_one (pt_chain op_lt op_lt (show PE _ _ (tFld K (tVar 2) "first") from pe_fld (pv 2) rfl) (pv 9) (show PE _ _ (tFld K (tVar 2) "behind") from pe_fld (pv 2) rfl))) (fun _ _ _ _ _ => (pv 9)))
      (pss_cons (ps_set (i := 4) scGaugeStands.nd rfl (.inl rfl) (pe_callB cr_sortedI (by rfl) T.msorted (by decide +kernel) (pa_cons (pe_lst (pa_cons (pe_fld (pv 2) rfl) (StX.pa_star (pv 3) pa_nil))) pa_nil)))
      (pss_cons (ps_set (i := 5) scGaugeStands.nd rfl (.inl rfl) (pe_lst pa_nil))
      (pss_cons (ps_for PassesOwn.never rfl (RZ.pi_zipA (by rfl) T.mzip (pa_cons (pv 4) (pa_cons (pe_lst (StX.pa_star (pe_slice sl_list (pv 4) (po_some pe_int) po_none) (pa_cons (pe_fld (pv 2) rfl) pa_nil))) pa_nil))) (pg_tup rfl (pgs_cons (pg_name (i := 6) scGaugeStands.nd rfl (.inl rfl)) (pgs_cons (pg_name (i := 7) scGaugeStands.nd rfl (.inl rfl)) pgs_nil)))
      (pss_one (ps_if (pt_cmpR op_lt (pv 6) (pv 7) (nomark _))
      (pss_cons (ps_set (i := 8) scGaugeStands.nd rfl (.inl rfl) (pe_meth (pv 0) (cl_Gauge T) (mt_Gauge_stand T) (okGauge_stand T) (hr.mono (by decide)) T.bGauge_stand .nil pass0 (pa_cons (pv 1) (pa_cons (pv 6) pa_nil))))
      (pss_one (ps_if (PW.pt (pw_and (pt_truth (pv 5) (by intro _; rfl)) (pw_and1 (pt_cmpR op_eq (pe_ix ix_tup (pe_ix ix_list (pv 5) (pe_un un_neg pe_int) (fun _ _ => rfl)) pe_int (fun _ _ => rfl)) (pv 8) (nomark _)))))
      (pss_one (ps_asg (pe_tup (pa_cons (pe_makeN (mk_Stretch T) (okStretch___init__ T) (hr.mono (by decide)) (by rfl) T.gCStretch (kb_Stretch___init___3 T).choose_spec pass0 (pa_cons (pe_fld (pe_ix ix_tup (pe_ix ix_list (pv 5) (pe_un un_neg pe_int) (fun _ _ => rfl)) pe_int (fun _ _ => rfl)) rfl) (pa_cons (pv 7) pa_nil)) pk_nil) (pa_cons (pv 8) pa_nil))) (pg_sub (pv 5) (pe_un un_neg pe_int) set_list)))
      (pss_one (ps_expr (pe_bm PySem.F.plainAttrs_list PySem.F.slot_list_append PySem.F.type_list_append mt_append (pv 5) (pa_cons (pe_tup (pa_cons (pe_makeN (mk_Stretch T) (okStretch___init__ T) (hr.mono (by decide)) (by rfl) T.gCStretch (kb_Stretch___init___3 T).choose_spec pass0 (pa_cons (pv 6) (pa_cons (pv 7) pa_nil)) pk_nil) (pa_cons (pv 8) pa_nil))) pa_nil)))))))
      pss_nil)))
      (pss_one (ps_ret (pv 5)))))))
      , ?_⟩
    obtain ⟨dx, e1⟩ := id hp
    walk_at "s"
    refine ⟨p, dx, _, rfl, e1, ggF_changes g, ?_⟩
    walk_at "s"
    refine ⟨p, q, g, rs, rfl, hp, hq, hl, fun c1 H1 s1 hc1 ec1 => ?_⟩
    refine ⟨c1, rfl, ⟨_, SqL.of ec1⟩, fun D hD => ?_⟩
    have hcl : (chg g rs).length = rs.length := by unfold chg; rw [List.length_map]
    refine lc_list (K := K) (a := c1) (xs := (chg g rs).map V.int) (fun k H' => H' D = some (.lst ((((chg g rs).take k).filter fun m => decide (a < m) && decide (m < b)).map V.int)) ∧ Same H1 H') ⟨by rw [List.take_zero]; exact upd_same, same_upd hD⟩ (fun k H' _ z => SqL.of (z.2 _ _ ec1)) ?_ ?_
    · rintro k y H2 hy ⟨eD, s2⟩
      obtain ⟨m, hm, rfl⟩ : ∃ m, (chg g rs)[k]? = some m ∧ y = .int m := by
        rw [List.getElem?_map] at hy
        cases e : (chg g rs)[k]? with
        | none => rw [e] at hy; cases hy
        | some m => rw [e] at hy; cases hy; exact ⟨m, rfl, rfl⟩
      have hfl : (((chg g rs).take k).filter fun m => decide (a < m) && decide (m < b)).length ≤ 1000 := Nat.le_trans (List.length_filter_le _ _) (by rw [List.length_take]; omega)
      have ho2 := (ho.same s1).same s2
      have es : ((chg g rs).take (k + 1)).filter (fun m => decide (a < m) && decide (m < b)) = (((chg g rs).take k).filter fun m => decide (a < m) && decide (m < b)) ++ (if (decide (a < m) && decide (m < b)) = true then [m] else []) := by
        rw [List.take_succ, hm, Option.toList_some, List.filter_append]
        congr 1
        simp only [List.filter_cons, List.filter_nil]
      walk_at "s"
      refine i_first T ho2 ?_
      walk_at "s"
      refine ite2 (fun c => ?_) (fun c => ?_)
      · walk_at "s"
        refine i_behind T ho2 ?_
        walk_at "s"
        refine ite2 (fun c2 => ?_) (fun c2 => ?_)
        · walk_at "s"
          refine ⟨_, eD, lt_line (by rw [List.length_map]; omega), ?_, app_same hD s2⟩
          rw [upd_same, es, if_pos (by rw [c, c2]; rfl), List.map_append]
          rfl
        · refine ⟨?_, s2⟩
          rw [es, if_neg (by rw [c]; simpa using c2), List.append_nil]
          exact eD
      · walk_at "s"
        refine ⟨?_, s2⟩
        rw [es, if_neg (by rw [Bool.not_eq_true] at c; rw [c, Bool.false_and]; exact Bool.false_ne_true), List.append_nil]
        exact eD
    rintro H2 ⟨eD, s2⟩
    rw [List.length_map, List.take_length] at eD
    have hfl : ((chg g rs).filter fun m => decide (a < m) && decide (m < b)).length ≤ 1000 := Nat.le_trans (List.length_filter_le _ _) (by omega)
    generalize (chg g rs).filter (fun m => decide (a < m) && decide (m < b)) = ins at eD hfl qq
    have s02 := s1.trans s2
    walk_at "s"
    refine i_first T (ho.same s02) ?_
    walk_at "s"
    refine ⟨D, _, rfl, .inr (SqL.of eD), ?_⟩
    refine ⟨le_line (by rw [List.append_nil, List.length_cons, List.length_map]; omega), fun l1 hl1 => ?_⟩
    rw [List.append_nil]
    walk_at "s"
    have e3 : (upd H2 l1 (.lst (V.int a :: ins.map V.int))) l1 = some (.lst ((a :: ins).map V.int)) := upd_same
    have s3 := s02.trans (same_upd (o := .lst (V.int a :: ins.map V.int)) hl1)
    generalize upd H2 l1 (.lst (V.int a :: ins.map V.int)) = H3 at e3 s3 ⊢
    refine ⟨l1, a :: ins, rfl, SqL.of e3, fun cs l2 hpm hpw hl2 => ?_⟩
    have e4 : (upd H3 l2 (.lst (cs.map V.int))) l2 = some (.lst (cs.map V.int)) := upd_same
    have s4 := s3.trans (same_upd (o := .lst (cs.map V.int)) hl2)
    generalize upd H3 l2 (.lst (cs.map V.int)) = H4 at e4 s4 ⊢
    have hcl2 : cs.length = ins.length + 1 := by rw [hpm.length_eq]; rfl
    walk_at "s"
    intro lt hlt
    have e5 : (upd H4 lt (.lst [])) lt = some (.lst []) := upd_same
    have hlt0 : H lt = none := s4.free hlt
    have e54 := upd_at (o := .lst []) hlt e4
    have s5 := s4.trans (same_upd (o := .lst []) hlt)
    generalize upd H4 lt (.lst []) = H5 at e5 e54 s5 ⊢
    walk_at "s"
    refine ⟨l2, _, rfl, SqL.of e54, fun l3 hl3 => ?_⟩
    rw [cut_from1 (by rw [List.length_map]; omega)]
    walk_at "s"
    refine ⟨l3, _, rfl, .inr (SqL.of upd_same), ?_⟩
    walk_at "s"
    have s6 := s5.trans (same_upd (o := .lst ((cs.map V.int).drop 1)) hl3)
    have e65 := upd_at (o := .lst ((cs.map V.int).drop 1)) hl3 e5
    have e64 := upd_at (o := .lst ((cs.map V.int).drop 1)) hl3 e54
    generalize upd H5 l3 (.lst ((cs.map V.int).drop 1)) = H6 at s6 e65 e64 ⊢
    refine i_behind T (ho.same s6) ?_
    refine ⟨le_line (by simp only [List.length_append, List.length_drop, List.length_map, List.length_cons, List.length_nil]; omega), fun l4 hl4 => ?_⟩
    have ez : (cs.map V.int).drop 1 ++ [V.int b] = (cs.drop 1 ++ [b]).map V.int := by rw [List.map_append, List.map_drop]; rfl
    rw [ez]
    have s7 := s6.trans (same_upd (o := .lst ((cs.drop 1 ++ [b]).map V.int)) hl4)
    have e75 := upd_at (o := .lst ((cs.drop 1 ++ [b]).map V.int)) hl4 e65
    have e74 := upd_at (o := .lst ((cs.drop 1 ++ [b]).map V.int)) hl4 e64
    have e77 : (upd H6 l4 (.lst ((cs.drop 1 ++ [b]).map V.int))) l4 = some (.lst ((cs.drop 1 ++ [b]).map V.int)) := upd_same
    have n2t : l2 ≠ lt := fun z => by rw [← z, e4] at hlt; cases hlt
    have n4t : l4 ≠ lt := fun z => by rw [z, e65] at hl4; cases hl4
    generalize upd H6 l4 (.lst ((cs.drop 1 ++ [b]).map V.int)) = H7 at s7 e75 e74 e77 ⊢
    have hnl : (cs.drop 1 ++ [b]).length = cs.length := by simp only [List.length_append, List.length_drop, List.length_cons, List.length_nil]; omega
    walk_at "s"
    refine ⟨l2, l4, _, _, rfl, .inl ⟨SqL.of e74, SqL.of e77, ?_⟩⟩
    refine for_zipU (K := K) (a := l2) (b := l4) (xs := cs.map V.int) (ys := (cs.drop 1 ++ [b]).map V.int) (n := cs.length) (by rw [List.length_map]; omega) (by rw [List.length_map]; omega) (.inl (by rw [List.length_map]))
      (fun i σ H' => ∃ (vs : List V) (w6 w7 w8 w9 : Option V), σ = [some (.ref p), some (.ref q), some (.ref o), some (.ref D), some (.ref l2), some (.ref lt), w6, w7, w8, w9] ∧ H' lt = some (.lst vs) ∧ Paired (PcAt T.CStretch H') vs (pcFold (standG g rs) ((nexts cs b).take i)).reverse ∧ H' l2 = some (.lst (cs.map V.int)) ∧ H' l4 = some (.lst ((cs.drop 1 ++ [b]).map V.int)) ∧ Same H H')
      ⟨[], _, _, _, _, rfl, e75, .nil, e74, e77, s7⟩ (fun i σ H' ⟨_, _, _, _, _, _, _, _, z1, z2, _⟩ => ⟨SqL.of z1, SqL.of z2⟩) ?_ ?_
    · rintro i x y tt σ H8 hi hx hy ⟨vs, w6, w7, w8, w9, rfl, et, hvs, e82, e84, s8⟩ htt
      have hn : (nexts cs b)[i]? = some (cs[i], (cs.drop 1 ++ [b])[i]'(by omega)) := by
        unfold nexts
        rw [List.getElem?_eq_getElem (by rw [List.length_zip]; omega), List.getElem_zip]
      rw [List.getElem?_map, List.getElem?_eq_getElem hi] at hx
      rw [List.getElem?_map, List.getElem?_eq_getElem (by omega)] at hy
      cases hx
      cases hy
      have hsn : (nexts cs b).take (i + 1) = (nexts cs b).take i ++ [(cs[i], (cs.drop 1 ++ [b])[i]'(by omega))] := by rw [List.take_succ, hn]; rfl
      have hlen := pcFold_len (standG g rs) ((nexts cs b).take i)
      rw [List.length_take] at hlen
      have hfr : ∀ c ∈ pcFold (standG g rs) ((nexts cs b).take i), c.a ≤ cs[i] := fun c hc => by
        obtain ⟨pp, hpp, e⟩ := pcFold_from _ _ c hc
        rw [e]
        exact sorted_take hpw hi (zip_take_fst hpp)
      generalize cs[i] = x at hsn hfr ⊢
      generalize (cs.drop 1 ++ [b])[i]'(by omega) = y at hsn ⊢
      rw [hsn]
      refine ⟨tt, _, rfl, SqT.of upd_same, rfl, ?_⟩
      have et9 := upd_at (o := .tup [.int x, .int y]) htt et
      have e92 := upd_at (o := .tup [.int x, .int y]) htt e82
      have e94 := upd_at (o := .tup [.int x, .int y]) htt e84
      have s9 := s8.trans (same_upd (o := .tup [.int x, .int y]) htt)
      have hvs9 := paired_mono (fun _ _ z => PcAt.same z (same_upd (o := .tup [.int x, .int y]) htt)) hvs
      generalize upd H8 tt (.tup [.int x, .int y]) = H9 at et9 e92 e94 s9 hvs9 ⊢
      rw [pcFold_snoc]
      walk_at "s"
      refine ite2 (fun c => ?_) (fun c => ?_)
      · have c1 : x < y := of_decide_eq_true c
        walk_at "s"
        refine ⟨p, dx, _, rfl, s9 _ _ e1, ggF_stand g, ?_⟩
        walk_at "s"
        refine ⟨p, q, g, rs, x, rfl, hp.same s9, hq.same s9, ?_⟩
        walk_at "s"
        have hvl := Paired.length hvs9
        rw [List.length_reverse] at hvl
        generalize hacc : pcFold (standG g rs) ((nexts cs b).take i) = acc at hvs9 hlen hvl hfr ⊢
        have fresh : ∀ {z t : Addr} {o1 : HO} {Ha : Hp}, Same H9 Ha → StrAt T.CStretch Ha z x y → Ha t = none → (∀ c r, acc = c :: r → c.w ≠ standG g rs x) → (upd (upd Ha t (.tup [.ref z, .str (standG g rs x)])) lt (.lst (vs ++ [.ref t]))) lt = some (.lst (vs ++ [.ref t])) ∧ Paired (PcAt T.CStretch (upd (upd Ha t (.tup [.ref z, .str (standG g rs x)])) lt (.lst (vs ++ [.ref t])))) (vs ++ [.ref t]) (pcStep (standG g rs) acc (x, y)).reverse := fun {z t o1 Ha} sa hz ht hne => by
          refine ⟨upd_same, ?_⟩
          have eta := upd_at (o := .tup [.ref z, .str (standG g rs x)]) ht (sa _ _ et9)
          have e : pcStep (standG g rs) acc (x, y) = ⟨x, y, standG g rs x⟩ :: acc := by
            unfold pcStep
            rw [if_pos c1]
            cases acc with
            | nil => rfl
            | cons c0 r => exact if_neg (hne c0 r rfl)
          rw [e, List.reverse_cons]
          refine paired_app (paired_mono (fun _ _ m => ((m.same sa).same (same_upd ht)).upd eta) hvs9) (.cons ⟨t, z, rfl, ?_, ?_⟩ .nil)
          · rw [upd_ne (ne_of_none (sa _ _ et9) ht).symm]; exact upd_same
          · obtain ⟨dz, ez⟩ := hz
            exact ⟨dz, by rw [upd_ne (ne_of ez (sa _ _ et9) (by intro y; cases y))]; exact upd_at ht ez⟩
        cases acc with
        | nil =>
          obtain rfl := paired_nil hvs9
          refine ⟨false, .inl ⟨[], SqL.of et9, rfl⟩, ?_⟩
          walk_at "s"
          refine And.intro (.inl ⟨rfl, _, SqL.of et9⟩) ?_
          walk_at "s"
          refine mkStr (a := x) (b := y) (y := .int y) (.inl rfl) (by omega) fun z H10 hz hz1 s10 => ?_
          walk_at "s"
          intro t ht
          have ety := upd_at (o := .tup [.ref z, .str (standG g rs x)]) ht (s10 _ _ et9)
          walk_at "s"
          refine ⟨lt, _, _, rfl, rfl, ety, lt_line (by decide), ?_⟩
          obtain ⟨f1, f2⟩ := fresh (o1 := .lst []) s10 hz1 ht (fun c r e => by cases e)
          exact ⟨_, _, _, _, _, rfl, f1, f2, by rw [upd_ne n2t]; exact upd_at ht (s10 _ _ e92), by rw [upd_ne n4t]; exact upd_at ht (s10 _ _ e94), app_same hlt0 ((s9.trans s10).trans (same_upd ht))⟩
        | cons c0 r =>
          rw [List.reverse_cons] at hvs9
          obtain ⟨vs0, v, rfl, h1, hv⟩ := paired_last hvs9
          obtain ⟨tv, zv, rfl, etv, hzv⟩ := hv
          refine ⟨true, .inl ⟨_, SqL.of et9, by cases vs0 <;> rfl⟩, ?_⟩
          walk_at "s"
          refine i_ixLast (SqL.of et9) ?_
          walk_at "s"
          refine i_ixT1 (SqT.of etv) ?_
          walk_at "s"
          by_cases hw : c0.w = standG g rs x
          · rw [decide_eq_true (congrArg V.str hw)]
            walk_at "s"
            refine i_ixLast (SqL.of et9) ?_
            walk_at "s"
            refine i_ixT0 (SqT.of etv) ?_
            refine i_first T hzv ?_
            have hca := hfr c0 List.mem_cons_self
            walk_at "s"
            refine mkStr (a := c0.a) (b := y) (y := .int y) (.inl rfl) (by omega) fun z H10 hz hz1 s10 => ?_
            walk_at "s"
            intro t ht
            have et10 := s10 _ _ et9
            have ety := upd_at (o := .tup [.ref z, .str (standG g rs x)]) ht et10
            walk_at "s"
            refine i_setLast ety ?_
            have e : pcStep (standG g rs) (c0 :: r) (x, y) = ⟨c0.a, y, c0.w⟩ :: r := by
              unfold pcStep
              rw [if_pos c1]
              exact if_pos hw
            refine ⟨_, _, _, _, _, rfl, upd_same, ?_, by rw [upd_ne n2t]; exact upd_at ht (s10 _ _ e92), by rw [upd_ne n4t]; exact upd_at ht (s10 _ _ e94), app_same hlt0 ((s9.trans s10).trans (same_upd ht))⟩
            rw [e, List.reverse_cons]
            refine paired_app (paired_mono (fun _ _ m => ((m.same s10).same (same_upd ht)).upd ety) h1) (.cons ⟨t, z, rfl, ?_, ?_⟩ .nil)
            · rw [upd_ne (ne_of_none et10 ht).symm, upd_same, hw]
            · obtain ⟨dz, ez⟩ := hz1
              exact ⟨dz, by rw [upd_ne (ne_of ez et10 (by intro y; cases y))]; exact upd_at ht ez⟩
          · rw [decide_eq_false (fun z => hw (V.str.inj z))]
            walk_at "s"
            refine And.intro (.inl ⟨rfl, _, SqL.of et9⟩) ?_
            walk_at "s"
            refine mkStr (a := x) (b := y) (y := .int y) (.inl rfl) (by omega) fun z H10 hz hz1 s10 => ?_
            walk_at "s"
            intro t ht
            have ety := upd_at (o := .tup [.ref z, .str (standG g rs x)]) ht (s10 _ _ et9)
            walk_at "s"
            refine ⟨lt, _, _, rfl, rfl, ety, lt_line (by simp only [List.length_cons] at hlen hvl; omega), ?_⟩
            obtain ⟨f1, f2⟩ := fresh (o1 := .lst []) s10 hz1 ht (fun c r e => by cases e; exact hw)
            exact ⟨_, _, _, _, _, rfl, f1, f2, by rw [upd_ne n2t]; exact upd_at ht (s10 _ _ e92), by rw [upd_ne n4t]; exact upd_at ht (s10 _ _ e94), app_same hlt0 ((s9.trans s10).trans (same_upd ht))⟩
      · walk_at "s"
        refine ⟨vs, _, _, _, _, rfl, et9, ?_, e92, e94, s9⟩
        unfold pcStep
        rw [if_neg (fun z => c (decide_eq_true z))]
        exact hvs9
    · rintro σ H8 ⟨vs, w6, w7, w8, w9, rfl, et, hvs, e82, e84, s8⟩
      walk_at "s"
      rw [List.take_of_length_le (by rw [nexts_len _ _ (by omega)]; exact Nat.le_refl _)] at hvs
      exact qq lt vs cs H8 s8 hlt0 et hpm hpw hvs
end
theorem nexts_cons2 (c d : Int) (r : List Int) (b : Int) : nexts (c :: d :: r) b = (c, d) :: nexts (d :: r) b := rfl
/-! ### pieces side by side: what they are -/
/-- from a on, the last of them first, up to e -/
def RCh (st : Int → Str) (a : Int) : Int → List Pc → Prop
  | e, [] => e = a
  | e, p :: r => p.b = e ∧ p.a < p.b ∧ (∀ m, p.a ≤ m → m < p.b → st m = p.w) ∧ (∀ q, r.head? = some q → q.w ≠ p.w) ∧ RCh st a p.a r
theorem rch_step {st : Int → Str} {a x y : Int} {acc : List Pc} (h : RCh st a x acc) (hxy : x ≤ y) (hc : ∀ m, x ≤ m → m < y → st m = st x) : RCh st a y (pcStep st acc (x, y)) := by
  unfold pcStep
  by_cases c : x < y
  · rw [if_pos c]
    cases acc with
    | nil => exact ⟨rfl, c, hc, fun q e => (by cases e), h⟩
    | cons p r =>
      obtain ⟨h1, h2, h3, h4, h5⟩ := h
      show RCh st a y (if p.w = st x then _ else _)
      by_cases e : p.w = st x
      · rw [if_pos e]
        refine ⟨rfl, by show p.a < y; omega, fun m m1 m2 => ?_, h4, h5⟩
        by_cases g : m < p.b
        · exact h3 m m1 g
        · rw [hc m (by omega) m2]; exact e.symm
      · rw [if_neg e]
        exact ⟨rfl, c, hc, fun q eq => by cases eq; exact e, h1, h2, h3, h4, h5⟩
  · rw [if_neg c]
    have : x = y := by omega
    rw [← this]; exact h
theorem rch_fold {st : Int → Str} {a b : Int} : ∀ (cs : List Int) (c : Int) (acc : List Pc), RCh st a c acc → (c :: cs).Pairwise (· ≤ ·) → (∀ z ∈ c :: cs, z ≤ b) →
    (∀ x y, x ≤ y → y ≤ b → x ∈ c :: cs → (∀ z ∈ c :: cs, z ≤ x ∨ y ≤ z) → ∀ m, x ≤ m → m < y → st m = st x) → RCh st a b ((nexts (c :: cs) b).foldl (pcStep st) acc)
  | [], c, acc, h, _, hb, hc => by
    show RCh st a b (pcStep st acc (c, b))
    exact rch_step h (hb c List.mem_cons_self) (hc c b (hb c List.mem_cons_self) (Int.le_refl _) List.mem_cons_self fun z hz => by simp at hz; subst hz; exact .inl (Int.le_refl _))
  | d :: r, c, acc, h, hp, hb, hc => by
    rw [nexts_cons2]
    obtain ⟨h1, h2⟩ := List.pairwise_cons.mp hp
    obtain ⟨g1, _⟩ := List.pairwise_cons.mp h2
    have hcd := h1 d List.mem_cons_self
    show RCh st a b ((nexts (d :: r) b).foldl (pcStep st) (pcStep st acc (c, d)))
    refine rch_fold r d _ (rch_step h hcd (hc c d hcd (hb d (by simp)) List.mem_cons_self fun z hz => ?_)) h2 (fun z hz => hb z (List.mem_cons_of_mem _ hz)) fun x y hxy hyb hx hz => hc x y hxy hyb (List.mem_cons_of_mem _ hx) fun z hz2 => ?_
    · rcases List.mem_cons.mp hz with rfl | hz
      · exact .inl (Int.le_refl _)
      · rcases List.mem_cons.mp hz with rfl | hz
        · exact .inr (Int.le_refl _)
        · exact .inr (g1 z hz)
    · rcases List.mem_cons.mp hz2 with rfl | hz2
      · have := h1 x hx; exact .inl this
      · exact hz z hz2
/-- forward: from s on, behind a word, up to e -/
def FCh (st : Int → Str) : Int → Option Str → List Pc → Int → Prop
  | s, _, [], e => s = e
  | s, o, p :: L, e => p.a = s ∧ p.a < p.b ∧ (∀ m, p.a ≤ m → m < p.b → st m = p.w) ∧ o ≠ some p.w ∧ FCh st p.b (some p.w) L e
theorem fch_snoc {st : Int → Str} : ∀ {L : List Pc} {s : Int} {o : Option Str} {p : Pc}, FCh st s o L p.a → p.a < p.b → (∀ m, p.a ≤ m → m < p.b → st m = p.w) → ((L.getLast?.map (·.w)).or o ≠ some p.w) → FCh st s o (L ++ [p]) p.b
  | [], s, o, p, h, h1, h2, h3 => by
    have h : s = p.a := h
    exact ⟨h.symm, h1, h2, by simpa using h3, rfl⟩
  | q :: L, s, o, p, h, h1, h2, h3 => by
    obtain ⟨g1, g2, g3, g4, g5⟩ := h
    refine ⟨g1, g2, g3, g4, fch_snoc g5 h1 h2 ?_⟩
    cases L with
    | nil => simpa using h3
    | cons z L =>
      rw [List.getLast?_cons_cons] at h3
      cases e : (z :: L).getLast? with
      | none => simp at e
      | some y => rw [e] at h3; simpa using h3
theorem rch_fch {st : Int → Str} {a : Int} : ∀ {acc : List Pc} {e : Int}, RCh st a e acc → FCh st a none acc.reverse e
  | [], e, h => Eq.symm h
  | p :: r, e, ⟨h1, h2, h3, h4, h5⟩ => by
    rw [List.reverse_cons, ← h1]
    refine fch_snoc (rch_fch h5) h2 h3 ?_
    rw [List.getLast?_reverse, Option.or_none]
    cases c : r.head? with
    | none => simp
    | some q => simpa using h4 q c
/-! ### a stand changes where something read comes only -/
theorem numAt_eq {rs : List Rd} {w : Bool} {u v : Int} (h : ∀ r ∈ rs, r.w = w → (r.m ≤ u ↔ r.m ≤ v)) : numAt rs w u = numAt rs w v := by
  unfold numAt nFold
  have : ∀ (l : List Rd) (s : Int × Int), (∀ r ∈ l, r.w = w → (r.m ≤ u ↔ r.m ≤ v)) → l.foldl (nStep w u) s = l.foldl (nStep w v) s := by
    intro l
    induction l with
    | nil => intro s _; rfl
    | cons r l ih =>
      intro s hl
      rw [List.foldl_cons, List.foldl_cons]
      have e : nStep w u s r = nStep w v s r := by
        unfold nStep
        by_cases c : r.w = w
        · have := hl r List.mem_cons_self c
          simp only [c, this]
        · simp [c]
      rw [e]
      exact ih _ fun x hx => hl x (List.mem_cons_of_mem _ hx)
  rw [this rs _ h]
theorem standG_const {g : Gg} {rs : List Rd} {x m : Int} (h : x ≤ m) (hz : ∀ z ∈ chg g rs, ¬ (x < z ∧ z ≤ m)) : standG g rs m = standG g rs x := by
  have hw : ∀ r ∈ rs, r.w = true → ¬ (x < r.m + g.lag ∧ r.m + g.lag ≤ m) := fun r hr e => hz _ (by unfold chg; exact List.mem_map.mpr ⟨r, hr, by rw [if_pos e]⟩)
  have hi : ∀ r ∈ rs, r.w = false → ¬ (x < r.m ∧ r.m ≤ m) := fun r hr e => hz _ (by unfold chg; exact List.mem_map.mpr ⟨r, hr, by rw [if_neg (by rw [e]; decide)]⟩)
  unfold standG
  rw [numAt_eq (u := m - g.lag) (v := x - g.lag) fun r hr e => by have := hw r hr e; omega, numAt_eq (u := m) (v := x) fun r hr e => by have := hi r hr e; omega]
/-- what Gauge.stands tells -/
theorem stands_fch {g : Gg} {rs : List Rd} {cs : List Int} {a b : Int} (hab : a ≤ b) (hp : cs.Perm (a :: (chg g rs).filter fun m => decide (a < m) && decide (m < b))) (hs : cs.Pairwise (· ≤ ·)) : FCh (standG g rs) a none (standsP (standG g rs) cs b) b := by
  have hmem : ∀ z, z ∈ cs ↔ z = a ∨ (z ∈ chg g rs ∧ a < z ∧ z < b) := fun z => by
    rw [hp.mem_iff, List.mem_cons, List.mem_filter, Bool.and_eq_true, decide_eq_true_eq, decide_eq_true_eq]
  cases cs with
  | nil => have := (hmem a).mpr (.inl rfl); simp at this
  | cons c cs =>
    have hca : c = a := by
      rcases (hmem c).mp List.mem_cons_self with e | ⟨_, e, _⟩
      · exact e
      · rcases List.mem_cons.mp ((hmem a).mpr (.inl rfl)) with f | f
        · exact f.symm
        · have := (List.pairwise_cons.mp hs).1 a f; omega
    subst hca
    unfold standsP pcFold
    refine rch_fch (rch_fold cs c [] rfl hs (fun z hz => ?_) fun x y hxy hyb hx hz m hm1 hm2 => ?_)
    · rcases (hmem z).mp hz with rfl | ⟨_, _, h⟩
      · exact hab
      · omega
    · refine standG_const hm1 fun z hzc hz2 => ?_
      have hcx : c ≤ x := by
        rcases (hmem x).mp hx with rfl | ⟨_, h, _⟩
        · exact Int.le_refl _
        · omega
      have := hz z ((hmem z).mpr (.inr ⟨hzc, by omega, by omega⟩))
      omega
/-! ### the first minute lost, by pieces and by readings -/
theorem fch_mem {st : Int → Str} : ∀ {L : List Pc} {s e : Int} {o : Option Str}, FCh st s o L e → s ≤ e ∧ ∀ p ∈ L, s ≤ p.a ∧ p.a < p.b ∧ p.b ≤ e ∧ ∀ m, p.a ≤ m → m < p.b → st m = p.w
  | [], s, e, o, h => ⟨Int.le_of_eq h, fun p hp => by cases hp⟩
  | q :: L, s, e, o, ⟨h1, h2, h3, _, h5⟩ => by
    obtain ⟨i1, i2⟩ := fch_mem h5
    refine ⟨by omega, fun p hp => ?_⟩
    rcases List.mem_cons.mp hp with rfl | hp
    · exact ⟨by omega, h2, i1, h3⟩
    · obtain ⟨a1, a2⟩ := i2 p hp
      exact ⟨by omega, a2⟩
theorem fch_at {st : Int → Str} : ∀ {L : List Pc} {s e m : Int} {o : Option Str}, FCh st s o L e → s ≤ m → m < e → ∃ p ∈ L, p.a ≤ m ∧ m < p.b
  | [], s, e, m, o, h, h1, h2 => by have h : s = e := h; omega
  | q :: L, s, e, m, o, ⟨g1, g2, _, _, g5⟩, h1, h2 => by
    by_cases c : m < q.b
    · exact ⟨q, List.mem_cons_self, by omega, c⟩
    · obtain ⟨p, hp, z⟩ := fch_at g5 (by omega) h2
      exact ⟨p, List.mem_cons_of_mem _ hp, z⟩
/-- the first one of a word -/
theorem fch_first {st : Int → Str} {w : Str} : ∀ {L : List Pc} {s e : Int} {o : Option Str}, FCh st s o L e → ∀ p ∈ L, p.w = w → ∃ q ∈ L, q.w = w ∧ (L.filter fun p => decide (p.w = w)).head? = some q ∧ q.a ≤ p.a
  | [], _, _, _, _, p, hp, _ => by cases hp
  | z :: L, s, e, o, ⟨g1, g2, g3, g4, g5⟩, p, hp, hw => by
    by_cases c : z.w = w
    · refine ⟨z, List.mem_cons_self, c, by rw [List.filter_cons, if_pos (decide_eq_true c)]; rfl, ?_⟩
      rcases List.mem_cons.mp hp with rfl | hp
      · exact Int.le_refl _
      · have := ((fch_mem g5).2 p hp).1
        omega
    · rcases List.mem_cons.mp hp with rfl | hp
      · exact absurd hw c
      · obtain ⟨q, h1, h2, h3, h4⟩ := fch_first g5 p hp hw
        exact ⟨q, List.mem_cons_of_mem _ h1, h2, by rw [List.filter_cons, if_neg (by simpa using c)]; exact h3, h4⟩
theorem lostW_iff {g : Gg} {rs : List Rd} {m : Int} : standG g rs m = ("lost" : Str) ↔ lostB g rs m = true := by
  have h1 : ¬ (("shut" : Str) = "lost") := by decide +kernel
  have h2 : ¬ (("slow" : Str) = "lost") := by decide +kernel
  have h3 : ¬ (("free" : Str) = "lost") := by decide +kernel
  unfold standG standS lostB
  by_cases c : numAt rs true (m - g.lag) ≥ g.top
  · rw [if_pos c, decide_eq_true c]; exact ⟨fun _ => rfl, fun _ => rfl⟩
  · rw [if_neg c, decide_eq_false c]
    constructor
    · intro h
      split at h
      · exact absurd h h1
      · split at h
        · exact absurd h h2
        · exact absurd h h3
    · intro h; cases h
theorem lost_at {g : Gg} {kn : List Rd} {now : Int} : ∀ (n : Nat) (m : Int), m = now + n → lostB g kn m = true → ∃ y ∈ lostL g kn now, y ≤ m
  | 0, m, e, h => by
    have e0 : m = now := by rw [e]; exact Int.add_zero now
    subst e0
    refine ⟨m, ?_, Int.le_refl _⟩
    unfold lostL
    refine List.mem_filter.mpr ⟨List.mem_cons_self, ?_⟩
    rw [h, decide_eq_true (Int.le_refl m)]; rfl
  | n + 1, m, e, h => by
    by_cases c : lostB g kn (m - 1) = true
    · obtain ⟨y, hy, hl⟩ := lost_at (g := g) (kn := kn) (now := now) n (m - 1) (by omega) c
      exact ⟨y, hy, by omega⟩
    · have hne : ¬ ∀ r ∈ kn, r.w = true → (r.m ≤ m - g.lag ↔ r.m ≤ m - 1 - g.lag) := fun hall => by
        apply c
        unfold lostB at h ⊢
        rw [← numAt_eq (u := m - g.lag) (v := m - 1 - g.lag) hall]
        exact h
      obtain ⟨r, hr⟩ := Classical.not_forall.mp hne
      obtain ⟨hr, h2⟩ := Classical.not_imp.mp hr
      obtain ⟨hw, h3⟩ := Classical.not_imp.mp h2
      have hm : m = r.m + g.lag := by omega
      refine ⟨m, ?_, Int.le_refl _⟩
      unfold lostL
      refine List.mem_filter.mpr ⟨List.mem_cons_of_mem _ (List.mem_map.mpr ⟨r, List.mem_filter.mpr ⟨hr, by rw [hw]; rfl⟩, hm.symm⟩), ?_⟩
      rw [h, decide_eq_true (by omega)]; rfl
theorem first_lost {g : Gg} {kn : List Rd} {now b : Int} {L : List Pc} (h : FCh (standG g kn) now none L b) (hk : ∀ r ∈ kn, r.m ≤ now) (hlag : now + g.lag < b) (hnb : now < b) :
    (lostL g kn now = [] → L.filter (fun p => decide (p.w = ("lost" : Str))) = []) ∧ ∀ f, IsFl g kn now f → ∃ q, (L.filter fun p => decide (p.w = ("lost" : Str))).head? = some q ∧ q.a = f := by
  obtain ⟨_, hm⟩ := fch_mem h
  have lost : ∀ p ∈ L, p.w = ("lost" : Str) → ∃ y ∈ lostL g kn now, y ≤ p.a := fun p hp hw => by
    obtain ⟨h1, h2, h3, h4⟩ := hm p hp
    have := h4 p.a (Int.le_refl _) h2
    rw [hw] at this
    exact lost_at (now := now) (p.a - now).toNat p.a (by omega) (lostW_iff.mp this)
  constructor
  · intro e
    refine List.filter_eq_nil_iff.mpr fun p hp hw => ?_
    obtain ⟨y, hy, _⟩ := lost p hp (of_decide_eq_true hw)
    rw [e] at hy
    cases hy
  · intro f hf
    obtain ⟨h1, h2⟩ := List.mem_filter.mp hf.1
    rw [Bool.and_eq_true, decide_eq_true_eq] at h2
    have hfb : f < b := by
      rcases List.mem_cons.mp h1 with rfl | h1
      · exact hnb
      · obtain ⟨r, hr, rfl⟩ := List.mem_map.mp h1
        have := hk r (List.mem_filter.mp hr).1
        omega
    obtain ⟨p, hp, p1, p2⟩ := fch_at h h2.1 hfb
    have hpw : p.w = ("lost" : Str) := by rw [← (hm p hp).2.2.2 f p1 p2]; exact lostW_iff.mpr h2.2
    obtain ⟨q, hq, hqw, hh, hle⟩ := fch_first h p hp hpw
    obtain ⟨y, hy, hyq⟩ := lost q hq hqw
    have := hf.2 y hy
    exact ⟨q, hh, by omega⟩
/-! ### what comes later changes nothing ahead of it -/
theorem numAt_later {la kn : List Rd} {w : Bool} {u : Int} (h : ∀ r ∈ la, u < r.m) : numAt (la ++ kn) w u = numAt kn w u := by
  unfold numAt nFold
  have : ∀ (l : List Rd) (s : Int × Int), (∀ r ∈ l, u < r.m) → l.foldl (nStep w u) s = s := by
    intro l
    induction l with
    | nil => intro s _; rfl
    | cons r l ih =>
      intro s hl
      have := hl r List.mem_cons_self
      rw [List.foldl_cons, show nStep w u s r = s from if_neg fun z => by omega]
      exact ih s fun x hx => hl x (List.mem_cons_of_mem _ hx)
  rw [List.foldl_append, this la _ h]
theorem standG_later {g : Gg} {la kn : List Rd} {m : Int} (hl : 0 ≤ g.lag) (h : ∀ r ∈ la, m < r.m) : standG g (la ++ kn) m = standG g kn m := by
  unfold standG
  rw [numAt_later fun r hr => by have := h r hr; omega, numAt_later h]
theorem pcFold_st {st st' : Int → Str} {e : Int} (h : ∀ m, m < e → st m = st' m) : ∀ (ps : List (Int × Int)) (acc : List Pc), (∀ p ∈ ps, p.2 ≤ e) → ps.foldl (pcStep st) acc = ps.foldl (pcStep st') acc
  | [], _, _ => rfl
  | p :: ps, acc, hp => by
    have e1 : pcStep st acc p = pcStep st' acc p := by
      unfold pcStep
      by_cases c : p.1 < p.2
      · rw [if_pos c, if_pos c, h p.1 (by have := hp p List.mem_cons_self; omega)]
      · rw [if_neg c, if_neg c]
    show ps.foldl _ (pcStep st acc p) = ps.foldl _ (pcStep st' acc p)
    rw [e1]
    exact pcFold_st h ps _ fun x hx => hp x (List.mem_cons_of_mem _ hx)
theorem perm_le_eq : ∀ {l m : List Int}, l.Perm m → l.Pairwise (· ≤ ·) → m.Pairwise (· ≤ ·) → l = m := fun h a b => List.Perm.eq_of_pairwise (fun _ _ _ _ h1 h2 => Int.le_antisymm h1 h2) a b h
theorem stands_later {g : Gg} {la kn : List Rd} {cs cs' : List Int} {a e : Int} (hl : 0 ≤ g.lag) (hae : a ≤ e) (h : ∀ r ∈ la, e ≤ r.m)
    (p1 : cs.Perm (a :: (chg g (la ++ kn)).filter fun m => decide (a < m) && decide (m < e))) (s1 : cs.Pairwise (· ≤ ·))
    (p2 : cs'.Perm (a :: (chg g kn).filter fun m => decide (a < m) && decide (m < e))) (s2 : cs'.Pairwise (· ≤ ·)) :
    standsP (standG g (la ++ kn)) cs e = standsP (standG g kn) cs' e := by
  have hf : (chg g (la ++ kn)).filter (fun m => decide (a < m) && decide (m < e)) = (chg g kn).filter fun m => decide (a < m) && decide (m < e) := by
    unfold chg
    rw [List.map_append, List.filter_append, List.filter_eq_nil_iff.mpr, List.nil_append]
    intro z hz hz2
    obtain ⟨r, hr, rfl⟩ := List.mem_map.mp hz
    rw [Bool.and_eq_true, decide_eq_true_eq, decide_eq_true_eq] at hz2
    have := h r hr
    split at hz2 <;> omega
  rw [hf] at p1
  have e0 := perm_le_eq (p1.trans p2.symm) s1 s2
  subst e0
  unfold standsP pcFold
  rw [pcFold_st (e := e) fun m hm => standG_later hl fun r hr => by have := h r hr; omega]
  intro p hp
  have hmem : ∀ z ∈ cs, z ≤ e := fun z hz => by
    rcases List.mem_cons.mp (p2.mem_iff.mp hz) with rfl | hz
    · exact hae
    · have := (List.mem_filter.mp hz).2
      rw [Bool.and_eq_true, decide_eq_true_eq, decide_eq_true_eq] at this
      omega
  unfold nexts at hp
  have := (List.of_mem_zip hp).2
  rcases List.mem_append.mp this with z | z
  · exact hmem _ (List.mem_of_mem_drop z)
  · rw [List.mem_singleton] at z; omega
/-! ### == of lists of (a stretch, a word) -/
section
def DPc (C : Addr) : EqvB := fun x y b H => DInsB C (RStr C) x y b H ∨ DStrB x y b H
theorem monPc0 {C : Addr} : MonB (DPc C) := fun x y b H H' e d => d.imp (monStretch _ _ _ _ _ e) (monB_str _ _ _ _ _ e)
theorem selfPc0 {C : Addr} : SelfB (DPc C) := fun x b H d => d.elim (fun d => by
  obtain ⟨a, c, _, _, _, _, rfl, hy, _, _, r⟩ := d
  cases hy
  exact selfStretch a b H r) (selfB_str x b H)
theorem monPc {C : Addr} : MonB (DTupB (DPc C)) := monB_tup monPc0
theorem dqB_pc {X : Cx} {n : Nat} {C : Addr} (h : DqB X n (DInsB C (RStr C))) : DqB X (n + 1) (DTupB (DPc C)) := dqB_tup monPc0 selfPc0 (h.or dqB_str)
/-- pieces alike are equal -/
theorem pc_eq {C : Addr} {H : Hp} {x y : V} {p : Pc} (h1 : PcAt C H x p) (h2 : PcAt C H y p) : DTupB (DPc C) x y true H := by
  obtain ⟨t, z, rfl, et, hz⟩ := h1
  obtain ⟨t', z', rfl, et', hz'⟩ := h2
  obtain ⟨dx, ez⟩ := id hz
  obtain ⟨dy, ez'⟩ := id hz'
  refine ⟨t, t', _, _, rfl, rfl, et, et', 2, Nat.le_refl _, rfl, fun i x y hx hy hi => ?_⟩
  match i, hx, hy with
  | 0, hx, hy =>
    cases hx; cases hy
    exact .inl ⟨z, z', dx, dy, _, _, rfl, rfl, ez, ez', p.a, p.b, p.a, p.b, hz, hz', by rw [decide_eq_true rfl, decide_eq_true rfl]; rfl⟩
  | 1, hx, hy =>
    cases hx; cases hy
    exact .inr ⟨p.w, p.w, rfl, rfl, (decide_eq_true rfl).symm⟩
  | n + 2, hx, hy => cases hx
theorem pcs_eq {C : Addr} {H : Hp} {p q : Addr} {xs ys : List V} {L : List Pc} (hp : H p = some (.lst xs)) (hq : H q = some (.lst ys)) (h1 : Paired (PcAt C H) xs L) (h2 : Paired (PcAt C H) ys L) : DListB (DTupB (DPc C)) (.ref p) (.ref q) true H := by
  have l1 := Paired.length h1
  have l2 := Paired.length h2
  refine ⟨p, q, xs, ys, rfl, rfl, hp, hq, .inr ⟨by omega, xs.length, Nat.le_refl _, (decide_eq_true rfl).symm, fun i x y hx hy hi => ?_⟩⟩
  have hlt : i < xs.length := (List.getElem?_eq_some_iff.mp hx).1
  obtain ⟨o, e1, o1⟩ := paired_at h1 hx
  obtain ⟨o', e2, o2⟩ := paired_at h2 hy
  rw [e1] at e2
  cases e2
  rw [decide_eq_true hlt]
  exact pc_eq o1 o2
end
theorem strs_shaped (ws : List Str) (h : ∀ z ∈ ws, PyData.strOk z = true) : SeqAt.shaped (.list (ws.map PyData.str)) = true := by
  have h1 : PyData.canLayAll0 (ws.map PyData.str) = true := by
    induction ws with
    | nil => rfl
    | cons z r ih => simp [PyData.canLayAll0, PyData.canLay0, h z List.mem_cons_self, ih fun y hy => h y (List.mem_cons_of_mem _ hy)]
  have h2 : PyData.depthAll (ws.map PyData.str) ≤ 1 := by
    clear h h1
    induction ws with
    | nil => simp [PyData.depthAll]
    | cons z r ih =>
      simp only [List.map_cons, PyData.depthAll, PyData.depth]
      omega
  have h3 : PyData.depth (.list (ws.map PyData.str)) ≤ 64 := by simp only [PyData.depth]; omega
  show (PyData.canLay0 (.list (ws.map PyData.str)) && decide (PyData.depth (.list (ws.map PyData.str)) ≤ 64)) = true
  rw [decide_eq_true h3, Bool.and_true]
  exact h1
theorem strs_dp {K : PySem.W.Frag} {H : Hp} : ∀ ws : List Str, DpAll K H (ws.map V.str) (ws.map PyData.str)
  | [] => .nil
  | _ :: r => .cons (.str _) (strs_dp r)
theorem standG_ok (g : Gg) (rs : List Rd) (m : Int) : PyData.strOk (standG g rs m) = true := by
  unfold standG standS
  split
  · decide +kernel
  · split
    · decide +kernel
    · split <;> decide +kernel
theorem mkGg {C : Addr} {H : Hp} (g : Gg) {Q : VK} {E : XK} {gV : List V → List V → List V} {vs zs : List V} (q : ∀ x H', H x = none → GgAt C H' x g → Same H H' → Q (.ref x) H')
    (hv : ∀ x, gV (V.ref x :: vs) zs = [.ref x, .int g.lag, .int g.high, .int g.top, .int g.thin, .int g.thick] := by intros; rfl) : rMkN C (spGInit C) gV E vs zs H Q := fun x dx hx hdx ne => by
  rw [hv]
  exact ⟨x, dx, g, rfl, upd_same, fun H' hg k => ⟨rfl, q x H' hx hg (made_same hx hdx k)⟩⟩
theorem mkGg0 {C : Addr} {H : Hp} (g : Gg) {Q : VK} {E : XK} {dvs vs : List V} (q : ∀ x H', H x = none → GgAt C H' x g → Same H H' → Q (.ref x) H')
    (hv : ∀ x, V.ref x :: (vs ++ dvs) = [.ref x, .int g.lag, .int g.high, .int g.top, .int g.thin, .int g.thick] := by intros; rfl) : rMk C (spGInit C) dvs E vs H Q := fun x dx hx hdx ne => by
  rw [hv]
  exact ⟨x, dx, g, rfl, upd_same, fun H' hg k => ⟨rfl, q x H' hx hg (made_same hx hdx k)⟩⟩
/-! ### repr of a list whose things are told by defs of one's own: tuples of own objects and texts -/
set_option maxHeartbeats 8000000
section
open PySem.Builtin PySem.Builtin.List
variable {X : Cx}
theorem rv_at : ∀ {vs : List V} {us : List Value} {i : Nat} {v : V}, Vals vs us → vs[i]? = some v → ∃ u, us[i]? = some u ∧ RelV v u
  | _, _, _, _, .nil, e => by cases e
  | _, _, 0, _, .cons a _, e => by cases e; exact ⟨_, rfl, a⟩
  | _, _, i + 1, _, .cons _ r, e => rv_at (i := i) r e
theorem weight_list_loop (args : Args) : (Code.builtin "list.__repr__.loop" args).weight = 1 := by
  first | rfl | simp [Code.weight, Code.isCreation, Code.isGuard, Code.isCaller, Code.frames, Code.isFrame, guardIds]
theorem weight_tuple_under (args : Args) : (Code.builtin "tuple.__repr__.under" args).weight = 1 := by
  first | rfl | simp [Code.weight, Code.isCreation, Code.isGuard, Code.isCaller, Code.frames, Code.isFrame, guardIds]
theorem frames_builtin {A : Around} {id : String} {args : Args} (h : (Code.builtin id args).envs = [] := by rfl) : (A.under (.builtin id args)).frames = A.frames := by
  show pushEnvs (Code.builtin id args).envs A.frames = A.frames
  rw [h]; rfl
theorem room_grd {k : Nat} {A : Around} {c : Code} (r : Room (k + 1) A) (hw : c.weight = 1) (hu : (A.under c).units = A.units + 1) : Room k (A.under c) :=
  ⟨r.hd, by have := r.dp; show A.depth + c.weight + 3 * k + 5 < _; rw [hw]; omega, by have := r.un; rw [hu]; omega⟩
/-- v's text, asked within a repr under way, n places of room, none of as under way -/
def ShV (X : Cx) (n : Nat) (as : List Addr) (H : Hp) (v : V) (t : Str) : Prop :=
  ∀ (A : Around) (g : List Code) (pins : List (Addr × Obj)) (σ : L2.St) (s : Shared) (b : Nat) (u : Value) (E : Value → Shared → Prop) (Q : Str → Shared → Prop), Room n A → A.frames = some X.stack → A.guards = some g → (∀ a ∈ as, Clear g a) → L2.Inv X pins σ H s → RelV v u → b + t.length ≤ sizeLine →
    (∀ s2, Gone X H s H s2 → Q t s2) → wpAny (model X.prog X.w) A (pyReprUnder b u) Q E s
theorem ShV.mono {n m : Nat} {as bs : List Addr} {H : Hp} {v : V} {t : Str} (h : ShV X n as H v t) (hn : n ≤ m) (hs : ∀ a ∈ as, a ∈ bs) : ShV X m bs H v t :=
  fun A g pins σ s b u E Q hr hf hg hc => h A g pins σ s b u E Q (hr.mono hn) hf hg fun a ha => hc a (hs a ha)
theorem ShV.str {H : Hp} (x : Str) (hx : (reprText x).length ≤ sizeLine) : ShV X 0 [] H (.str x) (reprText x) := by
  intro A g pins σ s b u E Q hr hf hg hc I ru hb q
  obtain ⟨t, rfl⟩ := (show ∃ t, u = Value.str x t from ru)
  exact ReprIs.str x t hx b hb A E s Q fun tk => q _ ((Gone.refl I).kept (t := tk) fun _ _ e => e)
section
variable {CX : CXT} {C f a dx : Addr} {n : Nat} {fd : FuncData} {ps : List Str} {sp : Sp} {H : Hp} {fs : List (Str × V)} {t : Str}
/-- an own object, by its own __repr__ -/
theorem ShV.own (hs : PySem.W.findIn X.K (.ref C) "__repr__" = some (some (.ref f))) (hf : PySem.W.isFn X.K (.ref f) = true) (F : FnOk X.prog X.w X.K X.mg X.base CX0 n f fd ps sp) (hb : L2.Binds X.K fd ps []) (ha : H a = some (.ins C dx fs))
    (q : sp [.ref a] H (fun v H' => v = .str t ∧ H' = H) E0) : ShV X n [] H (.ref a) t := by
  intro A g pins σ s b u E Q hr hfr hg hc I ru hbt qq
  cases (show u = Value.ref a from ru)
  obtain ⟨od, J⟩ := inst_of I ha
  have KI := I.kIn
  refine wpAny_pyReprUnder_ref (by omega) ?_
  unfold pyReprObjUnder pyReprObjBy
  refine wpAny_bind (wpAny_cRoomFor hr.units0 ?_)
  refine wpAny_bind (wpAny_bind (J.type.here ((looks_findIn KI hs).here ?_)))
  show wpAny _ _ (if (some (Value.ref f)).isNone = true then _ else _) _ _ _
  rw [if_neg (by simp)]
  have call1 : wpAny (model X.prog X.w) A (call (.ref f) [.ref a]) (fun v s' => ∃ tk, v = .str t tk ∧ Gone X H s H s') E s := by
    have e1 : Env0 X.prog X.w X.K X.mg X.base A X.stack s H := { I.env0 with frames := hfr }
    have bd := hb s [.ref a] KI (F.len _ _ _ _ q)
    rw [List.append_nil] at bd
    refine wpAny_call (codeAny_mono (F.run A X.stack s H ⟨[.ref a], []⟩ [.ref a] [.ref a] _ E0 hr e1 bd (.cons rfl .nil) q) fun r s' hz => ?_)
    match r, hz with
    | .error er, hz => exact (show False from hz).elim
    | .ok (.ret v), hz =>
      obtain ⟨y, H', g2, ry, rfl, rfl⟩ := CE.gone hz
      obtain ⟨tk, rfl⟩ := (show ∃ tk, v = Value.str t tk from ry)
      exact ⟨tk, rfl, g2⟩
    | .ok .next, hz => exact (show False from hz).elim
    | .ok .brk, hz => exact (show False from hz).elim
    | .ok .cont, hz => exact (show False from hz).elim
  refine wpAny_bind ?_
  simp only [callSpecialIfBoundBy?, bindSpecialIfBound?]
  refine wpAny_holding (wpAny_bind (wpAny_bind (wpAny_bind (J.type.here ((looks_findIn KI hs).here ?_)))))
  have fin : ∀ {R : Option Value → Shared → Prop}, (∀ tk s', Gone X H s H s' → R (some (.str t tk)) s') → wpAny (model X.prog X.w) A (call (.ref f) [.ref a] >>= fun v => pure (some v)) R E s := fun hR =>
    wpAny_bind (wpAny_mono call1 (fun v s' hv => by obtain ⟨tk, rfl, g2⟩ := hv; exact wpAny_pure (hR tk s' g2)) fun _ _ z => z)
  have tail : ∀ tk s', Gone X H s H s' → wpAny (model X.prog X.w) A (isInstance (.str t tk) (.type "str") >>= fun c => if c = true then pure (Value.str t tk) else do raiseError "TypeError" s!"__repr__ returned non-string (type {← typeNameOf (.str t tk)})") (fun v s' => ∃ x u, v = .str x u ∧ Q x s') E s' := fun tk s' g2 =>
    wpAny_bind (wpAny_isInstance (T := "str") (b := true) rfl isSubtype_str_str (wpAny_pure ⟨t, tk, rfl, qq s' g2⟩))
  refine wpAny_bind (wpAny_askSetting (wpAny_ite ?_))
  split
  · refine wpAny_bind ((PySem.W.bind_fn KI _ (beq_iff_eq.mp hf)).here (wpAny_pure ?_))
    exact fin fun tk s' g2 => tail tk s' g2
  · refine wpAny_tryCatch (wpAny_bind ((PySem.W.bind_fn KI _ (beq_iff_eq.mp hf)).here (wpAny_pure ?_)))
    exact fin fun tk s' g2 => tail tk s' g2
end
section
variable {a P : Addr} {xs : List V} {ts : List Str} {n base : Nat} {as : List Addr} {g : List Code} {A : Around} {H : Hp} {R : Result → Shared → Prop} {pins : List (Addr × Obj)} {σ : L2.St} {s0 : Shared}
theorem sh_loop (ha : H a = some (.lst xs)) (hT : ∀ (i : Nat) (v : V), xs[i]? = some v → ∃ t, ts[i]? = some t ∧ ShV X n as H v t) (hlen : ts.length = xs.length) (hsz : base + (listText ts).length ≤ sizeLine)
    (I0 : L2.Inv X pins σ H s0) (hP : s0.heap.objs.size ≤ P) (hna : a ∉ as) (hg : A.guards = some g) (hcl : ∀ b ∈ as, Clear g b) (hr : Room (n + 1) A) (hfr : A.frames = some X.stack) (hR : ∀ u s2, Gone X H s0 H s2 → R (.ok (.ret (.str (listText ts) u))) s2) :
    ∀ (k i : Nat) (s : Shared) (acc : Array Value) (c : Nat) (done : List (Str × Tok)), xs.length - i = k → i ≤ xs.length → Gone X H s0 H s → s.heap.get? P = some { cls := .type "list", dict := none, data := .seq acc c, slots := #[] } → acc.toList = strValues done → done.map (·.1) = ts.take i →
    codeAny (model X.prog X.w) A (.builtin "list.__repr__.loop" ⟨[.ref a, rawInt i, .ref P, rawInt ((base + piled (ts.take i) : Nat) : Int)], []⟩) R s := by
  have hX : (listText ts).length = (textFrom 0 "[" ts).length + 1 := by
    show (textFrom 0 "[" ts ++ "]").length = _
    rw [strLen_append]; rfl
  have hL := textFrom_len ts 0 "["
  have hsz1 : xs.length ≤ sizeLine := by
    have h1 := hL.1
    rw [if_neg (Nat.lt_irrefl 0)] at h1
    omega
  have hsz2 : ∀ t ∈ ts, t.length ≤ sizeLine := fun t ht => by
    have h2 := hL.2.1 t ht
    omega
  have hsz3 : (listText ts).length ≤ sizeLine := by omega
  have hp3 := piled_le_listText ts
  have nP := I0.hok.fresh hP
  have sP := nostk I0 hP
  intro k
  induction k with
  | zero =>
    intro i s acc c done hk hi gs eP hacc hdone
    have hin : i = xs.length := by omega
    obtain ⟨_, its, m, rv, e⟩ := (gs.inv I0).hok a _ ha
    have hil := rv.length
    refine codeAny_builtin F.entry_list_repr_loop ?_
    show wpAny _ _ («list.__repr__.loop» ⟨[.ref a, .int i 0, .ref P, .int ((base + piled (ts.take i) : Nat) : Int) 0], []⟩) _ _ s
    rw [repr_loop_tree]
    refine wpAny_bind (wpAny_listItems e rfl ?_)
    have hnone : its.toArray[(i : Int).toNat]? = none := by simp [hin, ← hil]
    simp only [hnone]
    unfold reprEnd
    refine wpAny_bind (wpAny_listItems eP rfl ?_)
    rw [hacc, repr_fold]
    refine wpAny_bind (wpAny_pure ?_)
    have hall : done.map (·.1) = ts := by rw [hdone, hin, ← hlen, List.take_length]
    rw [hall]
    refine wpAny_bind (wpAny_mkStr (wpAny_pure ?_) hsz3)
    exact hR _ _ (gs.kept (t := s.toks + 1) fun _ _ z => z)
  | succ k ih =>
    intro i s acc c done hk hi gs eP hacc hdone
    have hlt : i < xs.length := by omega
    have I := gs.inv I0
    obtain ⟨_, its, m, rv, e⟩ := I.hok a _ ha
    have hil := rv.length
    obtain ⟨t, ht, hrep⟩ := hT i xs[i] (List.getElem?_eq_getElem hlt)
    have hp1 := piled_take_succ ht
    have hp2 := piled_take_le ts (i + 1)
    obtain ⟨u, eu, ru⟩ := rv_at rv (List.getElem?_eq_getElem hlt)
    refine codeAny_builtin F.entry_list_repr_loop ?_
    show wpAny _ _ («list.__repr__.loop» ⟨[.ref a, .int i 0, .ref P, .int ((base + piled (ts.take i) : Nat) : Int) 0], []⟩) _ _ s
    rw [repr_loop_tree]
    refine wpAny_bind (wpAny_listItems e rfl ?_)
    have hsome : its.toArray[(i : Int).toNat]? = some u := by simpa using eu
    simp only [hsome]
    rw [Int.toNat_natCast]
    refine wpAny_bind (wpAny_holding (hrep _ _ pins σ s (base + piled (ts.take i) + 1) u _ _ (room_grd hr (weight_list_loop _) (units_under_list_loop _ _)) (by rw [frames_builtin]; exact hfr) (guards_under_guard (isGuard_list_loop _) hg) (fun b hb => (hcl b hb).cons (a := a) fun z => hna (z ▸ hb)) I ru (by omega) fun s2 g2 => ?_))
    have eP2 := g2.un.keep P _ eP nP sP (by simp)
    refine wpAny_bind (wpAny_mkStr ?_ (hsz2 t (List.mem_of_getElem? ht)))
    refine wpAny_bind ?_
    show wpAny _ _ (updateSeq P _) _ _ _
    have hasz : acc.size ≤ sizeLine := by
      have e1 : acc.toList.length = acc.size := by simp
      have e2 : (strValues done).length = done.length := by simp [strValues]
      have e3 : done.length = (ts.take i).length := by rw [← hdone, List.length_map]
      have e4 : (ts.take i).length ≤ i := by rw [List.length_take]; omega
      rw [hacc] at e1; omega
    refine wpAny_updateSeq eP2 rfl (wpAny_pure ⟨F.quiet_list_repr_loop _, ?_⟩) hasz
    have e1 : ((i : Int) + 1) = ((i + 1 : Nat) : Int) := by omega
    have e2 : base + piled (ts.take i) + (t.length + 2) = base + piled (ts.take (i + 1)) := by omega
    rw [e1, e2]
    exact ih (i + 1) _ (acc.push (.str t s2.toks)) _ (done ++ [(t, s2.toks)]) (by omega) hlt ((gs.on g2).poke (t := s2.toks + 1) hP nP fun b o nb z => (Heap.get?_update_other _ _ (fun h : P = b => nb h.symm)).trans z) (Heap.get?_update_self _ eP2 rfl) (by simp [hacc, strValues]) (by simp [List.take_add_one, ht, hdone])
/-- what repr(xs) is called with -/
theorem sh_list (gd : X.A.guards = some []) (hr : Room (n + 3) X.A) {E : Value → Shared → Prop} {Q : Value → Shared → Prop} (I : L2.Inv X pins σ H s0) (ha : H a = some (.lst xs)) (hT : ∀ (i : Nat) (v : V), xs[i]? = some v → ∃ t, ts[i]? = some t ∧ ShV X n as H v t) (hlen : ts.length = xs.length) (hsz : (listText ts).length ≤ sizeLine) (hna : a ∉ as)
    (q : ∀ u s2, Gone X H s0 H s2 → Q (.str (listText ts) u) s2) : wpAny (model X.prog X.w) X.A (call (.builtin "repr") [.ref a]) Q E s0 := by
  obtain ⟨_, its, m, rv, e⟩ := I.hok a _ ha
  have hTy : s0.TypeIs (.ref a) "list" := ⟨_, e, rfl⟩
  have un := hr.un
  have hr1 : Room (n + 1) X.A.in1 := Room.mono (j := n + 1) (k := n + 2) hr.in1 (by omega)
  refine call_repr_slot (by omega) hTy F.slot_list_repr.toG ?_
  cases its with
  | nil =>
    cases rv
    have : ts = [] := List.length_eq_zero_iff.mp hlen
    subst this
    refine call_list_repr_empty hTy e rfl ?_
    exact ⟨_, _, rfl, q _ _ ((Gone.refl I).kept (t := s0.toks + 1) fun _ _ z => z)⟩
  | cons x l =>
    refine wpAny_call (codeAny_call_builtin F.slot_list_repr.plain F.entry_list_repr (F.slot_list_repr.check _ _ _ _ _ _ _ _ hTy (F.args_list_repr_1 _) ?_))
    refine wpAny_list_repr_head (A := X.A.in1.in1) (g := []) gd (fun v rest kw hm => by cases hm) e rfl ?_
    refine wpAny_bind (m := newList []) (wpAny_newObj_type ?_)
    refine wpAny_pure ⟨F.quiet_list_repr_loop _, ?_⟩
    exact sh_loop (A := X.A.in1) (P := s0.heap.objs.size) (base := 0) (R := fun r s' => match r with | .ok (.ret v) => ∃ x t, v = .str x t ∧ Q v s' | .ok _ => False | .error e => E e s') ha hT hlen (by omega) I (Nat.le_refl _) hna gd (fun b hb => Clear.nil b) hr1 I.ok.frames (fun u s2 g2 => ⟨_, _, rfl, q u s2 g2⟩) _ 0 _ #[] _ [] rfl (Nat.zero_le _) ((Gone.refl I).kept (t := s0.toks) fun b o z => Heap.get?_push_of_some _ z) (Heap.get?_push_size _ rfl) rfl (by simp)
end
section
variable {n : Nat} {as : List Addr} {g : List Code} {A : Around} {H : Hp} {pins : List (Addr × Obj)} {σ : L2.St} {E : Value → Shared → Prop}
/-- things with their texts -/
inductive ShAll (X : Cx) (n : Nat) (as : List Addr) (H : Hp) : List V → List Str → Prop
  | nil : ShAll X n as H [] []
  | cons {v : V} {t : Str} {vs : List V} {ts : List Str} : ShV X n as H v t → ShAll X n as H vs ts → ShAll X n as H (v :: vs) (t :: ts)
theorem ShAll.len : ∀ {vs : List V} {ts : List Str}, ShAll X n as H vs ts → ts.length = vs.length
  | _, _, .nil => rfl
  | _, _, .cons _ h => by rw [List.length_cons, List.length_cons, h.len]
theorem sh_fold (hg : A.guards = some g) (hcl : ∀ b ∈ as, Clear g b) (hr : Room n A) (hfr : A.frames = some X.stack) : ∀ (us : List Value) (vs : List V) (ts : List Str) (acc : Array Str) (m : Nat) (s : Shared) (Q : (Array Str × Nat) → Shared → Prop), ShAll X n as H vs ts → Vals vs us → m + piled ts ≤ sizeLine →
    L2.Inv X pins σ H s → (∀ s2, Gone X H s H s2 → Q ⟨acc ++ ts.toArray, m + piled ts⟩ s2) → wpAny (model X.prog X.w) A (forIn us (⟨acc, m⟩ : (Array Str × Nat)) tupBody) Q E s := by
  intro us
  induction us with
  | nil =>
    intro vs ts acc m s Q hT hv _ I q
    cases hv
    cases hT
    have h0 := q s (Gone.refl I)
    simp only [List.forIn_nil]
    exact wpAny_pure (by simpa [piled] using h0)
  | cons u us ih =>
    intro vs ts acc m s Q hT hv hn I q
    cases hv with
    | cons ru hv =>
      cases hT with
      | cons hx hl =>
        rename_i t ts'
        rw [piled_cons] at hn
        rw [List.forIn_cons]
        refine wpAny_bind (wpAny_bind (hx _ _ pins σ s (m + 1) u _ _ hr hfr hg hcl I ru (by omega) fun s2 g2 => wpAny_pure ?_))
        refine ih _ ts' (acc.push t) (m + (t.length + 2)) s2 Q hl hv (by omega) (g2.inv I) fun s3 g3 => ?_
        have h1 := q s3 (g2.on g3)
        have e : m + piled (t :: ts') = m + (t.length + 2) + piled ts' := by rw [piled_cons]; omega
        rw [e] at h1
        simpa using h1
theorem ShV.tup {a : Addr} {xs : List V} {ts : List Str} (ha : H a = some (.tup xs)) (hT : ShAll X n as H xs ts) (hna : a ∉ as) : ShV X (n + 1) (a :: as) H (.ref a) (tupleText ts) := by
  intro A g pins σ s b u E Q hr hfr hg hcl I ru hbt qq
  cases (show u = Value.ref a from ru)
  obtain ⟨_, its, rv, o, e, hc, m, hd⟩ := I.hok a _ ha
  have hTy : s.TypeIs (.ref a) "tuple" := ⟨o, e, hc⟩
  have hlen := hT.len
  have hil := rv.length
  have hp := piled_le_tupleText ts
  have un := hr.un
  have hca : Clear g a := hcl a (.head _)
  refine wpAny_pyReprUnder_ref (by omega) (wpAny_pyReprObjUnder_twin (twin := "tuple.__repr__.under") hTy F.slot_tuple_repr rfl (by omega) ?_)
  refine call_twin_own (F.quiet_tuple_repr_under _) F.entry_tuple_repr_under F.check_tuple_repr_under hTy F.slot_tuple_repr (F.args_tuple_repr_1 _) ?_
  rw [tuple_repr_tree, tupleReprUnderWay_eq]
  refine wpOwn_bind (wpOwn_stackTailAny hg (tupGuardF_off _) (tupGuardF_pos _) ?_)
  have hn : (g.any fun c => tupGuardF (.ref a) (c, default)) = false := by
    rw [List.any_eq_false]
    intro c hcm
    rw [tupGuardF_of_clear hca c hcm]
    exact Bool.false_ne_true
  rw [hn]
  refine wpOwn_of_wpAny ?_
  show wpAny _ _ (tupleReprRest b (.ref a)) _ _ s
  unfold tupleReprRest Builtin.Tuple.tupleItemsOf
  refine wpAny_bind (wpAny_bind (wpAny_seqItems e hd (wpAny_pure ?_)))
  rw [← Array.forIn_toList]
  refine wpAny_bind (sh_fold (guards_under_guard (isGuard_tuple_repr_under _) hg) (fun c hc => (hcl c (.tail _ hc)).cons (a := a) fun z => hna (z ▸ hc)) (room_grd hr (weight_tuple_under _) (units_under_tuple_repr_under _ _)) (by rw [frames_builtin]; exact hfr) its xs ts _ _ s _ hT rv (by omega) I fun s2 g2 => ?_)
  have hz : its.length = ts.length := by omega
  refine wpAny_bind (wpAny_mkStr (wpAny_pure ?_) (by simp [hz]; simpa [tupleText] using (show (tupleText ts).length ≤ sizeLine by omega)))
  have h1 := qq _ (g2.kept (t := s2.toks + 1) fun _ _ z => z)
  exact ⟨⟨tupleText ts, s2.toks, by simp [tupleText, hz]⟩, ⟨tupleText ts, s2.toks, by simp [tupleText, hz], h1⟩⟩
end
end
set_option maxHeartbeats 8000000
local macro_rules | `(tactic| walk_at "c") => `(tactic| first | omega | decide | exact ⟨by omega, by omega⟩ | exact ⟨by decide, by decide⟩ | exact .inl ⟨by omega, by omega⟩ | exact .inr ⟨by omega, by omega⟩ | exact ⟨by omega, by omega, by omega⟩ | exact ⟨by decide, by decide, by decide⟩ | exact le_line (Nat.le_of_ble_eq_true rfl))
local macro_rules | `(tactic| walk_at "a") => `(tactic| with_reducible (first | refine i_seq ?_ | refine i_asg ?_ | refine i_cons ?_ | refine i_c ?_ | refine i_nil ?_ | refine i_op ?_ | refine i_call ?_ | refine i_cb ?_ | refine i_name ?_ | refine i_next ?_ | refine i_ret ?_ | refine i_drop ?_ | refine i_if ?_ | refine i_test ?_ | refine i_and ?_ | refine i_or ?_ | refine i_not ?_ | refine i_ite ?_ | refine i_lst ?_ | refine i_tup ?_ | refine i_bm ?_ | refine i_un ?_ | refine i_par ?_ | refine i_gsub ?_ | refine i_chain ?_ | refine i_sl ?_ | refine i_nopart ?_ | refine i_part ?_ | refine i_m1 ?_ | refine i_m0 ?_ | refine i_lc ?_ | refine i_iList ?_ | refine i_iTup ?_ | refine i_iStr ?_ | refine i_r1 ?_ | refine i_set ?_ | refine i_callk ?_ | refine i_callN ?_ | refine i_ckw ?_ | refine i_revL ?_ | refine i_tB ?_ | refine i_fld ?_ | refine i_sfld ?_ | refine i_make ?_ | refine i_makeN ?_ | refine i_meth ?_ | refine i_andV ?_ | refine i_orV ?_ | refine i_notV ?_ | refine iteT ?_ | refine iteF ?_ | refine i_yes ?_))
local macro_rules | `(tactic| walk_at "s") => `(tactic| repeat (first | walk_at "a" | refine i_var rfl ?_ | refine i_aug rfl ?_ | refine And.intro ⟨_, rfl⟩ ?_ | refine ⟨_, rfl, ?_⟩ | refine ⟨_, _, rfl, rfl, ?_⟩ | refine ⟨_, _, rfl, ?_⟩ | refine ⟨rfl, ?_⟩ | refine And.intro (by walk_at "c") ?_))
/-! ### repr of a list of (Stretch, word) -/
def srI (a b : Int) : Str := ((((Str.empty ++ "Stretch(") ++ Str.ofString (toString a)) ++ ", ") ++ Str.ofString (toString b)) ++ ")"
theorem numI_len {b : Int} (h0 : 0 ≤ b) (h1 : b < 14400000000) : (Str.ofString (toString b)).length ≤ 11 := toString_length_le h0 (by decide) (by omega)
theorem srI_len {a b : Int} (ha : 0 ≤ a ∧ a < 14400000000) (hb : 0 ≤ b ∧ b < 14400000000) : (srI a b).length ≤ 33 := by
  have la := numI_len ha.1 ha.2
  have lb := numI_len hb.1 hb.2
  unfold srI
  rw [Str.length_append, Str.length_append, Str.length_append, Str.length_append, Str.length_append]
  show 0 + 8 + _ + 2 + _ + 1 ≤ 33
  omega
theorem log_small {i : Int} (h : i.natAbs < 2 ^ 64) : i.natAbs.log2 < 1920 := by
  by_cases z : i.natAbs = 0
  · rw [z]; decide
  · have := (Nat.log2_lt z).mpr (Nat.lt_of_lt_of_le h (Nat.pow_le_pow_right (by decide) (by decide : 64 ≤ 1920)))
    exact this
def spSReprI (C : Addr) : Sp := fun vs H Q _ => ∃ (p : Addr) (a b : Int), vs = [.ref p] ∧ StrAt C H p a b ∧ (0 ≤ a ∧ a < 14400000000) ∧ (0 ≤ b ∧ b < 14400000000) ∧ Q (.str (srI a b)) H
def pcText (p : Pc) : Str := tupleText [srI p.a p.b, reprText p.w]
def pcsText (L : List Pc) : Str := listText (L.map pcText)
theorem tup2_len (x y : Str) : (tupleText [x, y]).length = x.length + y.length + 4 := by
  have h := join_length_add [x, y] (by simp)
  unfold tupleText
  rw [strLen_append, strLen_append]
  have e1 : ((("(" : String) : Str)).length = 1 := rfl
  have e2 : (((if ([x, y] : List Str).length == 1 then ",)" else ")" : String) : Str)).length = 1 := rfl
  have e3 : piled [x, y] = x.length + 2 + (y.length + 2) := by simp [piled]
  omega
theorem listText_le (ts : List Str) : (listText ts).length ≤ piled ts + 2 := by
  cases ts with
  | nil => rw [show listText [] = ("[]" : Str) from by decide +kernel]; decide
  | cons t r =>
    have h := textFrom_length_pos r 1 (("[" : Str) ++ (if (0 : Nat) > 0 then ", " else "" : String) ++ t) (Nat.succ_pos 0)
    have e : ((("[" : Str) ++ (if (0 : Nat) > 0 then ", " else "" : String) ++ t)).length = 1 + t.length := by
      rw [strLen_append, strLen_append]; rfl
    have hX : (listText (t :: r)).length = (textFrom 0 "[" (t :: r)).length + 1 := by
      show (textFrom 0 "[" (t :: r) ++ "]").length = _
      rw [strLen_append]; rfl
    have hY : (textFrom 0 "[" (t :: r)).length = (textFrom 1 (("[" : Str) ++ (if (0 : Nat) > 0 then ", " else "" : String) ++ t) r).length := rfl
    rw [hX, hY, h, e, piled_cons]; omega
theorem piled_bd {n : Nat} : ∀ (ts : List Str), (∀ t ∈ ts, t.length ≤ n) → piled ts ≤ (n + 2) * ts.length
  | [], _ => by simp [piled]
  | t :: r, h => by
    have h1 := piled_bd r fun x hx => h x (List.mem_cons_of_mem _ hx)
    have h2 := h t List.mem_cons_self
    rw [piled_cons, List.length_cons, Nat.mul_succ]
    omega
/-- as repr needs it -/
def PcSm (L : List Pc) : Prop := L.length ≤ 1010 ∧ ∀ p ∈ L, (0 ≤ p.a ∧ p.a < 14400000000) ∧ (0 ≤ p.b ∧ p.b < 14400000000) ∧ (reprText p.w).length ≤ 10
theorem pcText_len {p : Pc} (h : (0 ≤ p.a ∧ p.a < 14400000000) ∧ (0 ≤ p.b ∧ p.b < 14400000000) ∧ (reprText p.w).length ≤ 10) : (pcText p).length ≤ 50 := by
  have := srI_len h.1 h.2.1
  unfold pcText
  rw [tup2_len]
  omega
theorem pcsText_len {L : List Pc} (h : PcSm L) : (pcsText L).length ≤ sizeLine := by
  have h1 := listText_le (L.map pcText)
  have h2 := piled_bd (n := 50) (L.map pcText) fun t ht => by
    obtain ⟨p, hp, rfl⟩ := List.mem_map.mp ht
    exact pcText_len (h.2 p hp)
  rw [List.length_map] at h2
  have := h.1
  unfold pcsText
  exact le_line (by omega)
def rReprPc (C : Addr) : List V → Hp → VK → Prop := fun vs H Q => ∃ (q : Addr) (ys : List V) (L : List Pc), vs = [.ref q] ∧ H q = some (.lst ys) ∧ Paired (PcAt C H) ys L ∧ PcSm L ∧ Q (.str (pcsText L)) H
def refsOf (ys : List V) : List Addr := ys.filterMap fun v => match v with | .ref t => some t | _ => none
theorem call_reprPc {X : Cx} {C f : Addr} {fd : FuncData} {ps : List Str} {k : Nat} (hs : PySem.W.findIn X.K (.ref C) "__repr__" = some (some (.ref f))) (hf : PySem.W.isFn X.K (.ref f) = true) (F : FnOk X.prog X.w X.K X.mg X.base CX0 1 f fd ps (spSReprI C)) (hb : L2.Binds X.K fd ps [])
    (gd : X.A.guards = some []) (hr : Room (k + 5) X.A) : CallR X (.builtin "repr") (rReprPc C) := by
  intro pins s σ H vs us Q I r h
  obtain ⟨q, ys, L, rfl, hq, hp, hsm, qq⟩ := h
  obtain ⟨u, rfl, ru⟩ := Vals.one r
  cases (show u = Value.ref q from ru)
  have hpl := Paired.length hp
  refine sh_list (n := 2) (as := refsOf ys) (ts := L.map pcText) gd (hr.mono (by omega)) I hq (fun i v hv => ?_) (by rw [List.length_map, hpl]) (pcsText_len hsm) (fun hm => ?_) fun tk s2 g2 => ⟨.str (pcsText L), H, g2.inv I, ⟨tk, rfl⟩, qq⟩
  · obtain ⟨p, hpk, t, z, rfl, et, dz, ez⟩ := paired_at hp hv
    obtain ⟨h1, h2, h3⟩ := hsm.2 p (List.mem_of_getElem? hpk)
    refine ⟨pcText p, by rw [List.getElem?_map, hpk]; rfl, ?_⟩
    have i1 : ShV X 1 [] H (.ref z) (srI p.a p.b) := ShV.own hs hf F hb ez ⟨z, p.a, p.b, rfl, ⟨dz, ez⟩, h1, h2, rfl, rfl⟩
    have i2 : ShV X 1 [] H (.str p.w) (reprText p.w) := (ShV.str p.w (small_line (by omega))).mono (by omega) fun _ z => z
    refine (ShV.tup et (.cons i1 (.cons i2 .nil)) (by simp)).mono (Nat.le_refl _) fun b hb => ?_
    rw [List.mem_singleton.mp hb]
    exact List.mem_filterMap.mpr ⟨.ref t, List.mem_of_getElem? hv, rfl⟩
  · obtain ⟨v, hv, e⟩ := List.mem_filterMap.mp hm
    obtain ⟨i, hi⟩ := List.getElem?_of_mem hv
    obtain ⟨p, hpk, t, z, rfl, et, _⟩ := paired_at hp hi
    cases e
    rw [hq] at et
    cases et
theorem standG_rep (g : Gg) (rs : List Rd) (m : Int) : (reprText (standG g rs m)).length ≤ 10 := by
  unfold standG standS
  split
  · decide +kernel
  · split
    · decide +kernel
    · split <;> decide +kernel
section
variable {P : Program} {w : World} {K : PySem.W.Frag} {mg : Str → Option Value} {base : Heap} (T : Ev K mg)
theorem okStretch___repr__ : FnOk P w K mg base CX0 1 T.fStretch___repr__ T.fdStretch___repr__ ["self"] (spSReprI T.CStretch) := by
  refine T.FStretch___repr__.ok scSRepr (fun vs H Q E h => ?_) (fun cdv A outer s H vs Q E hr h => ?_)
  · obtain ⟨p, a, b, rfl, _⟩ := h
    rfl
  · obtain ⟨p, a, b, rfl, hp, ha, hb, q⟩ := h
    refine ⟨_,
      (pss_one (ps_ret (pe_joined (.cons pe_str (.cons (pe_fmt (pe_fld (pv 0) rfl)) (.cons pe_str (.cons (pe_fmt (pe_fld (pv 0) rfl)) (.cons pe_str .nil))))))))
      , ?_⟩
    obtain ⟨dx, ep⟩ := id hp
    have la := numI_len ha.1 ha.2
    have lb := numI_len hb.1 hb.2
    refine ⟨_, rfl, small_line (by rw [Str.length_append]; show 0 + 8 ≤ 100; omega), _, rfl, p, T.CStretch, dx, _, _, rfl, ep, cl_Stretch T, T.nStretch_first, strF_first a b, .inr ⟨a, rfl, log_small (by omega), _, rfl, small_line (by rw [Str.length_append, Str.length_append]; show 0 + 8 + _ ≤ 100; omega), _, rfl, small_line (by rw [Str.length_append, Str.length_append, Str.length_append]; show 0 + 8 + _ + 2 ≤ 100; omega), ?_⟩⟩
    exact ⟨_, rfl, p, T.CStretch, dx, _, _, rfl, ep, cl_Stretch T, T.nStretch_behind, strF_behind a b, .inr ⟨b, rfl, log_small (by omega), _, rfl, small_line (by rw [Str.length_append, Str.length_append, Str.length_append, Str.length_append]; show 0 + 8 + _ + 2 + _ ≤ 100; omega), _, rfl, small_line (by rw [Str.length_append, Str.length_append, Str.length_append, Str.length_append, Str.length_append]; show 0 + 8 + _ + 2 + _ + 1 ≤ 100; omega), q⟩⟩
end
section
variable {P : Program} {w : World} {K : PySem.W.Frag} {mg : Str → Option Value} {base : Heap} (T : Ev K mg)
theorem ok_law_readings : FnOk P w K mg base CX0 3 T.f_law_readings T.fd_law_readings ["_law_feed_here", "_law_many"] spReadings := ok_readings (k := 0) T.F_law_readings ⟨T.mlen⟩ (txr T) T.F_law_draw T.g_law_draw T.b_law_draw T.F_law_of T.g_law_of T.b_law_of
theorem ok_law_bounds : FnOk P w K mg base CX0 3 T.f_law_bounds T.fd_law_bounds ["_law_feed_here"] spBounds := ok_bounds (k := 0) T.F_law_bounds ⟨T.mlen⟩ (txr T) T.F_law_draw T.g_law_draw T.b_law_draw T.F_law_of T.g_law_of T.b_law_of
theorem ok_law_stand : FnOk P w K mg base CX0 2 T.f_law_stand T.fd_law_stand ["_law_bounds_here", "_law_came", "_law_moment"] spLStand := ok_lstand T.F_law_stand T.F_law_last T.g_law_last T.b_law_last
def spEdges : Sp := fun vs H Q _ => ∃ (b p : Addr) (g : Gg) (rs : List Rd), vs = [.ref b, .ref p] ∧ H b = some (.lst [.int g.lag, .int g.high, .int g.top, .int g.thin, .int g.thick]) ∧ RdsAt H p rs ∧ rs.length ≤ 1000 ∧
  ∀ q H', Same H H' → H q = none → H' q = some (.lst ((chg g rs).map V.int)) → Q (.ref q) H'
theorem ok_law_edges : FnOk P w K mg base CX0 1 T.f_law_edges T.fd_law_edges ["_law_bounds_here", "_law_came"] spEdges := by
  refine T.F_law_edges.ok scEdges (fun vs H Q E h => ?_) (fun cdv A outer s H vs Q E hr h => ?_)
  · obtain ⟨b, p, g, rs, rfl, _⟩ := h
    rfl
  · obtain ⟨b, p, g, rs, rfl, hb, ⟨xs, ep, hrs⟩, hl, q⟩ := h
    refine ⟨_,
      (pss_one (ps_ret (pe_lc (own := [("_law_row", 2)]) (g := gName 2) (tt := tYes) rfl scEdges.nd (pi_list (pv 1)) (blkOk_by (N := NEdges) (own := [("_law_row", 2)]) (sc := defScope sEdges) (by decide +kernel)) (fun _ _ _ _ _ => pg_name (i := 2) scEdges.nd rfl (Or.inl rfl)) (fun _ _ _ _ _ => pts_nil) (fun _ _ _ _ _ => (pe_op op_add (pe_ix (r := rIxT K) ix_tup (pv 2) pe_int (fun _ _ => rfl)) (pe_ix (r := rIxL K) ix_list (pe_lst (pa_cons pe_int (pa_cons (pe_ix (r := rIxL K) ix_list (pv 0) pe_int (fun _ _ => rfl)) pa_nil))) (pe_callTy call_int1 (by rfl) T.mint (by decide +kernel) (pa_cons (pe_cmpR op_eq (pe_ix (r := rIxT K) ix_tup (pv 2) pe_int (fun _ _ => rfl)) pe_str (nomark _)) pa_nil)) (fun _ _ => rfl)))))))
      , ?_⟩
    have hxl := hrs.len
    walk_at "s"
    refine ⟨⟨_, SqL.of ep⟩, fun D hD => ?_⟩
    have hcl : (chg g rs).length = rs.length := by unfold chg; rw [List.length_map]
    refine lc_list (K := K) (a := p) (xs := xs) (fun k H' => H' D = some (.lst (((chg g rs).take k).map V.int)) ∧ Same H H') ⟨by rw [List.take_zero]; exact upd_same, same_upd hD⟩ (fun k H' _ z => SqL.of (z.2 _ _ ep)) ?_ ?_
    · rintro k y H1 hy ⟨eD, s1⟩
      obtain ⟨a0, r0, rfl, hr0, ea⟩ := hrs.at hy
      have hk := (List.getElem?_eq_some_iff.mp hy).1
      walk_at "s"
      refine i_ixT0 (SqT.of (s1 _ _ ea)) ?_
      walk_at "s"
      refine i_ixLe 0 (SqL.of (s1 _ _ hb)) rfl rfl ?_
      walk_at "s"
      intro l0 hl0
      have s2 := s1.trans (same_upd (o := .lst [.int 0, .int g.lag]) hl0)
      have el0 : (upd H1 l0 (.lst [.int 0, .int g.lag])) l0 = some (.lst [.int 0, .int g.lag]) := upd_same
      have eD2 := upd_at (o := .lst [.int 0, .int g.lag]) hl0 eD
      generalize upd H1 l0 (.lst [.int 0, .int g.lag]) = H2 at s2 el0 eD2 ⊢
      walk_at "s"
      refine i_ixT1 (SqT.of (s2 _ _ ea)) ?_
      walk_at "s"
      refine .inr ⟨_, rfl, ?_⟩
      have hcg : (chg g rs)[k]? = some (if r0.w = true then r0.m + g.lag else r0.m) := by
        unfold chg
        rw [List.getElem?_map, hr0]; rfl
      have fin : ∀ j : Int, j = (if r0.w = true then r0.m + g.lag else r0.m) → ∃ acc, H2 D = some (.lst acc) ∧ acc.length < sizeLine ∧ (upd H2 D (.lst (acc ++ [V.int j]))) D = some (.lst (((chg g rs).take (k + 1)).map V.int)) ∧ Same H (upd H2 D (.lst (acc ++ [V.int j]))) := fun j hj => by
        refine ⟨_, eD2, lt_line (by rw [List.length_map, List.length_take]; omega), ?_, app_same hD s2⟩
        rw [upd_same, List.take_succ, hcg, Option.toList_some, List.map_append, hj]
        rfl
      cases hw : r0.w with
      | true =>
        rw [hw] at fin
        rw [show (decide (V.str (kindS true) = V.str "water")) = true from decide_eq_true rfl, if_pos rfl]
        refine i_ixLe 1 (SqL.of el0) rfl rfl ?_
        walk_at "s"
        exact fin _ rfl
      | false =>
        rw [hw] at fin
        rw [show (decide (V.str (kindS false) = V.str "water")) = false from decide_eq_false (fun z => absurd (V.str.inj z) (by decide +kernel)), if_neg Bool.false_ne_true]
        refine i_ixLe 0 (SqL.of el0) rfl rfl ?_
        walk_at "s"
        exact fin _ (by rw [if_neg Bool.false_ne_true]; omega)
    · rintro H1 ⟨eD, s1⟩
      rw [hxl, List.take_of_length_le (by omega)] at eD
      exact q D H1 s1 hD eD
/-- the word so far -/
def aheadV : Option Str → V
  | none => .non
  | some w => .str w
theorem aheadV_ne {o : Option Str} {w : Str} (h : o ≠ some w) : decide (V.str w = aheadV o) = false := decide_eq_false fun e => by
  cases o with
  | none => cases e
  | some x => cases e; exact h rfl
def spLRight : Sp := fun vs H Q _ => ∃ (b p l : Addr) (g : Gg) (rs : List Rd) (ys : List V) (L : List Pc) (s u : Int), vs = [.ref b, .ref p, .ref l, .int s, .int u] ∧ H b = some (.lst [.int g.lag, .int g.high, .int g.top, .int g.thin, .int g.thick]) ∧ RdsAt H p rs ∧ rs.length ≤ 1000 ∧ (∀ r ∈ rs, 0 ≤ r.m) ∧
  H l = some (.lst ys) ∧ Paired (PcAt T.CStretch H) ys L ∧ FCh (standG g rs) s none L u ∧ (u - s < 2 ^ 62) ∧ ∀ H', Same H H' → Q (.bl true) H'
theorem ok_law_right : FnOk P w K mg base CX0 4 T.f_law_right T.fd_law_right ["_law_bounds_here", "_law_came", "_law_told", "_law_start", "_law_upto"] (spLRight T) := by
  refine T.F_law_right.ok scLRight (fun vs H Q E h => ?_) (fun cdv A outer s H vs Q E hr h => ?_)
  · obtain ⟨b, p, l, g, rs, ys, L, s, u, rfl, _⟩ := h
    rfl
  · obtain ⟨b, p, l, g, rs, ys, L, sa, u, rfl, hb, hq, hl, hm, hll, hpr, hf, hsu, qq⟩ := h
    refine ⟨_,
      (pss_cons (ps_par (i := 5) (j := 6) rfl scLRight.nd rfl rfl (by decide) rfl rfl (pa_cons (pv 3) (pa_cons pe_non pa_nil)) (by rfl))
      (pss_cons (ps_for PassesOwn.never rfl (pi_list (pv 2)) (pg_tup rfl (pgs_cons (pg_name (i := 7) scLRight.nd rfl (.inr rfl)) (pgs_cons (pg_name (i := 8) scLRight.nd rfl (.inl rfl)) pgs_nil)))
      (pss_cons (ps_if (PW.pt (pw_or (pt_not (pt_val (pe_callB call_isi (by rfl) T.misinstance (by decide +kernel) (pa_cons (pv 7) (pa_cons (pe_glob (v := .ref T.CStretch) (by rfl) T.gCStretch rfl) pa_nil))))) (pw_or (pt_cmpR op_ne (pe_fld (pv 7) rfl) (pv 5) (nomark _)) (pw_or (pt_cmpR op_eq (pe_callB (call_lenOwn (mt_Stretch___len__ T).at_ (mt_Stretch___len__ T).fn (okStretch___len__ T) T.bStretch___len__ (hr.mono (by decide)) pass0) (by rfl) T.mlen PySem.boot_len (pa_cons (pv 7) pa_nil)) pe_int (nomark _)) (pw_or1 (pt_cmpR op_eq (pv 8) (pv 6) (nomark _)))))))
      (pss_one (ps_ret pe_bl))
      pss_nil)
      (pss_cons (ps_setLc (i := 9) (own := [("_law_edge", 11)]) (g := gName 11)  rfl scLRight.nd rfl rfl (sw_true rfl rfl rfl (by decide +kernel)) (pi_list (pe_call (ok_law_edges T) (hr.mono (by decide)) (by rfl) T.g_law_edges T.F_law_edges.kp T.b_law_edges .nil pass0 (pa_cons (pv 0) (pa_cons (pv 1) pa_nil)))) (blkOk_by (N := NLRight) (own := [("_law_edge", 11)]) (sc := defScope sLRight) (by decide +kernel)) (fun _ _ _ _ _ => pg_name (i := 11) scLRight.nd rfl (Or.inl rfl)) (fun _ _ _ _ _ => pts_one (pt_chain op_le op_lt (show PE _ _ (tFld K (tVar 7) "first") from pe_fld (pv 7) rfl) (pv 11) (show PE _ _ (tFld K (tVar 7) "behind") from pe_fld (pv 7) rfl))) (fun _ _ _ _ _ => (pv 11)))
      (pss_cons (ps_for PassesOwn.never rfl (pi_list (pe_op op_cat (pv 9) (pe_lst (pa_cons (pe_fld (pv 7) rfl) (pa_cons (pe_op op_sub (pe_fld (pv 7) rfl) pe_int) pa_nil))))) (pg_name (i := 10) scLRight.nd rfl (.inl rfl))
      (pss_one (ps_if (pt_cmpR op_ne (pe_call (ok_law_stand T) (hr.mono (by decide)) (by rfl) T.g_law_stand T.F_law_stand.kp T.b_law_stand .nil pass0 (pa_cons (pv 0) (pa_cons (pv 1) (pa_cons (pv 10) pa_nil)))) (pv 8) (nomark _))
      (pss_one (ps_ret pe_bl))
      pss_nil)))
      (pss_one (ps_par (i := 5) (j := 6) rfl scLRight.nd rfl rfl (by decide) rfl rfl (pa_cons (pe_fld (pv 7) rfl) (pa_cons (pv 8) pa_nil)) (by rfl)))))))
      (pss_one (ps_ret (pe_cmpR op_eq (pv 5) (pv 4) (nomark _))))))
      , ?_⟩
    have hpl := Paired.length hpr
    walk_at "s"
    refine ⟨⟨_, SqL.of hll⟩, ?_⟩
    refine for_list (K := K) (a := l) (xs := ys) (fun i σ H' => ∃ (here : Int) (o : Option Str) (w7 w8 w9 w10 w11 : Option V), σ = [some (.ref b), some (.ref p), some (.ref l), some (.int sa), some (.int u), some (.int here), some (aheadV o), w7, w8, w9, w10, w11] ∧ sa ≤ here ∧ FCh (standG g rs) here o (L.drop i) u ∧ Same H H')
      ⟨sa, none, _, _, _, _, _, rfl, Int.le_refl _, hf, same_refl⟩ (fun i σ H' _ ⟨_, _, _, _, _, _, _, _, _, _, z⟩ => SqL.of (z _ _ hll)) ?_ ?_
    · rintro i y σ H1 hy ⟨here, o, w7, w8, w9, w10, w11, rfl, hsa, hfi, s1⟩
      obtain ⟨pc, hpk, t, z, rfl, et, hz⟩ := paired_at hpr hy
      obtain ⟨hlt, ege⟩ := List.getElem?_eq_some_iff.mp hpk
      rw [List.drop_eq_getElem_cons hlt, ege] at hfi
      obtain ⟨f1, f2, f3, f4, f5⟩ := hfi
      have hz1 := hz.same s1
      refine ⟨t, _, rfl, SqT.of (s1 _ _ et), rfl, ?_⟩
      walk_at "s"
      refine isi_own (isStr T hz1) ?_
      refine ⟨_, rfl, ?_⟩
      rw [if_neg (by decide)]
      walk_at "s"
      refine i_first T hz1 ?_
      walk_at "s"
      subst f1
      rw [decide_eq_true rfl, if_neg (by decide)]
      walk_at "s"
      obtain ⟨dz, ez⟩ := id hz1
      obtain ⟨hle5, hm5⟩ := fch_mem f5
      refine ⟨z, dz, _, rfl, ez, z, pc.a, pc.b, rfl, hz1, by omega, by omega, ?_⟩
      walk_at "s"
      rw [decide_eq_false (fun e => by have := V.int.inj e; omega), if_neg Bool.false_ne_true]
      walk_at "s"
      refine ⟨by cases o <;> rfl, ?_⟩
      walk_at "s"
      rw [aheadV_ne f4, if_neg Bool.false_ne_true]
      walk_at "s"
      refine ⟨b, p, g, rs, rfl, s1 _ _ hb, hq.same s1, hl, fun e1 H2 s2 he0 he => ?_⟩
      have s12 := s1.trans s2
      walk_at "s"
      refine ⟨⟨_, SqL.of he⟩, fun D hD => ?_⟩
      have hcl : (chg g rs).length = rs.length := by unfold chg; rw [List.length_map]
      refine lc_list (K := K) (a := e1) (xs := (chg g rs).map V.int) (fun k H' => ∃ ms : List Int, H' D = some (.lst (ms.map V.int)) ∧ ms.length ≤ k ∧ (∀ m ∈ ms, pc.a ≤ m ∧ m < pc.b) ∧ Same H2 H') ⟨[], upd_same, Nat.le_refl _, by simp, same_upd hD⟩ (fun k H' _ z => SqL.of (z.choose_spec.2.2.2 _ _ he)) ?_ ?_
      · rintro k y H3 hy ⟨ms, eD, hml, hmm, s3⟩
        have hk := (List.getElem?_eq_some_iff.mp hy).1
        rw [List.length_map, hcl] at hk
        obtain ⟨m, rfl⟩ : ∃ m : Int, y = .int m := by
          rw [List.getElem?_map] at hy
          cases e : (chg g rs)[k]? with
          | none => rw [e] at hy; cases hy
          | some m => rw [e] at hy; cases hy; exact ⟨m, rfl⟩
        have hz3 := (hz1.same s2).same s3
        walk_at "s"
        refine i_first T hz3 ?_
        walk_at "s"
        refine ite2 (fun c => ?_) (fun c => ?_)
        · walk_at "s"
          refine i_behind T hz3 ?_
          walk_at "s"
          refine ite2 (fun c2 => ?_) (fun c2 => ?_)
          · walk_at "s"
            refine ⟨_, eD, lt_line (by rw [List.length_map]; omega), ms ++ [m], by rw [upd_same, List.map_append]; rfl, by rw [List.length_append]; show _ + 1 ≤ _; omega, fun x hx => ?_, app_same hD s3⟩
            rcases List.mem_append.mp hx with hx | hx
            · exact hmm x hx
            · rw [List.mem_singleton.mp hx]; exact ⟨of_decide_eq_true c, of_decide_eq_true c2⟩
          · exact ⟨ms, eD, by omega, hmm, s3⟩
        · walk_at "s"
          exact ⟨ms, eD, by omega, hmm, s3⟩
      rintro H3 ⟨ms, eD, hml, hmm, s3⟩
      rw [List.length_map, hcl] at hml
      have hz3 := (hz1.same s2).same s3
      walk_at "s"
      refine i_first T hz3 ?_
      walk_at "s"
      refine i_behind T hz3 ?_
      walk_at "s"
      intro l1 hl1
      refine ⟨D, l1, _, _, rfl, rfl, upd_at hl1 eD, upd_same, le_line (by rw [List.length_map]; show _ + 2 ≤ _; omega), fun l2 hl2 => ?_⟩
      have s4 := (s12.trans s3).trans ((same_upd (o := .lst [.int pc.a, .int (pc.b - 1)]) hl1).trans (same_upd (o := .lst (ms.map V.int ++ [.int pc.a, .int (pc.b - 1)])) hl2))
      have e4 : (upd (upd H3 l1 (.lst [.int pc.a, .int (pc.b - 1)])) l2 (.lst (ms.map V.int ++ [.int pc.a, .int (pc.b - 1)]))) l2 = some (.lst ((ms ++ [pc.a, pc.b - 1]).map V.int)) := by rw [upd_same, List.map_append]; rfl
      generalize upd (upd H3 l1 (.lst [.int pc.a, .int (pc.b - 1)])) l2 (.lst (ms.map V.int ++ [.int pc.a, .int (pc.b - 1)])) = H4 at s4 e4 ⊢
      have hall : ∀ m ∈ ms ++ [pc.a, pc.b - 1], pc.a ≤ m ∧ m < pc.b := fun m h => by
        rcases List.mem_append.mp h with h | h
        · exact hmm m h
        · simp only [List.mem_cons, List.not_mem_nil, or_false] at h
          rcases h with rfl | rfl <;> omega
      generalize ms ++ [pc.a, pc.b - 1] = ns at e4 hall
      walk_at "s"
      refine ⟨⟨_, SqL.of e4⟩, ?_⟩
      refine for_list (K := K) (a := l2) (xs := ns.map V.int) (fun j σ H' => ∃ (w10 w11 : Option V), σ = [some (.ref b), some (.ref p), some (.ref l), some (.int sa), some (.int u), some (.int pc.a), some (aheadV o), some (.ref z), some (.str pc.w), some (.ref D), w10, w11] ∧ Same H4 H')
        ⟨_, _, rfl, same_refl⟩ (fun j σ H' _ ⟨_, _, _, z⟩ => SqL.of (z _ _ e4)) ?_ ?_
      · rintro j y σ H5 hy ⟨w10, w11, rfl, s5⟩
        obtain ⟨m, hmj, rfl⟩ : ∃ m : Int, ns[j]? = some m ∧ y = .int m := by
          rw [List.getElem?_map] at hy
          cases e : ns[j]? with
          | none => rw [e] at hy; cases hy
          | some m => rw [e] at hy; cases hy; exact ⟨m, rfl, rfl⟩
        obtain ⟨m1, m2⟩ := hall m (List.mem_of_getElem? hmj)
        have s45 := s4.trans s5
        walk_at "s"
        refine ⟨b, p, g, rs, m, rfl, s45 _ _ hb, hq.same s45, hl, hm, fun H6 s6 => ?_⟩
        rw [f3 m m1 m2]
        walk_at "s"
        rw [decide_eq_true rfl, if_neg (by decide)]
        exact ⟨_, _, rfl, s5.trans s6⟩
      · rintro σ H5 ⟨w10, w11, rfl, s5⟩
        have s45 := s4.trans s5
        walk_at "s"
        obtain ⟨dz5, ez5⟩ := id (hz.same s45)
        refine ⟨z, _, dz5, _, _, rfl, ez5, cl_Stretch T, T.nStretch_behind, strF_behind _ _, ?_⟩
        walk_at "s"
        exact ⟨pc.b, some pc.w, _, _, _, _, _, rfl, by omega, f5, s45⟩
    · rintro σ H1 ⟨here, o, w7, w8, w9, w10, w11, rfl, hsa, hfi, s1⟩
      rw [List.drop_of_length_le (by omega)] at hfi
      have hfi : here = u := hfi
      subst hfi
      walk_at "s"
      rw [decide_eq_true rfl]
      exact qq H1 s1
end
theorem standsP_len {st : Int → Str} {cs : List Int} {b : Int} (h : 0 < cs.length) : (standsP st cs b).length ≤ cs.length := by
  unfold standsP
  rw [List.length_reverse]
  have := pcFold_len st (nexts cs b)
  rw [nexts_len _ _ h] at this
  exact this
theorem cuts_len {g : Gg} {rs : List Rd} {cs : List Int} {a b : Int} (hp : cs.Perm (a :: (chg g rs).filter fun m => decide (a < m) && decide (m < b))) : 0 < cs.length ∧ cs.length ≤ rs.length + 1 := by
  rw [hp.length_eq, List.length_cons]
  have := List.length_filter_le (fun m => decide (a < m) && decide (m < b)) (chg g rs)
  unfold chg at this
  rw [List.length_map] at this
  unfold chg
  omega
/-- a list of pieces and its text, kept; none of bad is written in it -/
def HeldAt (C : Addr) (bad : List Addr) (H : Hp) (x : V) : Prop := ∃ t q ys L, x = .ref t ∧ H t = some (.tup [.ref q, .str (pcsText L)]) ∧ H q = some (.lst ys) ∧ Paired (PcAt C H) ys L ∧ PcSm L ∧ ∀ b ∈ bad, q ≠ b
theorem HeldAt.same {C : Addr} {bad : List Addr} {H H' : Hp} {x : V} (h : HeldAt C bad H x) (s : Same H H') : HeldAt C bad H' x := by
  obtain ⟨t, q, ys, L, e, e1, e2, hp, hs, n⟩ := h
  exact ⟨t, q, ys, L, e, s _ _ e1, s _ _ e2, paired_mono (fun _ _ m => m.same s) hp, hs, n⟩
theorem HeldAt.add {C b : Addr} {bad : List Addr} {H : Hp} {x : V} (h : HeldAt C bad H x) (hb : H b = none) : HeldAt C (b :: bad) H x := by
  obtain ⟨t, q, ys, L, e, e1, e2, hp, hs, n⟩ := h
  refine ⟨t, q, ys, L, e, e1, e2, hp, hs, fun c hc => ?_⟩
  rcases List.mem_cons.mp hc with rfl | hc
  · exact ne_of_none e2 hb
  · exact n c hc
theorem HeldAt.less {C : Addr} {bad bad' : List Addr} {H : Hp} {x : V} (h : HeldAt C bad H x) (s : ∀ b ∈ bad', b ∈ bad) : HeldAt C bad' H x := by
  obtain ⟨t, q, ys, L, e, e1, e2, hp, hs, n⟩ := h
  exact ⟨t, q, ys, L, e, e1, e2, hp, hs, fun c hc => n c (s c hc)⟩
theorem HeldAt.upd {C f : Addr} {bad : List Addr} {H : Hp} {x : V} {zs : List V} {o : HO} (h : HeldAt C bad H x) (hf : f ∈ bad) (ef : H f = some (.lst zs)) : HeldAt C bad (upd H f o) x := by
  obtain ⟨t, q, ys, L, e, e1, e2, hp, hs, n⟩ := h
  exact ⟨t, q, ys, L, e, by rw [upd_ne (ne_of e1 ef (by intro z; cases z))]; exact e1, by rw [upd_ne (n f hf)]; exact e2, paired_mono (fun _ _ m => m.upd ef) hp, hs, n⟩
theorem HeldAt.keep {C tp : Addr} {bad : List Addr} {H H' : Hp} {x : V} {zs : List V} (h : HeldAt C bad H x) (ht : tp ∈ bad) (et : H tp = some (.lst zs)) (k : Keep tp H H') : HeldAt C bad H' x := by
  obtain ⟨t, q, ys, L, e, e1, e2, hp, hs, n⟩ := h
  exact ⟨t, q, ys, L, e, k _ _ (ne_of e1 et (by intro z; cases z)) e1, k _ _ (n tp ht) e2, paired_mono (fun _ _ m => m.mono fun b o nl eb => k _ _ (ne_of eb et (nl zs)) eb) hp, hs, n⟩
theorem pcSm_of {g : Gg} {rs : List Rd} {s u : Int} {L : List Pc} (hf : FCh (standG g rs) s none L u) (hs : 0 ≤ s) (hu : u < 14400000000) (hl : L.length ≤ 1010) : PcSm L := by
  obtain ⟨_, hm⟩ := fch_mem hf
  refine ⟨hl, fun p hp => ?_⟩
  obtain ⟨h1, h2, h3, h4⟩ := hm p hp
  refine ⟨by omega, by omega, ?_⟩
  rw [← h4 p.a (Int.le_refl _) h2]
  exact standG_rep g rs p.a
def spLaw (K : PySem.W.Frag) : Sp := fun vs H Q _ => ∃ (a : Addr) (ns : List Int), vs = [.ref a] ∧ SqL K H a (ns.map V.int) ∧ ns.length ≤ 63 ∧ ∀ H', Q (.bl true) H'
set_option maxHeartbeats 8000000
local macro_rules | `(tactic| walk_at "c") => `(tactic| first | omega | decide | exact ⟨by omega, by omega⟩ | exact ⟨by decide, by decide⟩ | exact .inl ⟨by omega, by omega⟩ | exact .inr ⟨by omega, by omega⟩ | exact ⟨by omega, by omega, by omega⟩ | exact ⟨by decide, by decide, by decide⟩ | exact le_line (Nat.le_of_ble_eq_true rfl))
local macro_rules | `(tactic| walk_at "a") => `(tactic| with_reducible (first | refine i_seq ?_ | refine i_asg ?_ | refine i_cons ?_ | refine i_c ?_ | refine i_nil ?_ | refine i_op ?_ | refine i_call ?_ | refine i_cb ?_ | refine i_name ?_ | refine i_next ?_ | refine i_ret ?_ | refine i_drop ?_ | refine i_if ?_ | refine i_test ?_ | refine i_and ?_ | refine i_or ?_ | refine i_not ?_ | refine i_ite ?_ | refine i_lst ?_ | refine i_tup ?_ | refine i_bm ?_ | refine i_un ?_ | refine i_par ?_ | refine i_gsub ?_ | refine i_chain ?_ | refine i_sl ?_ | refine i_nopart ?_ | refine i_part ?_ | refine i_m1 ?_ | refine i_m0 ?_ | refine i_lc ?_ | refine i_iList ?_ | refine i_iTup ?_ | refine i_iStr ?_ | refine i_r1 ?_ | refine i_set ?_ | refine i_callk ?_ | refine i_callN ?_ | refine i_ckw ?_ | refine i_revL ?_ | refine i_tB ?_ | refine i_fld ?_ | refine i_sfld ?_ | refine i_make ?_ | refine i_makeN ?_ | refine i_meth ?_ | refine i_andV ?_ | refine i_orV ?_ | refine i_notV ?_ | refine iteT ?_ | refine iteF ?_ | refine i_yes ?_))
local macro_rules | `(tactic| walk_at "s") => `(tactic| repeat (first | walk_at "a" | refine i_var rfl ?_ | refine i_aug rfl ?_ | refine And.intro ⟨_, rfl⟩ ?_ | refine ⟨_, rfl, ?_⟩ | refine ⟨_, _, rfl, rfl, ?_⟩ | refine ⟨_, _, rfl, ?_⟩ | refine ⟨rfl, ?_⟩ | refine And.intro (by walk_at "c") ?_))
section
variable {P : Program} {w : World} {K : PySem.W.Frag} {mg : Str → Option Value} {base : Heap} (T : Ev K mg)
/-- what stands all along the turns -/
structure Inn (C CG tp c lb xg ls le lh : Addr) (g : Gg) (rs : List Rd) (es : List Int) (n : Nat) (H : Hp) (hs : List V) : Prop where
  otape : Tape H tp c n
  olb : H lb = some (.lst [.int g.lag, .int g.high, .int g.top, .int g.thin, .int g.thick])
  oxg : GgAt CG H xg g
  ols : RdsAt H ls rs
  ole : H le = some (.lst (es.map V.int))
  olh : H lh = some (.lst hs)
  oheld : ∀ x ∈ hs, HeldAt C [tp, lh] H x
  nlb : lb ≠ tp
  nls : ls ≠ tp
  nle : le ≠ tp
  nlh : lh ≠ tp
  nlhc : lh ≠ c
  nb1 : lb ≠ lh
  nb2 : ls ≠ lh
  nb3 : le ≠ lh
theorem Inn.same {C CG tp c lb xg ls le lh : Addr} {g : Gg} {rs : List Rd} {es : List Int} {n : Nat} {H H' : Hp} {hs : List V} (h : Inn C CG tp c lb xg ls le lh g rs es n H hs) (s : Same H H') : Inn C CG tp c lb xg ls le lh g rs es n H' hs :=
  ⟨h.otape.same s, s _ _ h.olb, h.oxg.same s, h.ols.same s, s _ _ h.ole, s _ _ h.olh, fun x hx => (h.oheld x hx).same s, h.nlb, h.nls, h.nle, h.nlh, h.nlhc, h.nb1, h.nb2, h.nb3⟩
theorem Inn.step {C CG tp c lb xg ls le lh : Addr} {g : Gg} {rs : List Rd} {es : List Int} {n m : Nat} {H H' : Hp} {hs : List V} (h : Inn C CG tp c lb xg ls le lh g rs es n H hs) (t : Tape H' tp c m) (k : Keep tp H H') : Inn C CG tp c lb xg ls le lh g rs es m H' hs := by
  obtain ⟨ys, ey⟩ := h.otape.tape
  exact ⟨t, k _ _ h.nlb h.olb, h.oxg.keep ey k, h.ols.keep ey h.nls k, k _ _ h.nle h.ole, k _ _ h.nlh h.olh, fun x hx => (h.oheld x hx).keep (by simp) ey k, h.nlb, h.nls, h.nle, h.nlh, h.nlhc, h.nb1, h.nb2, h.nb3⟩
theorem inn_upd {C CG tp c lb xg ls le lh : Addr} {g : Gg} {rs : List Rd} {es : List Int} {n : Nat} {H : Hp} {hs : List V} (h : Inn C CG tp c lb xg ls le lh g rs es n H hs) {f : Addr} {zs : List V} {o : HO} (hf : H f = some (.lst zs)) (n1 : f ≠ tp) (n2 : f ≠ c) (n3 : lb ≠ f) (n4 : ls ≠ f) (n5 : le ≠ f) :
    Tape (upd H f o) tp c n ∧ (upd H f o) lb = some (.lst [.int g.lag, .int g.high, .int g.top, .int g.thin, .int g.thick]) ∧ GgAt CG (upd H f o) xg g ∧ RdsAt (upd H f o) ls rs ∧ (upd H f o) le = some (.lst (es.map V.int)) := by
  obtain ⟨dx, eg⟩ := id h.oxg
  obtain ⟨xs, ex, hx⟩ := id h.ols
  refine ⟨h.otape.upd n1 n2, by rw [upd_ne n3]; exact h.olb, ⟨dx, by rw [upd_ne (ne_of eg hf (by intro z; cases z))]; exact eg⟩, ⟨xs, by rw [upd_ne n4]; exact ex, hx.mono fun a ts e => ?_⟩, by rw [upd_ne n5]; exact h.ole⟩
  rw [upd_ne (ne_of e hf (by intro z; cases z))]; exact e
theorem Inn.app {C CG tp c lb xg ls le lh : Addr} {g : Gg} {rs : List Rd} {es : List Int} {n : Nat} {H : Hp} {hs : List V} (h : Inn C CG tp c lb xg ls le lh g rs es n H hs) {x : V} (hx : HeldAt C [tp, lh] H x) : Inn C CG tp c lb xg ls le lh g rs es n (upd H lh (.lst (hs ++ [x]))) (hs ++ [x]) := by
  obtain ⟨a1, a2, a3, a4, a5⟩ := inn_upd (o := .lst (hs ++ [x])) h h.olh h.nlh h.nlhc h.nb1 h.nb2 h.nb3
  refine ⟨a1, a2, a3, a4, a5, upd_same, fun y hy => HeldAt.upd ?_ (by simp) h.olh, h.nlb, h.nls, h.nle, h.nlh, h.nlhc, h.nb1, h.nb2, h.nb3⟩
  rcases List.mem_append.mp hy with hy | hy
  · exact h.oheld y hy
  · rw [List.mem_singleton.mp hy]; exact hx
theorem Inn.clr {C CG tp c lb xg ls le lh : Addr} {g : Gg} {rs : List Rd} {es : List Int} {n : Nat} {H : Hp} {hs : List V} (h : Inn C CG tp c lb xg ls le lh g rs es n H hs) {lt : Addr} {zs : List V} {o : HO} (hlt : H lt = some (.lst zs)) (n1 : lt ≠ tp) (n2 : lt ≠ c) (n3 : lb ≠ lt) (n4 : ls ≠ lt) (n5 : le ≠ lt) (n6 : lh ≠ lt) (hh : ∀ x ∈ hs, HeldAt C [lt, tp, lh] H x) : Inn C CG tp c lb xg ls le lh g rs es n (upd H lt o) hs := by
  obtain ⟨a1, a2, a3, a4, a5⟩ := inn_upd (o := o) h hlt n1 n2 n3 n4 n5
  exact ⟨a1, a2, a3, a4, a5, by rw [upd_ne n6]; exact h.olh, fun y hy => ((hh y hy).upd (by simp) hlt).less fun b hb => List.mem_cons_of_mem _ hb, h.nlb, h.nls, h.nle, h.nlh, h.nlhc, h.nb1, h.nb2, h.nb3⟩
theorem ifF {c : Bool} {a b : Prop} (h : c = false) (q : b) : if c = true then a else b := by subst h; exact q
theorem ite_c {p : Bool} {x y : Int} {σ : L2.St} {H : Hp} {Q : VK} (h : ∀ z, z = x ∨ z = y → Q (.int z) H) : if p = true then tC (.int x) σ H Q else tC (.int y) σ H Q := by
  cases p
  · exact h y (.inr rfl)
  · exact h x (.inl rfl)
theorem ok_law : FnOkG P w K mg base CX0 14 T.flaw T.fdlaw ["_law_script"] (spLaw K) := by
  refine okG T.Flaw scLaw (fun vs H Q E h => ?_) (fun cdv A outer s H vs Q E gd hr h => ?_)
  · obtain ⟨a, ns, rfl, _⟩ := h
    rfl
  · obtain ⟨a, ns, rfl, hS, hlen, q⟩ := h
    obtain ⟨ds0, rGauge0, bGauge0⟩ := gi_b0 T.FGauge___init__
    refine ⟨_,
      (pss_cons (ps_set (i := 1) scLaw.nd rfl (.inl rfl) (pe_call (ok_law_feed T) (hr.mono (by decide)) (by rfl) T.g_law_feed T.F_law_feed.kp T.b_law_feed .nil pass0 (pa_cons (pv 0) pa_nil)))
      (pss_cons (ps_for PassesOwn.never rfl (pi_range1 (by rfl) T.mrange (pa_cons pe_int pa_nil)) (pg_name (i := 2) scLaw.nd rfl (.inl rfl))
      (pss_cons (ps_set (i := 3) scLaw.nd rfl (.inl rfl) (pe_call (ok_law_bounds T) (hr.mono (by decide)) (by rfl) T.g_law_bounds T.F_law_bounds.kp T.b_law_bounds .nil pass0 (pa_cons (pv 1) pa_nil)))
      (pss_cons (ps_set (i := 4) scLaw.nd rfl (.inl rfl) (pe_makeN (mk_Gauge T) (okGauge___init__ T) (hr.mono (by decide)) (by rfl) T.gCGauge (kb_Gauge___init___6 T).choose_spec pass0 (pa_cons (pe_ix ix_list (pv 3) pe_int (fun _ _ => rfl)) (pa_cons (pe_ix ix_list (pv 3) pe_int (fun _ _ => rfl)) (pa_cons (pe_ix ix_list (pv 3) pe_int (fun _ _ => rfl)) (pa_cons (pe_ix ix_list (pv 3) pe_int (fun _ _ => rfl)) (pa_cons (pe_ix ix_list (pv 3) pe_int (fun _ _ => rfl)) pa_nil))))) pk_nil))
      (pss_cons (ps_set (i := 5) scLaw.nd rfl (.inl rfl) (pe_call (ok_law_readings T) (hr.mono (by decide)) (by rfl) T.g_law_readings T.F_law_readings.kp T.b_law_readings .nil pass0 (pa_cons (pv 1) (pa_cons (pe_call (ok_law_of T) (hr.mono (by decide)) (by rfl) T.g_law_of T.F_law_of.kp T.b_law_of .nil pass0 (pa_cons (pv 1) (pa_cons (pe_lst (pa_cons pe_int (pa_cons pe_int (pa_cons pe_int (pa_cons pe_int pa_nil))))) pa_nil))) pa_nil))))
      (pss_cons (ps_par (i := 6) (j := 7) rfl scLaw.nd rfl rfl (by decide) rfl rfl (pa_cons (pe_op op_cat (pe_call (ok_law_edges T) (hr.mono (by decide)) (by rfl) T.g_law_edges T.F_law_edges.kp T.b_law_edges .nil pass0 (pa_cons (pv 3) (pa_cons (pv 5) pa_nil))) (pe_lst (pa_cons pe_int (pa_cons pe_int pa_nil)))) (pa_cons (pe_lst pa_nil) pa_nil)) (by rfl))
      (pss_cons (ps_for PassesOwn.never rfl (pi_range1 (by rfl) T.mrange (pa_cons (pe_ifExp (pt_cmpR op_gt (pe_callB call_len_seq (by rfl) T.mlen PySem.boot_len (pa_cons (pv 5) pa_nil)) pe_int (nomark _)) pe_int pe_int) pa_nil)) (pg_name (i := 8) scLaw.nd rfl (.inl rfl))
      (pss_cons (ps_set (i := 9) scLaw.nd rfl (.inl rfl) (pe_callB (call_max2 rfl) (by rfl) T.mmax (by decide +kernel) (pa_cons pe_int (pa_cons (pe_op op_sub (pe_op op_add (pe_call (ok_law_of T) (hr.mono (by decide)) (by rfl) T.g_law_of T.F_law_of.kp T.b_law_of .nil pass0 (pa_cons (pv 1) (pa_cons (pv 6) pa_nil))) (pe_call (ok_law_draw T) (hr.mono (by decide)) (by rfl) T.g_law_draw T.F_law_draw.kp T.b_law_draw .nil pass0 (pa_cons (pv 1) (pa_cons pe_int pa_nil)))) pe_int) pa_nil))))
      (pss_cons (ps_set (i := 10) scLaw.nd rfl (.inl rfl) (pe_op op_add (pv 9) (pe_call (ok_law_of T) (hr.mono (by decide)) (by rfl) T.g_law_of T.F_law_of.kp T.b_law_of .nil pass0 (pa_cons (pv 1) (pa_cons (pe_lst (pa_cons pe_int (pa_cons pe_int (pa_cons (pe_call (ok_law_draw T) (hr.mono (by decide)) (by rfl) T.g_law_draw T.F_law_draw.kp T.b_law_draw .nil pass0 (pa_cons (pv 1) (pa_cons pe_int pa_nil))) (pa_cons (pe_call (ok_law_draw T) (hr.mono (by decide)) (by rfl) T.g_law_draw T.F_law_draw.kp T.b_law_draw .nil pass0 (pa_cons (pv 1) (pa_cons pe_int pa_nil))) (pa_cons (pe_op op_pow pe_int pe_int) pa_nil)))))) pa_nil)))))
      (pss_cut (ps_if (pt_cmpR op_eq (pe_call (ok_law_draw T) (hr.mono (by decide)) (by rfl) T.g_law_draw T.F_law_draw.kp T.b_law_draw .nil pass0 (pa_cons (pv 1) (pa_cons pe_int pa_nil))) pe_int (nomark _))
      (pss_one (ps_set (i := 10) scLaw.nd rfl (.inl rfl) (pe_callB (call_max2 rfl) (by rfl) T.mmax (by decide +kernel) (pa_cons (pv 9) (pa_cons (pe_op op_sub (pe_op op_add (pe_call (ok_law_of T) (hr.mono (by decide)) (by rfl) T.g_law_of T.F_law_of.kp T.b_law_of .nil pass0 (pa_cons (pv 1) (pa_cons (pv 6) pa_nil))) (pe_call (ok_law_draw T) (hr.mono (by decide)) (by rfl) T.g_law_draw T.F_law_draw.kp T.b_law_draw .nil pass0 (pa_cons (pv 1) (pa_cons pe_int pa_nil)))) pe_int) pa_nil)))))
      pss_nil)
      (pss_cons (ps_par (i := 11) (j := 12) rfl scLaw.nd rfl rfl (by decide) rfl rfl (pa_cons (pe_callTy call_list_of (by rfl) T.mlist (by decide +kernel) (pa_cons (pv 5) pa_nil)) (pa_cons (pe_makeN (mk_Stretch T) (okStretch___init__ T) (hr.mono (by decide)) (by rfl) T.gCStretch (kb_Stretch___init___3 T).choose_spec pass0 (pa_cons (pv 9) (pa_cons (pv 10) pa_nil)) pk_nil) pa_nil)) (by rfl))
      (pss_cons (ps_set (i := 13) scLaw.nd rfl (.inl rfl) (pe_meth (pv 4) (cl_Gauge T) (mt_Gauge_stands T) (okGauge_stands T) (hr.mono (by decide)) T.bGauge_stands .nil pass0 (pa_cons (pv 11) (pa_cons (pv 12) pa_nil))))
      (pss_cons (ps_if (PW.pt (pw_or (pt_not (pt_val (pe_callB call_isi (by rfl) T.misinstance (by decide +kernel) (pa_cons (pv 13) (pa_cons (pe_bltn (v := .ty "list") (u := .type "list") (by rfl) T.mlist (by decide +kernel) rfl) pa_nil))))) (pw_or (pt_not (pt_truth (pe_call (ok_law_right T) (hr.mono (by decide)) (by rfl) T.g_law_right T.F_law_right.kp T.b_law_right .nil pass0 (pa_cons (pv 3) (pa_cons (pv 5) (pa_cons (pv 13) (pa_cons (pv 9) (pa_cons (pv 10) pa_nil)))))) (by intro _; rfl))) (pw_or1 (pt_cmpR (op_neD hr.units) (pv 11) (pv 5) (nomark _))))))
      (pss_one (ps_ret pe_bl))
      pss_nil)
      (pss_cons (ps_set (i := 14) scLaw.nd rfl (.inl rfl) (pe_methA0 (E := fun _ => E0) (pv 4) (cl_Gauge T) (mt_Gauge_stands T) (okGauge_stands T) (hr.mono (by decide)) (kb_Gauge_stands_1_within_readings T) (fun _ _ _ _ _ _ _ h => h.elim) (by exact (pk_cons (pv 12) (pk_cons (pv 11) pk_nil)))))
      (pss_cons (ps_expr (pe_bm PySem.F.plainAttrs_list PySem.F.slot_list_append PySem.F.type_list_append mt_append (pv 7) (pa_cons (pe_tup (pa_cons (pv 14) (pa_cons (pe_callB (call_reprPc (k := 0) (mt_Stretch___repr__ T).at_ (mt_Stretch___repr__ T).fn (okStretch___repr__ T) T.bStretch___repr__ gd (hr.mono (by decide))) (by rfl) T.mrepr (by decide +kernel) (pa_cons (pv 14) pa_nil)) pa_nil))) pa_nil)))
      (pss_cons (ps_expr (pe_bm0 PySem.F.plainAttrs_list PySem.F.slot_list_clear PySem.F.type_list_clear mt_clear (pv 13)))
      (pss_cons (ps_if (pt_not (pt_truth (pe_call (ok_law_right T) (hr.mono (by decide)) (by rfl) T.g_law_right T.F_law_right.kp T.b_law_right .nil pass0 (pa_cons (pv 3) (pa_cons (pv 5) (pa_cons (pv 14) (pa_cons (pv 9) (pa_cons (pv 10) pa_nil)))))) (by intro _; rfl)))
      (pss_one (ps_ret pe_bl))
      pss_nil)
      (pss_one (ps_if (PW.pt (pw_and (pt_cmpR op_eq (pv 9) (pv 10) (nomark _)) (pw_and1 (pt_cmpR (op_dqB true monPc (dqB_pc (dqB_ins (okStretch___eq__ T) hspStretch (mt_Stretch___eq__ T).at_ (mt_Stretch___eq__ T).fn T.bStretch___eq__ pass0 selfStretch)) (hr.mono (by decide))) (pv 14) (pe_lst pa_nil) (nomark _)))))
      (pss_one (ps_ret pe_bl))
      pss_nil)))))))))))))
      (pss_one (ps_if (pt_cmpR (op_neD hr.units) (pe_lc (own := [("_law_one", 15), ("_law_kept", 16)]) (g := gTup K 2 (gCons (gName 15) (gCons (gName 16) gNil)))  rfl scLaw.nd (pi_list (pv 7)) (blkOk_by (N := NLaw) (own := [("_law_one", 15), ("_law_kept", 16)]) (sc := defScope sLaw) (by decide +kernel)) (fun _ _ _ _ _ => pg_tup rfl (pgs_cons (pg_name (i := 15) scLaw.nd rfl (Or.inl rfl)) (pgs_cons (pg_name (i := 16) scLaw.nd rfl (Or.inl rfl)) pgs_nil))) (fun _ _ _ _ _ => pts_one (pt_cmpR op_ne (pe_callB (r := rReprPc T.CStretch) (call_reprPc (k := 0) (mt_Stretch___repr__ T).at_ (mt_Stretch___repr__ T).fn (okStretch___repr__ T) T.bStretch___repr__ gd (hr.mono (by decide))) (by rfl) T.mrepr (by decide +kernel) (pa_cons (pv 15) pa_nil)) (pv 16) (nomark _))) (fun _ _ _ _ _ => (pv 16))) (pe_lst pa_nil) (nomark _))
      (pss_one (ps_ret pe_bl))
      pss_nil))))))))
      (pss_one (ps_ret (pe_cmpR (op_dqB false monPc (dqB_pc (dqB_ins (okStretch___eq__ T) hspStretch (mt_Stretch___eq__ T).at_ (mt_Stretch___eq__ T).fn T.bStretch___eq__ pass0 selfStretch)) (hr.mono (by decide))) (pe_meth (pe_make0 (mk_Gauge T) (okGauge___init__ T) (hr.mono (by decide)) (by rfl) T.gCGauge bGauge0 rGauge0 pass0) (cl_Gauge T) (mt_Gauge_stands T) (okGauge_stands T) (hr.mono (by decide)) T.bGauge_stands .nil pass0 (pa_cons (pe_lst pa_nil) (pa_cons (pe_makeN (mk_Stretch T) (okStretch___init__ T) (hr.mono (by decide)) (by rfl) T.gCStretch (kb_Stretch___init___3 T).choose_spec pass0 (pa_cons pe_int (pa_cons pe_int pa_nil)) pk_nil) pa_nil))) (pe_lst (pa_cons (pe_tup (pa_cons (pe_makeN (mk_Stretch T) (okStretch___init__ T) (hr.mono (by decide)) (by rfl) T.gCStretch (kb_Stretch___init___3 T).choose_spec pass0 (pa_cons pe_int (pa_cons pe_int pa_nil)) pk_nil) (pa_cons pe_str pa_nil))) pa_nil)) (nomark _))))))
      , ?_⟩
    walk_at "s"
    refine ⟨a, ns, rfl, hS, hlen, fun tp c H1 n1 n2 s01 T1 => ?_⟩
    walk_at "s"
    refine for_range (lo := 0) (n := Int.toNat 3) (fun i σ H2 => ∃ (w2 w3 w4 w5 w6 w7 w8 w9 w10 w11 w12 w13 w14 w15 w16 : Option V), σ = [some (.ref a), some (.ref tp), w2, w3, w4, w5, w6, w7, w8, w9, w10, w11, w12, w13, w14, w15, w16] ∧ Tape H2 tp c (25000 * i))
      ⟨_, _, _, _, _, _, _, _, _, _, _, _, _, _, _, rfl, T1.mono (by omega)⟩ ?_ ?_
    · rintro i σ H2 hi ⟨w2, w3, w4, w5, w6, w7, w8, w9, w10, w11, w12, w13, w14, w15, w16, rfl, T2⟩
      have hi3 : i < 3 := hi
      walk_at "s"
      refine ⟨tp, c, _, rfl, by omega, T2, fun lb g H3 elb g0 g1 g2 g3 g4 g5 nlb T3 k3 => ?_⟩
      walk_at "s"
      refine i_ixLe 0 (SqL.of elb) rfl rfl ?_
      walk_at "s"
      refine i_ixLe 1 (SqL.of elb) rfl rfl ?_
      walk_at "s"
      refine i_ixLe 2 (SqL.of elb) rfl rfl ?_
      walk_at "s"
      refine i_ixLe 3 (SqL.of elb) rfl rfl ?_
      walk_at "s"
      refine i_ixLe 4 (SqL.of elb) rfl rfl ?_
      walk_at "s"
      refine mkGg g fun xg H4 hxg hg4 s4 => ?_
      have T4 := T3.same s4
      have elb4 := s4 _ _ elb
      walk_at "s"
      intro l0 hl0
      walk_at "s"
      refine pkn T4 (by exact Nat.le_of_ble_eq_true rfl) (by exact Nat.le_of_ble_eq_true rfl) (by omega) (fun x H5 hx T5 k5 => ?_) l0 hl0
      obtain ⟨many, rfl, m0, m1⟩ : ∃ many : Int, x = .int many ∧ 0 < many ∧ many ≤ 151 := by
        simp only [List.mem_cons, List.not_mem_nil, or_false] at hx
        rcases hx with rfl | rfl | rfl | rfl <;> exact ⟨_, rfl, by decide, by decide⟩
      walk_at "s"
      refine ⟨tp, c, many, _, rfl, m0, by omega, by omega, T5, fun ls rs H6 hrs hrl hrm nls hls0 T6 k6 => ?_⟩
      have hrl151 : rs.length ≤ 151 := by omega
      have hrm0 : ∀ r ∈ rs, 0 ≤ r.m := fun r hr => (hrm r hr).1
      obtain ⟨yt4, eyt4⟩ := T4.tape
      have elb6 := (k5.trans k6) _ _ nlb elb4
      have hg6 := hg4.keep eyt4 (k5.trans k6)
      walk_at "s"
      refine ⟨lb, ls, g, rs, rfl, elb6, hrs, by omega, fun q1 H7 s7 hq0 hq => ?_⟩
      walk_at "s"
      intro l1 hl1
      have hcl : (chg g rs).length = rs.length := by unfold chg; rw [List.length_map]
      refine ⟨q1, l1, _, _, rfl, rfl, upd_at hl1 hq, upd_same, le_line (by rw [List.length_map, hcl]; show _ + 2 ≤ _; omega), fun le hle => ?_⟩
      walk_at "s"
      intro lh hlh
      have s79 := (same_upd (o := .lst [.int 0, .int 1]) hl1).trans ((same_upd (o := .lst ((chg g rs).map V.int ++ [.int 0, .int 1])) hle).trans (same_upd (o := .lst []) hlh))
      have s69 := s7.trans s79
      have ele9 : (upd (upd (upd H7 l1 (.lst [.int 0, .int 1])) le (.lst ((chg g rs).map V.int ++ [.int 0, .int 1]))) lh (.lst [])) le = some (.lst ((chg g rs ++ [0, 1]).map V.int)) := by
        rw [List.map_append]; exact upd_at hlh upd_same
      have elh9 : (upd (upd (upd H7 l1 (.lst [.int 0, .int 1])) le (.lst ((chg g rs).map V.int ++ [.int 0, .int 1]))) lh (.lst [])) lh = some (.lst []) := upd_same
      have T7 := T6.same s7
      have s78 := (same_upd (o := .lst [.int 0, .int 1]) hl1).trans (same_upd (o := .lst ((chg g rs).map V.int ++ [.int 0, .int 1])) hle)
      have T8 := T7.same s78
      have ele8 : (upd (upd H7 l1 (.lst [.int 0, .int 1])) le (.lst ((chg g rs).map V.int ++ [.int 0, .int 1]))) le = some (.lst ((chg g rs).map V.int ++ [.int 0, .int 1])) := upd_same
      obtain ⟨xsr, exr, hxr⟩ := id hrs
      have hes : ∀ z ∈ chg g rs ++ [0, 1], 0 ≤ z ∧ z ≤ 1004440 := fun z hz => by
        rcases List.mem_append.mp hz with hz | hz
        · obtain ⟨r, hr, rfl⟩ := List.mem_map.mp hz
          have := hrm r hr
          split <;> omega
        · simp only [List.mem_cons, List.not_mem_nil, or_false] at hz
          rcases hz with rfl | rfl <;> decide
      have hesl : 0 < (chg g rs ++ [0, 1]).length ∧ (chg g rs ++ [0, 1]).length ≤ 153 := by
        rw [List.length_append, hcl]; show 0 < _ + 2 ∧ _ + 2 ≤ _; omega
      have inn9 : Inn T.CStretch T.CGauge tp c lb xg ls le lh g rs (chg g rs ++ [0, 1]) (25000 * i + 20031) _ [] := ⟨(T6.same s69).mono (by omega), s69 _ _ elb6, hg6.same s69, hrs.same s69, ele9, elh9, (fun x hx => by cases hx), nlb, nls, (T7.same (same_upd hl1)).ne hle, T8.ne hlh, T8.nec hlh, ne_of_none ((s7.trans s78) _ _ elb6) hlh, ne_of_none ((s7.trans s78) _ _ exr) hlh, ne_of_none ele8 hlh⟩
      generalize upd (upd (upd H7 l1 (.lst [.int 0, .int 1])) le (.lst ((chg g rs).map V.int ++ [.int 0, .int 1]))) lh (.lst []) = H9 at inn9 ⊢
      generalize chg g rs ++ [0, 1] = es at hes hesl inn9
      clear ele9 elh9 ele8 s69 s79 s78 T8 T7 hxr exr xsr
      obtain ⟨xsr, exr, hxr⟩ := id inn9.ols
      walk_at "s"
      refine ⟨ls, _, rfl, .inl (SqL.of exr), ?_⟩
      walk_at "s"
      refine ite_c fun top htop => ?_
      walk_at "s"
      refine for_range (lo := 0) (n := top.toNat) (fun j σ H' => ∃ (hs : List V) (w8 w9 w10 w11 w12 w13 w14 w15 w16 : Option V), σ = [some (.ref a), some (.ref tp), some (.int (0 + (i : Int))), some (.ref lb), some (.ref xg), some (.ref ls), some (.ref le), some (.ref lh), w8, w9, w10, w11, w12, w13, w14, w15, w16] ∧ hs.length ≤ j ∧ Inn T.CStretch T.CGauge tp c lb xg ls le lh g rs es (25000 * i + 20031 + 20 * j) H' hs)
        ⟨[], _, _, _, _, _, _, _, _, _, rfl, Nat.le_refl _, inn9⟩ ?_ ?_
      · rintro j σ H10 hj ⟨hs, w8, w9, w10, w11, w12, w13, w14, w15, w16, rfl, hhl, I0⟩
        have hj4 : j < 4 := by rcases htop with rfl | rfl <;> omega
        walk_at "s"
        refine pk I0.otape I0.ole I0.nle (by rw [List.length_map]; omega) (by rw [List.length_map]; omega) (by omega) fun x H11 hx T11 k11 => ?_
        obtain ⟨z, hz, rfl⟩ := List.mem_map.mp hx
        have hzb := hes z hz
        have I11 := I0.step T11 k11
        walk_at "s"
        refine dr 5 I11.otape (by omega) (by omega) (by omega) fun d H12 d0 d1 T12 k12 => ?_
        have I12 := I11.step T12 k12
        walk_at "s"
        obtain ⟨st, hst, st0, st1⟩ : ∃ st : Int, (if z + d - 2 > 0 then z + d - 2 else 0) = st ∧ 0 ≤ st ∧ st ≤ 1004444 := ⟨_, rfl, by split <;> omega, by split <;> omega⟩
        rw [hst]
        walk_at "s"
        refine dr 90 I12.otape (by omega) (by omega) (by omega) fun d3 H13 d30 d31 T13 k13 => ?_
        have I13 := I12.step T13 k13
        walk_at "s"
        refine dr 5000 I13.otape (by omega) (by omega) (by omega) fun d4 H14 d40 d41 T14 k14 => ?_
        have I14 := I13.step T14 k14
        walk_at "s"
        intro l5 hl5
        walk_at "s"
        refine pkn I14.otape (by exact Nat.le_of_ble_eq_true rfl) (by exact Nat.le_of_ble_eq_true rfl) (by omega) (fun x H15 hx T15 k15 => ?_) l5 hl5
        obtain ⟨ad, rfl, ad0, ad1⟩ : ∃ ad : Int, x = .int ad ∧ 0 ≤ ad ∧ ad ≤ 100000000 := by
          simp only [List.mem_cons, List.not_mem_nil, or_false] at hx
          rcases hx with rfl | rfl | rfl | rfl | rfl
          · exact ⟨_, rfl, by omega, by omega⟩
          · exact ⟨_, rfl, by omega, by omega⟩
          · exact ⟨_, rfl, by omega, by omega⟩
          · exact ⟨_, rfl, by omega, by omega⟩
          · exact ⟨_, rfl, by decide, by decide⟩
        have I15 := I14.step T15 k15
        clear I14 I13 I12 I11 T11 T12 T13 T14 T15 k11 k12 k13 k14 k15
        walk_at "s"
        refine ⟨fun σ H' => ∃ (up : Int) (w11 w12 w13 w14 w15 w16 : Option V), (st ≤ up ∧ up ≤ 102000000) ∧ σ = [some (.ref a), some (.ref tp), some (.int (0 + (i : Int))), some (.ref lb), some (.ref xg), some (.ref ls), some (.ref le), some (.ref lh), some (.int (0 + (j : Int))), some (.int st), some (.int up), w11, w12, w13, w14, w15, w16] ∧ Inn T.CStretch T.CGauge tp c lb xg ls le lh g rs es (25000 * i + 20031 + 20 * j + 8) H' hs, ?_, ?_⟩
        · walk_at "s"
          refine dr 3 I15.otape (by omega) (by omega) (by omega) fun d5 H16 d50 d51 T16 k16 => ?_
          have I16 := I15.step T16 k16
          walk_at "s"
          refine ite2 (fun c5 => ?_) (fun c5 => ?_)
          · walk_at "s"
            refine pk I16.otape I16.ole I16.nle (by rw [List.length_map]; omega) (by rw [List.length_map]; omega) (by omega) fun x H17 hx T17 k17 => ?_
            obtain ⟨z2, hz2, rfl⟩ := List.mem_map.mp hx
            have hzb2 := hes z2 hz2
            have I17 := I16.step T17 k17
            walk_at "s"
            refine dr 3 I17.otape (by omega) (by omega) (by omega) fun d6 H18 d60 d61 T18 k18 => ?_
            have I18 := I17.step T18 k18
            walk_at "s"
            refine ⟨if z2 + d6 - 1 > st then z2 + d6 - 1 else st, _, _, _, _, _, _, ⟨by split <;> omega, by split <;> omega⟩, rfl, ?_⟩
            exact I18.step (I18.otape.mono (by omega)) Keep.refl
          · refine ⟨st + ad, _, _, _, _, _, _, ⟨by omega, by omega⟩, rfl, ?_⟩
            exact I16.step (I16.otape.mono (by omega)) Keep.refl
        clear I15 w8 w9 w10 w11 w12 w13 w14 w15 w16
        rintro σ H16 ⟨up, w11, w12, w13, w14, w15, w16, ⟨hsu, hub⟩, rfl, I16⟩
        obtain ⟨xs6, ex6, hx6⟩ := id I16.ols
        walk_at "s"
        refine ⟨ls, _, rfl, .inl (SqL.of ex6), fun hd hhd => ?_⟩
        have s17 := same_upd (o := .lst xs6) hhd
        have hhr : RdsAt (upd H16 hd (.lst xs6)) hd rs := ⟨xs6, upd_same, hx6.mono fun a ts e => s17 _ _ e⟩
        have I17 := I16.same s17
        generalize upd H16 hd (.lst xs6) = H17 at hhr I17 ⊢
        clear I16 ex6 hx6 s17 hhd
        walk_at "s"
        refine mkStr (a := st) (b := up) (y := .int up) (.inl rfl) hsu fun o H18 ho0 ho s18 => ?_
        have I18 := I17.same s18
        have hhr8 := hhr.same s18
        walk_at "s"
        obtain ⟨dg, eg⟩ := id I18.oxg
        refine ⟨xg, dg, _, rfl, eg, ggF_stands g, ?_⟩
        walk_at "s"
        refine ⟨xg, hd, o, g, rs, st, up, rfl, I18.oxg, hhr8, by omega, ho, fun lt ys cs H19 s19 hlt0 hlt hperm hpw hpair => ?_⟩
        have hf := stands_fch hsu hperm hpw
        have held18 : ∀ x ∈ hs, HeldAt T.CStretch [lt, tp, lh] H18 x := fun x hx => (I18.oheld x hx).add hlt0
        have nlt := I18.otape.ne hlt0
        have nltc := I18.otape.nec hlt0
        have nl1 : lb ≠ lt := ne_of_none I18.olb hlt0
        have nl2 : ls ≠ lt := by obtain ⟨_, ex, _⟩ := id I18.ols; exact ne_of_none ex hlt0
        have nl3 : le ≠ lt := ne_of_none I18.ole hlt0
        have nl4 : lh ≠ lt := ne_of_none I18.olh hlt0
        have I19 := I18.same s19
        have hhr9 := hhr8.same s19
        have ho9 := ho.same s19
        generalize standsP (standG g rs) cs up = L at hpair hf
        walk_at "s"
        refine isi_list hlt ?_
        refine ⟨_, rfl, ?_⟩
        refine ifF rfl ?_
        walk_at "s"
        refine ⟨lb, ls, lt, g, rs, ys, L, st, up, rfl, I19.olb, I19.ols, by omega, hrm0, hlt, hpair, hf, by omega, fun H20 s20 => ?_⟩
        refine ⟨_, rfl, ?_⟩
        refine ifF rfl ?_
        have I20 := I19.same s20
        have hhr0 := hhr9.same s20
        obtain ⟨zs1, ez1, hz1⟩ := id hhr0
        obtain ⟨zs2, ez2, hz2⟩ := id I20.ols
        walk_at "s"
        refine ⟨_, _, .lst (SqL.of ez1) (rds_dp hz1), .lst (SqL.of ez2) (rds_dp hz2), rds_shaped _, rds_shaped _, ?_⟩
        rw [rds_refl]
        walk_at "s"
        obtain ⟨dg2, eg2⟩ := id I20.oxg
        refine ⟨xg, dg2, _, rfl, eg2, ggF_stands g, ?_⟩
        walk_at "s"
        refine ⟨xg, hd, o, g, rs, st, up, rfl, I20.oxg, hhr0, by omega, ho9.same s20, fun la ys2 cs2 H21 s21 hla0 hla hperm2 hpw2 hpair2 => ?_⟩
        have hf2 := stands_fch hsu hperm2 hpw2
        have hcl2 := cuts_len hperm2
        have hLl2 := standsP_len (st := standG g rs) (b := up) hcl2.1
        have I21 := I20.same s21
        have hlt21 := s21 _ _ (s20 _ _ hlt)
        have nla1 : la ≠ lt := (ne_of_none (s20 _ _ hlt) hla0).symm
        have nla2 : la ≠ tp := I20.otape.ne hla0
        have nla3 : la ≠ lh := (ne_of_none I20.olh hla0).symm
        have held21 : ∀ x ∈ hs, HeldAt T.CStretch [lt, tp, lh] H21 x := fun x hx => (((held18 x hx).same s19).same s20).same s21
        generalize standsP (standG g rs) cs2 up = L2 at hpair2 hf2 hLl2
        have hsm : PcSm L2 := pcSm_of hf2 st0 (by omega) (by omega)
        walk_at "s"
        refine And.intro (.inl ⟨rfl, _, SqL.of I21.olh⟩) ?_
        walk_at "s"
        refine ⟨la, ys2, L2, rfl, hla, hpair2, hsm, ?_⟩
        walk_at "s"
        intro t ht
        have s22 := same_upd (o := .tup [.ref la, .str (pcsText L2)]) ht
        have et : (upd H21 t (.tup [.ref la, .str (pcsText L2)])) t = some (.tup [.ref la, .str (pcsText L2)]) := upd_same
        have hla2 := s22 _ _ hla
        have hpair22 : Paired (PcAt T.CStretch (upd H21 t (.tup [.ref la, .str (pcsText L2)]))) ys2 L2 := paired_mono (fun _ _ m => m.same s22) hpair2
        have hlt22 := s22 _ _ hlt21
        have I22 := I21.same s22
        have held22 : ∀ x ∈ hs, HeldAt T.CStretch [lt, tp, lh] (upd H21 t (.tup [.ref la, .str (pcsText L2)])) x := fun x hx => (held21 x hx).same s22
        generalize upd H21 t (.tup [.ref la, .str (pcsText L2)]) = H22 at et hla2 hpair22 hlt22 I22 held22 ⊢
        have hnew : HeldAt T.CStretch [lt, tp, lh] H22 (.ref t) := ⟨t, la, ys2, L2, rfl, et, hla2, hpair22, hsm, fun b hb => by
          simp only [List.mem_cons, List.not_mem_nil, or_false] at hb
          rcases hb with rfl | rfl | rfl
          · exact nla1
          · exact nla2
          · exact nla3⟩
        walk_at "s"
        refine ⟨lh, _, _, rfl, rfl, I22.olh, lt_line (by omega), ?_⟩
        have I23 := I22.app (hnew.less fun b hb => List.mem_cons_of_mem _ hb)
        have held23 : ∀ x ∈ hs ++ [.ref t], HeldAt T.CStretch [lt, tp, lh] (upd H22 lh (.lst (hs ++ [.ref t]))) x := fun x hx => by
          refine HeldAt.upd ?_ (by simp) I22.olh
          rcases List.mem_append.mp hx with hx | hx
          · exact held22 x hx
          · rw [List.mem_singleton.mp hx]; exact hnew
        have hlt23 : (upd H22 lh (.lst (hs ++ [.ref t]))) lt = some (.lst ys) := by rw [upd_ne nl4.symm]; exact hlt22
        have hla23 : (upd H22 lh (.lst (hs ++ [.ref t]))) la = some (.lst ys2) := by rw [upd_ne nla3]; exact hla2
        have hpair23 : Paired (PcAt T.CStretch (upd H22 lh (.lst (hs ++ [.ref t])))) ys2 L2 := paired_mono (fun _ _ m => m.upd I22.olh) hpair22
        generalize upd H22 lh (.lst (hs ++ [.ref t])) = H23 at I23 held23 hlt23 hla23 hpair23 ⊢
        walk_at "s"
        refine And.intro (.inl ⟨rfl, _, SqL.of hlt23⟩) ?_
        refine ⟨lt, ys, rfl, rfl, hlt23, ?_⟩
        have I24 := I23.clr (o := .lst []) hlt23 nlt nltc nl1 nl2 nl3 nl4 held23
        have hla24 : (upd H23 lt (.lst [])) la = some (.lst ys2) := by rw [upd_ne nla1]; exact hla23
        have hpair24 : Paired (PcAt T.CStretch (upd H23 lt (.lst []))) ys2 L2 := paired_mono (fun _ _ m => m.upd hlt23) hpair23
        generalize upd H23 lt (.lst []) = H24 at I24 hla24 hpair24 ⊢
        walk_at "s"
        refine ⟨lb, ls, la, g, rs, ys2, L2, st, up, rfl, I24.olb, I24.ols, by omega, hrm0, hla24, hpair24, hf2, by omega, fun H25 s25 => ?_⟩
        refine ⟨_, rfl, ?_⟩
        refine ifF rfl ?_
        walk_at "s"
        have I25 := I24.same s25
        refine ite2 (fun ce => ?_) (fun ce => ?_)
        · have hse : st = up := V.int.inj (of_decide_eq_true ce)
          walk_at "s"
          intro l6 hl6
          have e0 : L2 = [] := by
            cases L2 with
            | nil => rfl
            | cons p0 r0 =>
              obtain ⟨f1, f2, _, _, f5⟩ := hf2
              have := (fch_mem f5).1
              omega
          subst e0
          have hla25 := s25 _ _ hla24
          have hpair25 : Paired (PcAt T.CStretch (upd H25 l6 (.lst []))) ys2 [] := by
            have := Paired.length hpair24
            cases ys2 with
            | nil => exact .nil
            | cons _ _ => cases this
          refine ⟨true, pcs_eq (upd_at hl6 hla25) upd_same hpair25 .nil, fun H26 s26 => ?_⟩
          walk_at "s"
          refine ⟨hs ++ [.ref t], _, _, _, _, _, _, _, _, _, rfl, by rw [List.length_append]; show _ + 1 ≤ _; omega, ?_⟩
          have I26 := I25.same ((same_upd hl6).trans s26)
          exact I26.step (I26.otape.mono (by omega)) Keep.refl
        · walk_at "s"
          refine ⟨hs ++ [.ref t], _, _, _, _, _, _, _, _, _, rfl, by rw [List.length_append]; show _ + 1 ≤ _; omega, ?_⟩
          exact I25.step (I25.otape.mono (by omega)) Keep.refl
      · rintro σ H10 ⟨hs, w8, w9, w10, w11, w12, w13, w14, w15, w16, rfl, hhl, I0⟩
        have hht : hs.length ≤ 4 := by rcases htop with rfl | rfl <;> exact Nat.le_trans hhl (by decide)
        walk_at "s"
        refine ⟨⟨_, SqL.of I0.olh⟩, fun D hD => ?_⟩
        refine lc_list (K := K) (a := lh) (xs := hs) (fun k H' => H' D = some (.lst []) ∧ Same H10 H') ⟨upd_same, same_upd hD⟩ (fun k H' _ z => SqL.of (z.2 _ _ I0.olh)) ?_ ?_
        · rintro k y H' hy ⟨eD, s1⟩
          obtain ⟨t, p, ys, L, rfl, e1, e2, hp, hsm, _⟩ := (I0.oheld y (List.mem_of_getElem? hy)).same s1
          refine ⟨t, _, rfl, SqT.of e1, rfl, ?_⟩
          walk_at "s"
          refine ⟨p, ys, L, rfl, e2, hp, hsm, ?_⟩
          walk_at "s"
          rw [decide_eq_true rfl]
          refine ifF rfl ?_
          exact ⟨eD, s1⟩
        rintro H' ⟨eD, s1⟩
        walk_at "s"
        intro l7 hl7
        refine ⟨.list [], .list [], .lst (SqL.of (upd_at hl7 eD)) .nil, .lst (SqL.of upd_same) .nil, rfl, rfl, ?_⟩
        refine ⟨_, rfl, ?_⟩
        refine ifF rfl ?_
        refine ⟨_, _, _, _, _, _, _, _, _, _, _, _, _, _, _, rfl, ?_⟩
        exact ((I0.otape.same s1).new hl7).mono (by rcases htop with rfl | rfl <;> (simp only [Int.toNat_one, Int.reduceToNat]; omega))
    · rintro σ H2 ⟨w2, w3, w4, w5, w6, w7, w8, w9, w10, w11, w12, w13, w14, w15, w16, rfl, T2⟩
      walk_at "s"
      refine mkGg0 ⟨60, 200, 400, 5, 20⟩ fun xg H3 hx3 hg3 s3 => ?_
      obtain ⟨dg, eg⟩ := id hg3
      refine ⟨xg, dg, _, rfl, eg, ggF_stands _, ?_⟩
      walk_at "s"
      intro l1 hl1
      have hg4 := hg3.same (same_upd (o := .lst []) hl1)
      have el4 : (upd H3 l1 (.lst [])) l1 = some (.lst []) := upd_same
      generalize upd H3 l1 (.lst []) = H4 at hg4 el4 ⊢
      walk_at "s"
      refine mkStr (a := 3) (b := 9) (y := .int 9) (.inl rfl) (by decide) fun o H5 ho0 ho s5 => ?_
      walk_at "s"
      refine ⟨xg, l1, o, ⟨60, 200, 400, 5, 20⟩, [], 3, 9, rfl, hg4.same s5, ⟨[], s5 _ _ el4, .nil⟩, by decide, ho, fun lt ys cs H6 s6 hlt0 hlt hperm hpw hpair => ?_⟩
      have hcs : cs = [3] := List.perm_singleton.mp hperm
      subst hcs
      have hw3 : standG ⟨60, 200, 400, 5, 20⟩ [] 3 = ("free" : Str) := by decide +kernel
      have hL : standsP (standG ⟨60, 200, 400, 5, 20⟩ []) [3] 9 = [⟨3, 9, "free"⟩] := by rw [← hw3]; rfl
      rw [hL] at hpair
      walk_at "s"
      refine mkStr (a := 3) (b := 9) (y := .int 9) (.inl rfl) (by decide) fun o2 H7 ho20 ho2 s7 => ?_
      walk_at "s"
      intro t ht
      have s8 := same_upd (o := .tup [.ref o2, .str "free"]) ht
      have et : (upd H7 t (.tup [.ref o2, .str "free"])) t = some (.tup [.ref o2, .str "free"]) := upd_same
      have hlt8 := s8 _ _ (s7 _ _ hlt)
      have ho8 := ho2.same s8
      have hpair8 : Paired (PcAt T.CStretch (upd H7 t (.tup [.ref o2, .str "free"]))) ys [⟨3, 9, "free"⟩] := paired_mono (fun _ _ m => (m.same s7).same s8) hpair
      walk_at "s"
      intro l9 hl9
      have s9 := same_upd (o := .lst [.ref t]) hl9
      walk_at "s"
      refine ⟨true, pcs_eq (s9 _ _ hlt8) upd_same (paired_mono (fun _ _ m => m.same s9) hpair8) (.cons ⟨t, o2, rfl, s9 _ _ et, ho8.same s9⟩ .nil), fun H10 _ => ?_⟩
      exact q H10
end
set_option maxHeartbeats 0 in
theorem all_mk {l : PySem.W.OpenLaw} {w : World} {K : PySem.W.Frag} {h : Heap} {mg : Str → Option Value} {fa f_wall fshow_time f_number_at f_law_feed f_law_draw f_law_of f_law_readings f_law_bounds f_law_last f_law_stand f_law_edges f_law_right flaw fStretch___init__ fStretch___eq__ fStretch___len__ fStretch___str__ fStretch___repr__ fGauge___init__ fGauge_stand fGauge_stands fGauge_last_call fGauge__changes fNoStretch___init__ CStretch CGauge CNoStretch TGauge___init__ TGauge_last_call TStretch___init__ : Addr} (X : K.In h) (G : h.Ns mainGlobals mg) (hfa : mg "law" = some (.ref fa))
    {od_wall an_wall odshow_time anshow_time od_number_at an_number_at od_law_feed an_law_feed od_law_draw an_law_draw od_law_of an_law_of od_law_readings an_law_readings od_law_bounds an_law_bounds od_law_last an_law_last od_law_stand an_law_stand od_law_edges an_law_edges od_law_right an_law_right odlaw anlaw odStretch___init__ anStretch___init__ odStretch___eq__ anStretch___eq__ odStretch___len__ anStretch___len__ odStretch___str__ anStretch___str__ odStretch___repr__ anStretch___repr__ odGauge___init__ anGauge___init__ odGauge_stand anGauge_stand odGauge_stands anGauge_stands odGauge_last_call anGauge_last_call odGauge__changes anGauge__changes odNoStretch___init__ anNoStretch___init__ odTGauge___init__ odTGauge_last_call odTStretch___init__ : Option Addr} {sl_wall slshow_time sl_number_at sl_law_feed sl_law_draw sl_law_of sl_law_readings sl_law_bounds sl_law_last sl_law_stand sl_law_edges sl_law_right sllaw slStretch___init__ slStretch___eq__ slStretch___len__ slStretch___str__ slStretch___repr__ slGauge___init__ slGauge_stand slGauge_stands slGauge_last_call slGauge__changes slNoStretch___init__ slTGauge___init__ slTGauge_last_call slTStretch___init__ : Array (Option Value)} {oc_wall kV_wall dc_wall pm_wall cd_wall ct_wall ocshow_time kVshow_time dcshow_time pmshow_time cdshow_time ctshow_time oc_number_at kV_number_at dc_number_at pm_number_at cd_number_at ct_number_at oc_law_feed kV_law_feed dc_law_feed pm_law_feed cd_law_feed ct_law_feed oc_law_draw kV_law_draw dc_law_draw pm_law_draw cd_law_draw ct_law_draw oc_law_of kV_law_of dc_law_of pm_law_of cd_law_of ct_law_of oc_law_readings kV_law_readings dc_law_readings pm_law_readings cd_law_readings ct_law_readings oc_law_bounds kV_law_bounds dc_law_bounds pm_law_bounds cd_law_bounds ct_law_bounds oc_law_last kV_law_last dc_law_last pm_law_last cd_law_last ct_law_last oc_law_stand kV_law_stand dc_law_stand pm_law_stand cd_law_stand ct_law_stand oc_law_edges kV_law_edges dc_law_edges pm_law_edges cd_law_edges ct_law_edges oc_law_right kV_law_right dc_law_right pm_law_right cd_law_right ct_law_right oclaw kVlaw dclaw pmlaw cdlaw ctlaw ocStretch___init__ kVStretch___init__ dcStretch___init__ pmStretch___init__ cdStretch___init__ ctStretch___init__ ocStretch___eq__ kVStretch___eq__ dcStretch___eq__ pmStretch___eq__ cdStretch___eq__ ctStretch___eq__ ocStretch___len__ kVStretch___len__ dcStretch___len__ pmStretch___len__ cdStretch___len__ ctStretch___len__ ocStretch___str__ kVStretch___str__ dcStretch___str__ pmStretch___str__ cdStretch___str__ ctStretch___str__ ocStretch___repr__ kVStretch___repr__ dcStretch___repr__ pmStretch___repr__ cdStretch___repr__ ctStretch___repr__ ocGauge___init__ kVGauge___init__ dcGauge___init__ pmGauge___init__ cdGauge___init__ ctGauge___init__ ocGauge_stand kVGauge_stand dcGauge_stand pmGauge_stand cdGauge_stand ctGauge_stand ocGauge_stands kVGauge_stands dcGauge_stands pmGauge_stands cdGauge_stands ctGauge_stands ocGauge_last_call kVGauge_last_call dcGauge_last_call pmGauge_last_call cdGauge_last_call ctGauge_last_call ocGauge__changes kVGauge__changes dcGauge__changes pmGauge__changes cdGauge__changes ctGauge__changes ocNoStretch___init__ kVNoStretch___init__ dcNoStretch___init__ pmNoStretch___init__ cdNoStretch___init__ ctNoStretch___init__ ocTGauge___init__ ocTGauge_last_call ocTStretch___init__ : Value} {nTGauge___init__ nTGauge_last_call nTStretch___init__ : Nat} {tdGauge___init___0 tdGauge___init___1 tdGauge___init___2 tdGauge___init___3 tdGauge___init___4 tdGauge_last_call_0 : Tok} {nmNoStretch qNoStretch : Str} {NNoStretch : Addr} {bsNoStretch : List Value} {snNoStretch : List Str} {subNoStretch : List Value} {abNoStretch : Bool} {colNoStretch : Option Bool} {ddNoStretch : Option Addr} {p0NoStretch p1NoStretch p2NoStretch p3NoStretch p5NoStretch : Option Value} {tDAY tHOUR tWATER tICE tLOST tSHUT tSLOW tFREE : Tok}
    (aNoStretch : PySem.W.nsIn K mainGlobals "NoStretch" = some (some (.ref CNoStretch)))
    (xlNoStretch : K.lookup CNoStretch = some (excClassObj nmNoStretch qNoStretch CNoStretch NNoStretch bsNoStretch [.type "ArithmeticError", .type "Exception", .type "BaseException", .type "object"] true snNoStretch subNoStretch abNoStretch colNoStretch ddNoStretch p0NoStretch p1NoStretch p2NoStretch p3NoStretch p5NoStretch "ArithmeticError.__new__"))
    (hdNoStretch : PySem.W.hasDictIn K CNoStretch = true) (saNoStretch : PySem.W.findIn K (.ref CNoStretch) "__setattr__" = some (some (.builtin "object.__setattr__"))) (exNoStretch : PySem.W.subIn K (.ref CNoStretch) (.type "BaseException") = some true) (tyNoStretch : PySem.W.typeIn K (.ref CNoStretch) = some (.type "type")) (kcNoStretch : PySem.W.keepIn K (.ref CNoStretch) = true) (icNoStretch : PySem.W.isClsIn K CNoStretch = true) (seNoStretch : PySem.W.subIn K (.ref CNoStretch) (.ref CNoStretch) = some true) (upNoStretch : PySem.W.subIn K (.ref CNoStretch) (.type "ArithmeticError") = some true)
    (gaNoStretch : PySem.W.findIn K (.ref CNoStretch) "__getattribute__" = some (some (.builtin "BaseException.__getattribute__"))) (ggNoStretch : PySem.W.findIn K (.ref CNoStretch) "__getattr__" = some none) (haNoStretch : PySem.W.findIn K (.ref CNoStretch) "__class__" = some (some (.builtin "object.__class__"))) (hnNoStretch : PySem.W.specialIn K (.builtin "object.__class__") "__get__" = some (some (.builtin "getset_descriptor.__get__"))) (htNoStretch : PySem.W.takesIn K (.builtin "object.__class__") = some true) (hmNoStretch : PySem.W.mroIn K CNoStretch (.type "object") = some true)
    (nNoStretch_first : PySem.W.findIn K (.ref CNoStretch) "first" = some none)
    (nNoStretch_behind : PySem.W.findIn K (.ref CNoStretch) "behind" = some none)
    (aStretch : PySem.W.nsIn K mainGlobals "Stretch" = some (some (.ref CStretch))) (pgStretch : PySem.W.plainGet K CStretch Str.empty = true) (hdStretch : PySem.W.hasDictIn K CStretch = true) (poStretch : PySem.W.plainOver K CStretch = true) (saStretch : PySem.W.findIn K (.ref CStretch) "__setattr__" = some (some (.builtin "object.__setattr__"))) (mkStretch : PySem.W.makesIn K CStretch = true) (kcStretch : PySem.W.keepIn K (.ref CStretch) = true)
    (haStretch : PySem.W.findIn K (.ref CStretch) "__class__" = some (some (.builtin "object.__class__"))) (hnStretch : PySem.W.specialIn K (.builtin "object.__class__") "__get__" = some (some (.builtin "getset_descriptor.__get__"))) (htStretch : PySem.W.takesIn K (.builtin "object.__class__") = some true) (hmStretch : PySem.W.mroIn K CStretch (.type "object") = some true) (nfStretch : PySem.W.notFirst K CStretch (.ref CStretch) = true)
    (nStretch_first : PySem.W.findIn K (.ref CStretch) "first" = some none)
    (nStretch_behind : PySem.W.findIn K (.ref CStretch) "behind" = some none)
    (neStretch : PySem.W.findIn K (.ref CStretch) "__ne__" = some (some (.builtin "object.__ne__"))) (icStretch : PySem.W.isClsIn K CStretch = true) (tyStretch : PySem.W.typeIn K (.ref CStretch) = some (.type "type"))
    (subStretch_NoneType : PySem.W.subIn K (.ref CStretch) (.type "NoneType") = some false) (kitStretch_NoneType : PySem.W.subIn K (.type "NoneType") (.ref CStretch) = some false) (ntStretch_NoneType : PySem.W.notFirst K CStretch (.type "NoneType") = true)
    (subStretch_int : PySem.W.subIn K (.ref CStretch) (.type "int") = some false) (kitStretch_int : PySem.W.subIn K (.type "int") (.ref CStretch) = some false) (ntStretch_int : PySem.W.notFirst K CStretch (.type "int") = true)
    (subStretch_str : PySem.W.subIn K (.ref CStretch) (.type "str") = some false) (kitStretch_str : PySem.W.subIn K (.type "str") (.ref CStretch) = some false) (ntStretch_str : PySem.W.notFirst K CStretch (.type "str") = true)
    (subStretch_list : PySem.W.subIn K (.ref CStretch) (.type "list") = some false) (kitStretch_list : PySem.W.subIn K (.type "list") (.ref CStretch) = some false) (ntStretch_list : PySem.W.notFirst K CStretch (.type "list") = true)
    (subStretch_tuple : PySem.W.subIn K (.ref CStretch) (.type "tuple") = some false) (kitStretch_tuple : PySem.W.subIn K (.type "tuple") (.ref CStretch) = some false) (ntStretch_tuple : PySem.W.notFirst K CStretch (.type "tuple") = true)
    (subStretch_dict : PySem.W.subIn K (.ref CStretch) (.type "dict") = some false) (kitStretch_dict : PySem.W.subIn K (.type "dict") (.ref CStretch) = some false) (ntStretch_dict : PySem.W.notFirst K CStretch (.type "dict") = true)
    (aStretch___init__ : PySem.W.findIn K (.ref CStretch) "__init__" = some (some (.ref fStretch___init__))) (iStretch___init__ : PySem.W.isFn K (.ref fStretch___init__) = true) (lStretch___init__ : K.lookup fStretch___init__ = some ⟨ocStretch___init__, odStretch___init__, .func (PySem.W.fnOf "__init__" "Stretch.__init__" (defArgs sSInit) (defBody sSInit) (defScope sSInit) (.ref TStretch___init__) kVStretch___init__ dcStretch___init__ pmStretch___init__ anStretch___init__ cdStretch___init__ ctStretch___init__), slStretch___init__⟩) (cStretch___init__ : PySem.W.codeIn K cdStretch___init__ "Stretch.__init__" = true) (kStretch___init__ : PySem.W.keepIn K (.ref fStretch___init__) = true)
    (dStretch___init__ : K.lookup TStretch___init__ = some ⟨ocTStretch___init__, odTStretch___init__, .seq #[.none] nTStretch___init__, slTStretch___init__⟩)
    (aStretch___eq__ : PySem.W.findIn K (.ref CStretch) "__eq__" = some (some (.ref fStretch___eq__))) (iStretch___eq__ : PySem.W.isFn K (.ref fStretch___eq__) = true) (lStretch___eq__ : K.lookup fStretch___eq__ = some ⟨ocStretch___eq__, odStretch___eq__, .func (PySem.W.fnOf "__eq__" "Stretch.__eq__" (defArgs sSEq) (defBody sSEq) (defScope sSEq) .none kVStretch___eq__ dcStretch___eq__ pmStretch___eq__ anStretch___eq__ cdStretch___eq__ ctStretch___eq__), slStretch___eq__⟩) (cStretch___eq__ : PySem.W.codeIn K cdStretch___eq__ "Stretch.__eq__" = true) (kStretch___eq__ : PySem.W.keepIn K (.ref fStretch___eq__) = true)
    (aStretch___len__ : PySem.W.findIn K (.ref CStretch) "__len__" = some (some (.ref fStretch___len__))) (iStretch___len__ : PySem.W.isFn K (.ref fStretch___len__) = true) (lStretch___len__ : K.lookup fStretch___len__ = some ⟨ocStretch___len__, odStretch___len__, .func (PySem.W.fnOf "__len__" "Stretch.__len__" (defArgs sSLen) (defBody sSLen) (defScope sSLen) .none kVStretch___len__ dcStretch___len__ pmStretch___len__ anStretch___len__ cdStretch___len__ ctStretch___len__), slStretch___len__⟩) (cStretch___len__ : PySem.W.codeIn K cdStretch___len__ "Stretch.__len__" = true) (kStretch___len__ : PySem.W.keepIn K (.ref fStretch___len__) = true)
    (aStretch___str__ : PySem.W.findIn K (.ref CStretch) "__str__" = some (some (.ref fStretch___str__))) (iStretch___str__ : PySem.W.isFn K (.ref fStretch___str__) = true) (lStretch___str__ : K.lookup fStretch___str__ = some ⟨ocStretch___str__, odStretch___str__, .func (PySem.W.fnOf "__str__" "Stretch.__str__" (defArgs sSStr) (defBody sSStr) (defScope sSStr) .none kVStretch___str__ dcStretch___str__ pmStretch___str__ anStretch___str__ cdStretch___str__ ctStretch___str__), slStretch___str__⟩) (cStretch___str__ : PySem.W.codeIn K cdStretch___str__ "Stretch.__str__" = true) (kStretch___str__ : PySem.W.keepIn K (.ref fStretch___str__) = true)
    (aStretch___repr__ : PySem.W.findIn K (.ref CStretch) "__repr__" = some (some (.ref fStretch___repr__))) (iStretch___repr__ : PySem.W.isFn K (.ref fStretch___repr__) = true) (lStretch___repr__ : K.lookup fStretch___repr__ = some ⟨ocStretch___repr__, odStretch___repr__, .func (PySem.W.fnOf "__repr__" "Stretch.__repr__" (defArgs sSRepr) (defBody sSRepr) (defScope sSRepr) .none kVStretch___repr__ dcStretch___repr__ pmStretch___repr__ anStretch___repr__ cdStretch___repr__ ctStretch___repr__), slStretch___repr__⟩) (cStretch___repr__ : PySem.W.codeIn K cdStretch___repr__ "Stretch.__repr__" = true) (kStretch___repr__ : PySem.W.keepIn K (.ref fStretch___repr__) = true)
    (aGauge : PySem.W.nsIn K mainGlobals "Gauge" = some (some (.ref CGauge))) (pgGauge : PySem.W.plainGet K CGauge Str.empty = true) (hdGauge : PySem.W.hasDictIn K CGauge = true) (poGauge : PySem.W.plainOver K CGauge = true) (saGauge : PySem.W.findIn K (.ref CGauge) "__setattr__" = some (some (.builtin "object.__setattr__"))) (mkGauge : PySem.W.makesIn K CGauge = true) (kcGauge : PySem.W.keepIn K (.ref CGauge) = true)
    (haGauge : PySem.W.findIn K (.ref CGauge) "__class__" = some (some (.builtin "object.__class__"))) (hnGauge : PySem.W.specialIn K (.builtin "object.__class__") "__get__" = some (some (.builtin "getset_descriptor.__get__"))) (htGauge : PySem.W.takesIn K (.builtin "object.__class__") = some true) (hmGauge : PySem.W.mroIn K CGauge (.type "object") = some true) (nfGauge : PySem.W.notFirst K CGauge (.ref CGauge) = true)
    (nGauge_lag : PySem.W.findIn K (.ref CGauge) "lag" = some none)
    (nGauge_high : PySem.W.findIn K (.ref CGauge) "high" = some none)
    (nGauge_top : PySem.W.findIn K (.ref CGauge) "top" = some none)
    (nGauge_thin : PySem.W.findIn K (.ref CGauge) "thin" = some none)
    (nGauge_thick : PySem.W.findIn K (.ref CGauge) "thick" = some none)
    (aGauge___init__ : PySem.W.findIn K (.ref CGauge) "__init__" = some (some (.ref fGauge___init__))) (iGauge___init__ : PySem.W.isFn K (.ref fGauge___init__) = true) (lGauge___init__ : K.lookup fGauge___init__ = some ⟨ocGauge___init__, odGauge___init__, .func (PySem.W.fnOf "__init__" "Gauge.__init__" (defArgs sGInit) (defBody sGInit) (defScope sGInit) (.ref TGauge___init__) kVGauge___init__ dcGauge___init__ pmGauge___init__ anGauge___init__ cdGauge___init__ ctGauge___init__), slGauge___init__⟩) (cGauge___init__ : PySem.W.codeIn K cdGauge___init__ "Gauge.__init__" = true) (kGauge___init__ : PySem.W.keepIn K (.ref fGauge___init__) = true)
    (dGauge___init__ : K.lookup TGauge___init__ = some ⟨ocTGauge___init__, odTGauge___init__, .seq #[.int 60 tdGauge___init___0, .int 200 tdGauge___init___1, .int 400 tdGauge___init___2, .int 5 tdGauge___init___3, .int 20 tdGauge___init___4] nTGauge___init__, slTGauge___init__⟩)
    (aGauge_stand : PySem.W.findIn K (.ref CGauge) "stand" = some (some (.ref fGauge_stand))) (iGauge_stand : PySem.W.isFn K (.ref fGauge_stand) = true) (lGauge_stand : K.lookup fGauge_stand = some ⟨ocGauge_stand, odGauge_stand, .func (PySem.W.fnOf "stand" "Gauge.stand" (defArgs sGStand) (defBody sGStand) (defScope sGStand) .none kVGauge_stand dcGauge_stand pmGauge_stand anGauge_stand cdGauge_stand ctGauge_stand), slGauge_stand⟩) (cGauge_stand : PySem.W.codeIn K cdGauge_stand "Gauge.stand" = true) (kGauge_stand : PySem.W.keepIn K (.ref fGauge_stand) = true)
    (aGauge_stands : PySem.W.findIn K (.ref CGauge) "stands" = some (some (.ref fGauge_stands))) (iGauge_stands : PySem.W.isFn K (.ref fGauge_stands) = true) (lGauge_stands : K.lookup fGauge_stands = some ⟨ocGauge_stands, odGauge_stands, .func (PySem.W.fnOf "stands" "Gauge.stands" (defArgs sGaugeStands) (defBody sGaugeStands) (defScope sGaugeStands) .none kVGauge_stands dcGauge_stands pmGauge_stands anGauge_stands cdGauge_stands ctGauge_stands), slGauge_stands⟩) (cGauge_stands : PySem.W.codeIn K cdGauge_stands "Gauge.stands" = true) (kGauge_stands : PySem.W.keepIn K (.ref fGauge_stands) = true)
    (aGauge_last_call : PySem.W.findIn K (.ref CGauge) "last_call" = some (some (.ref fGauge_last_call))) (iGauge_last_call : PySem.W.isFn K (.ref fGauge_last_call) = true) (lGauge_last_call : K.lookup fGauge_last_call = some ⟨ocGauge_last_call, odGauge_last_call, .func (PySem.W.fnOf "last_call" "Gauge.last_call" (defArgs sLc) (defBody sLc) (defScope sLc) (.ref TGauge_last_call) kVGauge_last_call dcGauge_last_call pmGauge_last_call anGauge_last_call cdGauge_last_call ctGauge_last_call), slGauge_last_call⟩) (cGauge_last_call : PySem.W.codeIn K cdGauge_last_call "Gauge.last_call" = true) (kGauge_last_call : PySem.W.keepIn K (.ref fGauge_last_call) = true)
    (dGauge_last_call : K.lookup TGauge_last_call = some ⟨ocTGauge_last_call, odTGauge_last_call, .seq #[.int 120 tdGauge_last_call_0] nTGauge_last_call, slTGauge_last_call⟩)
    (aGauge__changes : PySem.W.findIn K (.ref CGauge) "_changes" = some (some (.ref fGauge__changes))) (iGauge__changes : PySem.W.isFn K (.ref fGauge__changes) = true) (lGauge__changes : K.lookup fGauge__changes = some ⟨ocGauge__changes, odGauge__changes, .func (PySem.W.fnOf "_changes" "Gauge._changes" (defArgs sChg) (defBody sChg) (defScope sChg) .none kVGauge__changes dcGauge__changes pmGauge__changes anGauge__changes cdGauge__changes ctGauge__changes), slGauge__changes⟩) (cGauge__changes : PySem.W.codeIn K cdGauge__changes "Gauge._changes" = true) (kGauge__changes : PySem.W.keepIn K (.ref fGauge__changes) = true)
    (aNoStretch___init__ : PySem.W.findIn K (.ref CNoStretch) "__init__" = some (some (.ref fNoStretch___init__))) (iNoStretch___init__ : PySem.W.isFn K (.ref fNoStretch___init__) = true) (lNoStretch___init__ : K.lookup fNoStretch___init__ = some ⟨ocNoStretch___init__, odNoStretch___init__, .func (PySem.W.fnOf "__init__" "NoStretch.__init__" (defArgs sNInit) (defBody sNInit) (defScope sNInit) .none kVNoStretch___init__ dcNoStretch___init__ pmNoStretch___init__ anNoStretch___init__ cdNoStretch___init__ ctNoStretch___init__), slNoStretch___init__⟩) (cNoStretch___init__ : PySem.W.codeIn K cdNoStretch___init__ "NoStretch.__init__" = true) (kNoStretch___init__ : PySem.W.keepIn K (.ref fNoStretch___init__) = true)
    (a_wall : PySem.W.nsIn K mainGlobals "_wall" = some (some (.ref f_wall))) (l_wall : K.lookup f_wall = some ⟨oc_wall, od_wall, .func (PySem.W.fnOf "_wall" "_wall" (defArgs sWall) (defBody sWall) (defScope sWall) .none kV_wall dc_wall pm_wall an_wall cd_wall ct_wall), sl_wall⟩) (c_wall : PySem.W.codeIn K cd_wall "_wall" = true) (k_wall : PySem.W.keepIn K (.ref f_wall) = true)
    (ashow_time : PySem.W.nsIn K mainGlobals "show_time" = some (some (.ref fshow_time))) (lshow_time : K.lookup fshow_time = some ⟨ocshow_time, odshow_time, .func (PySem.W.fnOf "show_time" "show_time" (defArgs sShow) (defBody sShow) (defScope sShow) .none kVshow_time dcshow_time pmshow_time anshow_time cdshow_time ctshow_time), slshow_time⟩) (cshow_time : PySem.W.codeIn K cdshow_time "show_time" = true) (kshow_time : PySem.W.keepIn K (.ref fshow_time) = true)
    (a_number_at : PySem.W.nsIn K mainGlobals "_number_at" = some (some (.ref f_number_at))) (l_number_at : K.lookup f_number_at = some ⟨oc_number_at, od_number_at, .func (PySem.W.fnOf "_number_at" "_number_at" (defArgs sNumAt) (defBody sNumAt) (defScope sNumAt) .none kV_number_at dc_number_at pm_number_at an_number_at cd_number_at ct_number_at), sl_number_at⟩) (c_number_at : PySem.W.codeIn K cd_number_at "_number_at" = true) (k_number_at : PySem.W.keepIn K (.ref f_number_at) = true)
    (a_law_feed : PySem.W.nsIn K mainGlobals "_law_feed" = some (some (.ref f_law_feed))) (l_law_feed : K.lookup f_law_feed = some ⟨oc_law_feed, od_law_feed, .func (PySem.W.fnOf "_law_feed" "_law_feed" (defArgs sFeed) (defBody sFeed) (defScope sFeed) .none kV_law_feed dc_law_feed pm_law_feed an_law_feed cd_law_feed ct_law_feed), sl_law_feed⟩) (c_law_feed : PySem.W.codeIn K cd_law_feed "_law_feed" = true) (k_law_feed : PySem.W.keepIn K (.ref f_law_feed) = true)
    (a_law_draw : PySem.W.nsIn K mainGlobals "_law_draw" = some (some (.ref f_law_draw))) (l_law_draw : K.lookup f_law_draw = some ⟨oc_law_draw, od_law_draw, .func (PySem.W.fnOf "_law_draw" "_law_draw" (defArgs sDraw) (defBody sDraw) (defScope sDraw) .none kV_law_draw dc_law_draw pm_law_draw an_law_draw cd_law_draw ct_law_draw), sl_law_draw⟩) (c_law_draw : PySem.W.codeIn K cd_law_draw "_law_draw" = true) (k_law_draw : PySem.W.keepIn K (.ref f_law_draw) = true)
    (a_law_of : PySem.W.nsIn K mainGlobals "_law_of" = some (some (.ref f_law_of))) (l_law_of : K.lookup f_law_of = some ⟨oc_law_of, od_law_of, .func (PySem.W.fnOf "_law_of" "_law_of" (defArgs sOf) (defBody sOf) (defScope sOf) .none kV_law_of dc_law_of pm_law_of an_law_of cd_law_of ct_law_of), sl_law_of⟩) (c_law_of : PySem.W.codeIn K cd_law_of "_law_of" = true) (k_law_of : PySem.W.keepIn K (.ref f_law_of) = true)
    (a_law_readings : PySem.W.nsIn K mainGlobals "_law_readings" = some (some (.ref f_law_readings))) (l_law_readings : K.lookup f_law_readings = some ⟨oc_law_readings, od_law_readings, .func (PySem.W.fnOf "_law_readings" "_law_readings" (defArgs sReadings) (defBody sReadings) (defScope sReadings) .none kV_law_readings dc_law_readings pm_law_readings an_law_readings cd_law_readings ct_law_readings), sl_law_readings⟩) (c_law_readings : PySem.W.codeIn K cd_law_readings "_law_readings" = true) (k_law_readings : PySem.W.keepIn K (.ref f_law_readings) = true)
    (a_law_bounds : PySem.W.nsIn K mainGlobals "_law_bounds" = some (some (.ref f_law_bounds))) (l_law_bounds : K.lookup f_law_bounds = some ⟨oc_law_bounds, od_law_bounds, .func (PySem.W.fnOf "_law_bounds" "_law_bounds" (defArgs sBounds) (defBody sBounds) (defScope sBounds) .none kV_law_bounds dc_law_bounds pm_law_bounds an_law_bounds cd_law_bounds ct_law_bounds), sl_law_bounds⟩) (c_law_bounds : PySem.W.codeIn K cd_law_bounds "_law_bounds" = true) (k_law_bounds : PySem.W.keepIn K (.ref f_law_bounds) = true)
    (a_law_last : PySem.W.nsIn K mainGlobals "_law_last" = some (some (.ref f_law_last))) (l_law_last : K.lookup f_law_last = some ⟨oc_law_last, od_law_last, .func (PySem.W.fnOf "_law_last" "_law_last" (defArgs sLast) (defBody sLast) (defScope sLast) .none kV_law_last dc_law_last pm_law_last an_law_last cd_law_last ct_law_last), sl_law_last⟩) (c_law_last : PySem.W.codeIn K cd_law_last "_law_last" = true) (k_law_last : PySem.W.keepIn K (.ref f_law_last) = true)
    (a_law_stand : PySem.W.nsIn K mainGlobals "_law_stand" = some (some (.ref f_law_stand))) (l_law_stand : K.lookup f_law_stand = some ⟨oc_law_stand, od_law_stand, .func (PySem.W.fnOf "_law_stand" "_law_stand" (defArgs sLStand) (defBody sLStand) (defScope sLStand) .none kV_law_stand dc_law_stand pm_law_stand an_law_stand cd_law_stand ct_law_stand), sl_law_stand⟩) (c_law_stand : PySem.W.codeIn K cd_law_stand "_law_stand" = true) (k_law_stand : PySem.W.keepIn K (.ref f_law_stand) = true)
    (a_law_edges : PySem.W.nsIn K mainGlobals "_law_edges" = some (some (.ref f_law_edges))) (l_law_edges : K.lookup f_law_edges = some ⟨oc_law_edges, od_law_edges, .func (PySem.W.fnOf "_law_edges" "_law_edges" (defArgs sEdges) (defBody sEdges) (defScope sEdges) .none kV_law_edges dc_law_edges pm_law_edges an_law_edges cd_law_edges ct_law_edges), sl_law_edges⟩) (c_law_edges : PySem.W.codeIn K cd_law_edges "_law_edges" = true) (k_law_edges : PySem.W.keepIn K (.ref f_law_edges) = true)
    (a_law_right : PySem.W.nsIn K mainGlobals "_law_right" = some (some (.ref f_law_right))) (l_law_right : K.lookup f_law_right = some ⟨oc_law_right, od_law_right, .func (PySem.W.fnOf "_law_right" "_law_right" (defArgs sLRight) (defBody sLRight) (defScope sLRight) .none kV_law_right dc_law_right pm_law_right an_law_right cd_law_right ct_law_right), sl_law_right⟩) (c_law_right : PySem.W.codeIn K cd_law_right "_law_right" = true) (k_law_right : PySem.W.keepIn K (.ref f_law_right) = true)
    (alaw : PySem.W.nsIn K mainGlobals "law" = some (some (.ref flaw))) (llaw : K.lookup flaw = some ⟨oclaw, odlaw, .func (PySem.W.fnOf "law" "law" (defArgs sLaw) (defBody sLaw) (defScope sLaw) .none kVlaw dclaw pmlaw anlaw cdlaw ctlaw), sllaw⟩) (claw : PySem.W.codeIn K cdlaw "law" = true) (klaw : PySem.W.keepIn K (.ref flaw) = true)
    (aDAY : PySem.W.nsIn K mainGlobals "DAY" = some (some (.int 1440 tDAY)))
    (aHOUR : PySem.W.nsIn K mainGlobals "HOUR" = some (some (.int 60 tHOUR)))
    (aWATER : PySem.W.nsIn K mainGlobals "WATER" = some (some (.str "water" tWATER)))
    (aICE : PySem.W.nsIn K mainGlobals "ICE" = some (some (.str "ice" tICE)))
    (aLOST : PySem.W.nsIn K mainGlobals "LOST" = some (some (.str "lost" tLOST)))
    (aSHUT : PySem.W.nsIn K mainGlobals "SHUT" = some (some (.str "shut" tSHUT)))
    (aSLOW : PySem.W.nsIn K mainGlobals "SLOW" = some (some (.str "slow" tSLOW)))
    (aFREE : PySem.W.nsIn K mainGlobals "FREE" = some (some (.str "free" tFREE)))
    (zArithmeticError : PySem.W.nsIn K mainGlobals "ArithmeticError" = some none)
    (zdivmod : PySem.W.nsIn K mainGlobals "divmod" = some none)
    (zint : PySem.W.nsIn K mainGlobals "int" = some none)
    (zisinstance : PySem.W.nsIn K mainGlobals "isinstance" = some none)
    (zlen : PySem.W.nsIn K mainGlobals "len" = some none)
    (zlist : PySem.W.nsIn K mainGlobals "list" = some none)
    (zmax : PySem.W.nsIn K mainGlobals "max" = some none)
    (zrange : PySem.W.nsIn K mainGlobals "range" = some none)
    (zrepr : PySem.W.nsIn K mainGlobals "repr" = some none)
    (zsorted : PySem.W.nsIn K mainGlobals "sorted" = some none)
    (zzip : PySem.W.nsIn K mainGlobals "zip" = some none)
    : ∃ fd : FuncData, (∀ (s : Shared) (v : Value), BindsTo s fd ⟨[v], []⟩ [("_law_script", v)]) ∧ ∀ base : Heap, K.In base → base.Ns mainGlobals mg → FnOkG l.prog w K mg base CX0 14 fa fd ["_law_script"] (spLaw K) := by
  have e := hfa.symm.trans (PySem.W.mg_of X G alaw)
  cases e
  have g_wall := PySem.W.mg_of X G a_wall
  have F_wall := fun_mk (st := sWall) l_wall c_wall k_wall
  have b_wall := F_wall.binds (ps := ["k"]) fun _ _ _ _ _ _ us hl => match us, hl with | [_], _ => rfl
  have gshow_time := PySem.W.mg_of X G ashow_time
  have Fshow_time := fun_mk (st := sShow) lshow_time cshow_time kshow_time
  have bshow_time := Fshow_time.binds (ps := ["minute"]) fun _ _ _ _ _ _ us hl => match us, hl with | [_], _ => rfl
  have g_number_at := PySem.W.mg_of X G a_number_at
  have F_number_at := fun_mk (st := sNumAt) l_number_at c_number_at k_number_at
  have b_number_at := F_number_at.binds (ps := ["readings", "kind", "until"]) fun _ _ _ _ _ _ us hl => match us, hl with | [_, _, _], _ => rfl
  have g_law_feed := PySem.W.mg_of X G a_law_feed
  have F_law_feed := fun_mk (st := sFeed) l_law_feed c_law_feed k_law_feed
  have b_law_feed := F_law_feed.binds (ps := ["_law_script"]) fun _ _ _ _ _ _ us hl => match us, hl with | [_], _ => rfl
  have g_law_draw := PySem.W.mg_of X G a_law_draw
  have F_law_draw := fun_mk (st := sDraw) l_law_draw c_law_draw k_law_draw
  have b_law_draw := F_law_draw.binds (ps := ["_law_feed_here", "_law_many"]) fun _ _ _ _ _ _ us hl => match us, hl with | [_, _], _ => rfl
  have g_law_of := PySem.W.mg_of X G a_law_of
  have F_law_of := fun_mk (st := sOf) l_law_of c_law_of k_law_of
  have b_law_of := F_law_of.binds (ps := ["_law_feed_here", "_law_some"]) fun _ _ _ _ _ _ us hl => match us, hl with | [_, _], _ => rfl
  have g_law_readings := PySem.W.mg_of X G a_law_readings
  have F_law_readings := fun_mk (st := sReadings) l_law_readings c_law_readings k_law_readings
  have b_law_readings := F_law_readings.binds (ps := ["_law_feed_here", "_law_many"]) fun _ _ _ _ _ _ us hl => match us, hl with | [_, _], _ => rfl
  have g_law_bounds := PySem.W.mg_of X G a_law_bounds
  have F_law_bounds := fun_mk (st := sBounds) l_law_bounds c_law_bounds k_law_bounds
  have b_law_bounds := F_law_bounds.binds (ps := ["_law_feed_here"]) fun _ _ _ _ _ _ us hl => match us, hl with | [_], _ => rfl
  have g_law_last := PySem.W.mg_of X G a_law_last
  have F_law_last := fun_mk (st := sLast) l_law_last c_law_last k_law_last
  have b_law_last := F_law_last.binds (ps := ["_law_rows", "_law_moment"]) fun _ _ _ _ _ _ us hl => match us, hl with | [_, _], _ => rfl
  have g_law_stand := PySem.W.mg_of X G a_law_stand
  have F_law_stand := fun_mk (st := sLStand) l_law_stand c_law_stand k_law_stand
  have b_law_stand := F_law_stand.binds (ps := ["_law_bounds_here", "_law_came", "_law_moment"]) fun _ _ _ _ _ _ us hl => match us, hl with | [_, _, _], _ => rfl
  have g_law_edges := PySem.W.mg_of X G a_law_edges
  have F_law_edges := fun_mk (st := sEdges) l_law_edges c_law_edges k_law_edges
  have b_law_edges := F_law_edges.binds (ps := ["_law_bounds_here", "_law_came"]) fun _ _ _ _ _ _ us hl => match us, hl with | [_, _], _ => rfl
  have g_law_right := PySem.W.mg_of X G a_law_right
  have F_law_right := fun_mk (st := sLRight) l_law_right c_law_right k_law_right
  have b_law_right := F_law_right.binds (ps := ["_law_bounds_here", "_law_came", "_law_told", "_law_start", "_law_upto"]) fun _ _ _ _ _ _ us hl => match us, hl with | [_, _, _, _, _], _ => rfl
  have glaw := PySem.W.mg_of X G alaw
  have Flaw := fun_mk (st := sLaw) llaw claw klaw
  have blaw := Flaw.binds (ps := ["_law_script"]) fun _ _ _ _ _ _ us hl => match us, hl with | [_], _ => rfl
  have oxNoStretch := oex_of PySem.F.excBase_ArithmeticError PySem.F.store_ArithmeticError xlNoStretch (by decide +kernel) hdNoStretch saNoStretch exNoStretch tyNoStretch kcNoStretch
  have gCStretch := PySem.W.mg_of X G aStretch
  have FStretch___init__ : FunDf_Stretch___init__ K fStretch___init__ _ := ⟨⟨_, _, _, _, _, _, _, _, _, _, rfl, lStretch___init__, cStretch___init__, .inr ⟨by simp, TStretch___init__, _, [.none], _, rfl, dStretch___init__, rfl, .cons rfl (.nil)⟩, .inl rfl⟩, kStretch___init__⟩
  have FStretch___eq__ := fun_mk (st := sSEq) lStretch___eq__ cStretch___eq__ kStretch___eq__
  have bStretch___eq__ := FStretch___eq__.binds (ps := ["self", "other"]) fun _ _ _ _ _ _ us hl => match us, hl with | [_, _], _ => rfl
  have FStretch___len__ := fun_mk (st := sSLen) lStretch___len__ cStretch___len__ kStretch___len__
  have bStretch___len__ := FStretch___len__.binds (ps := ["self"]) fun _ _ _ _ _ _ us hl => match us, hl with | [_], _ => rfl
  have FStretch___str__ := fun_mk (st := sSStr) lStretch___str__ cStretch___str__ kStretch___str__
  have bStretch___str__ := FStretch___str__.binds (ps := ["self"]) fun _ _ _ _ _ _ us hl => match us, hl with | [_], _ => rfl
  have FStretch___repr__ := fun_mk (st := sSRepr) lStretch___repr__ cStretch___repr__ kStretch___repr__
  have bStretch___repr__ := FStretch___repr__.binds (ps := ["self"]) fun _ _ _ _ _ _ us hl => match us, hl with | [_], _ => rfl
  have gCGauge := PySem.W.mg_of X G aGauge
  have FGauge___init__ : FunDf_Gauge___init__ K fGauge___init__ _ := ⟨⟨_, _, _, _, _, _, _, _, _, _, rfl, lGauge___init__, cGauge___init__, .inr ⟨by simp, TGauge___init__, _, [.int 60 tdGauge___init___0, .int 200 tdGauge___init___1, .int 400 tdGauge___init___2, .int 5 tdGauge___init___3, .int 20 tdGauge___init___4], _, rfl, dGauge___init__, rfl, .cons ⟨_, rfl⟩ (.cons ⟨_, rfl⟩ (.cons ⟨_, rfl⟩ (.cons ⟨_, rfl⟩ (.cons ⟨_, rfl⟩ (.nil)))))⟩, .inl rfl⟩, kGauge___init__⟩
  have FGauge_stand := fun_mk (st := sGStand) lGauge_stand cGauge_stand kGauge_stand
  have bGauge_stand := FGauge_stand.binds (ps := ["self", "readings", "minute"]) fun _ _ _ _ _ _ us hl => match us, hl with | [_, _, _], _ => rfl
  have FGauge_stands := fun_mk (st := sGaugeStands) lGauge_stands cGauge_stands kGauge_stands
  have bGauge_stands := FGauge_stands.binds (ps := ["self", "readings", "within"]) fun _ _ _ _ _ _ us hl => match us, hl with | [_, _, _], _ => rfl
  have FGauge_last_call : FunDf_Gauge_last_call K fGauge_last_call _ := ⟨⟨_, _, _, _, _, _, _, _, _, _, rfl, lGauge_last_call, cGauge_last_call, .inr ⟨by simp, TGauge_last_call, _, [.int 120 tdGauge_last_call_0], _, rfl, dGauge_last_call, rfl, .cons ⟨_, rfl⟩ (.nil)⟩, .inl rfl⟩, kGauge_last_call⟩
  have FGauge__changes := fun_mk (st := sChg) lGauge__changes cGauge__changes kGauge__changes
  have bGauge__changes := FGauge__changes.binds (ps := ["self", "readings"]) fun _ _ _ _ _ _ us hl => match us, hl with | [_, _], _ => rfl
  have gCNoStretch := PySem.W.mg_of X G aNoStretch
  have FNoStretch___init__ := fun_mk (st := sNInit) lNoStretch___init__ cNoStretch___init__ kNoStretch___init__
  have bNoStretch___init__ := FNoStretch___init__.binds (ps := ["self", "first", "behind"]) fun _ _ _ _ _ _ us hl => match us, hl with | [_, _, _], _ => rfl
  have mDAY := PySem.W.mg_of X G aDAY
  have mHOUR := PySem.W.mg_of X G aHOUR
  have mWATER := PySem.W.mg_of X G aWATER
  have mICE := PySem.W.mg_of X G aICE
  have mLOST := PySem.W.mg_of X G aLOST
  have mSHUT := PySem.W.mg_of X G aSHUT
  have mSLOW := PySem.W.mg_of X G aSLOW
  have mFREE := PySem.W.mg_of X G aFREE
  have mArithmeticError := PySem.W.mg_none_of X G zArithmeticError
  have mdivmod := PySem.W.mg_none_of X G zdivmod
  have mint := PySem.W.mg_none_of X G zint
  have misinstance := PySem.W.mg_none_of X G zisinstance
  have mlen := PySem.W.mg_none_of X G zlen
  have mlist := PySem.W.mg_none_of X G zlist
  have mmax := PySem.W.mg_none_of X G zmax
  have mrange := PySem.W.mg_none_of X G zrange
  have mrepr := PySem.W.mg_none_of X G zrepr
  have msorted := PySem.W.mg_none_of X G zsorted
  have mzip := PySem.W.mg_none_of X G zzip
  exact ⟨_, fun s v => .of_eq rfl, fun base _ _ => ok_law ({ f_wall := _, fd_wall := _, F_wall := F_wall, b_wall := b_wall, g_wall := g_wall, fshow_time := _, fdshow_time := _, Fshow_time := Fshow_time, bshow_time := bshow_time, gshow_time := gshow_time, f_number_at := _, fd_number_at := _, F_number_at := F_number_at, b_number_at := b_number_at, g_number_at := g_number_at, f_law_feed := _, fd_law_feed := _, F_law_feed := F_law_feed, b_law_feed := b_law_feed, g_law_feed := g_law_feed, f_law_draw := _, fd_law_draw := _, F_law_draw := F_law_draw, b_law_draw := b_law_draw, g_law_draw := g_law_draw, f_law_of := _, fd_law_of := _, F_law_of := F_law_of, b_law_of := b_law_of, g_law_of := g_law_of, f_law_readings := _, fd_law_readings := _, F_law_readings := F_law_readings, b_law_readings := b_law_readings, g_law_readings := g_law_readings, f_law_bounds := _, fd_law_bounds := _, F_law_bounds := F_law_bounds, b_law_bounds := b_law_bounds, g_law_bounds := g_law_bounds, f_law_last := _, fd_law_last := _, F_law_last := F_law_last, b_law_last := b_law_last, g_law_last := g_law_last, f_law_stand := _, fd_law_stand := _, F_law_stand := F_law_stand, b_law_stand := b_law_stand, g_law_stand := g_law_stand, f_law_edges := _, fd_law_edges := _, F_law_edges := F_law_edges, b_law_edges := b_law_edges, g_law_edges := g_law_edges, f_law_right := _, fd_law_right := _, F_law_right := F_law_right, b_law_right := b_law_right, g_law_right := g_law_right, flaw := _, fdlaw := _, Flaw := Flaw, blaw := blaw, glaw := glaw, fStretch___init__ := _, fdStretch___init__ := _, FStretch___init__ := FStretch___init__, fStretch___eq__ := _, fdStretch___eq__ := _, FStretch___eq__ := FStretch___eq__, bStretch___eq__ := bStretch___eq__, fStretch___len__ := _, fdStretch___len__ := _, FStretch___len__ := FStretch___len__, bStretch___len__ := bStretch___len__, fStretch___str__ := _, fdStretch___str__ := _, FStretch___str__ := FStretch___str__, bStretch___str__ := bStretch___str__, fStretch___repr__ := _, fdStretch___repr__ := _, FStretch___repr__ := FStretch___repr__, bStretch___repr__ := bStretch___repr__, fGauge___init__ := _, fdGauge___init__ := _, FGauge___init__ := FGauge___init__, fGauge_stand := _, fdGauge_stand := _, FGauge_stand := FGauge_stand, bGauge_stand := bGauge_stand, fGauge_stands := _, fdGauge_stands := _, FGauge_stands := FGauge_stands, bGauge_stands := bGauge_stands, fGauge_last_call := _, fdGauge_last_call := _, FGauge_last_call := FGauge_last_call, fGauge__changes := _, fdGauge__changes := _, FGauge__changes := FGauge__changes, bGauge__changes := bGauge__changes, fNoStretch___init__ := _, fdNoStretch___init__ := _, FNoStretch___init__ := FNoStretch___init__, bNoStretch___init__ := bNoStretch___init__, tDAY := _, mDAY := mDAY, tHOUR := _, mHOUR := mHOUR, tWATER := _, mWATER := mWATER, tICE := _, mICE := mICE, tLOST := _, mLOST := mLOST, tSHUT := _, mSHUT := mSHUT, tSLOW := _, mSLOW := mSLOW, tFREE := _, mFREE := mFREE, mArithmeticError := mArithmeticError, mdivmod := mdivmod, mint := mint, misinstance := misinstance, mlen := mlen, mlist := mlist, mmax := mmax, mrange := mrange, mrepr := mrepr, msorted := msorted, mzip := mzip, CStretch := _, CGauge := _, CNoStretch := _, gCNoStretch := gCNoStretch, oxNoStretch := oxNoStretch, exNoStretch := exNoStretch, hdNoStretch := hdNoStretch, tyNoStretch := tyNoStretch, icNoStretch := icNoStretch, seNoStretch := seNoStretch, upNoStretch := upNoStretch, gaNoStretch := gaNoStretch, ggNoStretch := ggNoStretch, haNoStretch := haNoStretch, hnNoStretch := hnNoStretch, htNoStretch := htNoStretch, hmNoStretch := hmNoStretch, nNoStretch_first := nNoStretch_first, nNoStretch_behind := nNoStretch_behind, aNoStretch___init__ := aNoStretch___init__, iNoStretch___init__ := iNoStretch___init__, kNoStretch___init__ := kNoStretch___init__, gCStretch := gCStretch, pgStretch := pgStretch, hdStretch := hdStretch, poStretch := poStretch, saStretch := saStretch, mkStretch := mkStretch, kcStretch := kcStretch, haStretch := haStretch, hnStretch := hnStretch, htStretch := htStretch, hmStretch := hmStretch, nfStretch := nfStretch, nStretch_first := nStretch_first, nStretch_behind := nStretch_behind, neStretch := neStretch, icStretch := icStretch, tyStretch := tyStretch, subStretch_NoneType := subStretch_NoneType, kitStretch_NoneType := kitStretch_NoneType, ntStretch_NoneType := ntStretch_NoneType, subStretch_int := subStretch_int, kitStretch_int := kitStretch_int, ntStretch_int := ntStretch_int, subStretch_str := subStretch_str, kitStretch_str := kitStretch_str, ntStretch_str := ntStretch_str, subStretch_list := subStretch_list, kitStretch_list := kitStretch_list, ntStretch_list := ntStretch_list, subStretch_tuple := subStretch_tuple, kitStretch_tuple := kitStretch_tuple, ntStretch_tuple := ntStretch_tuple, subStretch_dict := subStretch_dict, kitStretch_dict := kitStretch_dict, ntStretch_dict := ntStretch_dict, aStretch___init__ := aStretch___init__, iStretch___init__ := iStretch___init__, kStretch___init__ := kStretch___init__, aStretch___eq__ := aStretch___eq__, iStretch___eq__ := iStretch___eq__, kStretch___eq__ := kStretch___eq__, aStretch___len__ := aStretch___len__, iStretch___len__ := iStretch___len__, kStretch___len__ := kStretch___len__, aStretch___str__ := aStretch___str__, iStretch___str__ := iStretch___str__, kStretch___str__ := kStretch___str__, aStretch___repr__ := aStretch___repr__, iStretch___repr__ := iStretch___repr__, kStretch___repr__ := kStretch___repr__, gCGauge := gCGauge, pgGauge := pgGauge, hdGauge := hdGauge, poGauge := poGauge, saGauge := saGauge, mkGauge := mkGauge, kcGauge := kcGauge, haGauge := haGauge, hnGauge := hnGauge, htGauge := htGauge, hmGauge := hmGauge, nfGauge := nfGauge, nGauge_lag := nGauge_lag, nGauge_high := nGauge_high, nGauge_top := nGauge_top, nGauge_thin := nGauge_thin, nGauge_thick := nGauge_thick, aGauge___init__ := aGauge___init__, iGauge___init__ := iGauge___init__, kGauge___init__ := kGauge___init__, aGauge_stand := aGauge_stand, iGauge_stand := iGauge_stand, kGauge_stand := kGauge_stand, aGauge_stands := aGauge_stands, iGauge_stands := iGauge_stands, kGauge_stands := kGauge_stands, aGauge_last_call := aGauge_last_call, iGauge_last_call := iGauge_last_call, kGauge_last_call := kGauge_last_call, aGauge__changes := aGauge__changes, iGauge__changes := iGauge__changes, kGauge__changes := kGauge__changes } : Ev K mg)⟩
end Bb
open PySem PySem.W PyProof.Rows
set_option maxHeartbeats 0 in
theorem PySem.Challenge.cw_boatbridge_k43_stands_within_stretches_holds : PySem.Challenge.rw_boatbridge_k43_stands_within_stretches.Holds := by
  w_on; o_law; k_head; (case hw => w_witness2)
  k_fill
  refine Bb.walkG (l := PySem.Challenge.rw_boatbridge_k43_stands_within_stretches) (n := 63) (k := 14) (x := "_law_script") (sp := fun w => Bb.spLaw _) rfl (by decide) rfl ⟨rfl, by decide, by decide⟩ (fun w h Y => PySem.W.kIn_of Y) ?F (fun _ _ a ns hl _ hS => ⟨a, ns, rfl, hS, hl, fun _ => rfl⟩)
  case F =>
    intro w mg fa h KX G hmg
    refine' Bb.all_mk KX G hmg ?aNoStretch ?xlNoStretch ?hdNoStretch ?saNoStretch ?exNoStretch ?tyNoStretch ?kcNoStretch ?icNoStretch ?seNoStretch ?upNoStretch ?gaNoStretch ?ggNoStretch ?haNoStretch ?hnNoStretch ?htNoStretch ?hmNoStretch ?nNoStretch_first ?nNoStretch_behind ?aStretch ?pgStretch ?hdStretch ?poStretch ?saStretch ?mkStretch ?kcStretch ?haStretch ?hnStretch ?htStretch ?hmStretch ?nfStretch ?nStretch_first ?nStretch_behind ?neStretch ?icStretch ?tyStretch ?subStretch_NoneType ?kitStretch_NoneType ?ntStretch_NoneType ?subStretch_int ?kitStretch_int ?ntStretch_int ?subStretch_str ?kitStretch_str ?ntStretch_str ?subStretch_list ?kitStretch_list ?ntStretch_list ?subStretch_tuple ?kitStretch_tuple ?ntStretch_tuple ?subStretch_dict ?kitStretch_dict ?ntStretch_dict ?aStretch___init__ ?iStretch___init__ ?lStretch___init__ ?cStretch___init__ ?kStretch___init__ ?dStretch___init__ ?aStretch___eq__ ?iStretch___eq__ ?lStretch___eq__ ?cStretch___eq__ ?kStretch___eq__ ?aStretch___len__ ?iStretch___len__ ?lStretch___len__ ?cStretch___len__ ?kStretch___len__ ?aStretch___str__ ?iStretch___str__ ?lStretch___str__ ?cStretch___str__ ?kStretch___str__ ?aStretch___repr__ ?iStretch___repr__ ?lStretch___repr__ ?cStretch___repr__ ?kStretch___repr__ ?aGauge ?pgGauge ?hdGauge ?poGauge ?saGauge ?mkGauge ?kcGauge ?haGauge ?hnGauge ?htGauge ?hmGauge ?nfGauge ?nGauge_lag ?nGauge_high ?nGauge_top ?nGauge_thin ?nGauge_thick ?aGauge___init__ ?iGauge___init__ ?lGauge___init__ ?cGauge___init__ ?kGauge___init__ ?dGauge___init__ ?aGauge_stand ?iGauge_stand ?lGauge_stand ?cGauge_stand ?kGauge_stand ?aGauge_stands ?iGauge_stands ?lGauge_stands ?cGauge_stands ?kGauge_stands ?aGauge_last_call ?iGauge_last_call ?lGauge_last_call ?cGauge_last_call ?kGauge_last_call ?dGauge_last_call ?aGauge__changes ?iGauge__changes ?lGauge__changes ?cGauge__changes ?kGauge__changes ?aNoStretch___init__ ?iNoStretch___init__ ?lNoStretch___init__ ?cNoStretch___init__ ?kNoStretch___init__ ?a_wall ?l_wall ?c_wall ?k_wall ?ashow_time ?lshow_time ?cshow_time ?kshow_time ?a_number_at ?l_number_at ?c_number_at ?k_number_at ?a_law_feed ?l_law_feed ?c_law_feed ?k_law_feed ?a_law_draw ?l_law_draw ?c_law_draw ?k_law_draw ?a_law_of ?l_law_of ?c_law_of ?k_law_of ?a_law_readings ?l_law_readings ?c_law_readings ?k_law_readings ?a_law_bounds ?l_law_bounds ?c_law_bounds ?k_law_bounds ?a_law_last ?l_law_last ?c_law_last ?k_law_last ?a_law_stand ?l_law_stand ?c_law_stand ?k_law_stand ?a_law_edges ?l_law_edges ?c_law_edges ?k_law_edges ?a_law_right ?l_law_right ?c_law_right ?k_law_right ?alaw ?llaw ?claw ?klaw ?aDAY ?aHOUR ?aWATER ?aICE ?aLOST ?aSHUT ?aSLOW ?aFREE ?zArithmeticError ?zdivmod ?zint ?zisinstance ?zlen ?zlist ?zmax ?zrange ?zrepr ?zsorted ?zzip
    (case aNoStretch => k_is)
    (case xlNoStretch => k_is)
    (case hdNoStretch => k_is)
    (case saNoStretch => k_is)
    (case exNoStretch => k_is)
    (case tyNoStretch => k_is)
    (case kcNoStretch => k_is)
    (case icNoStretch => k_is)
    (case seNoStretch => k_is)
    (case upNoStretch => k_is)
    (case gaNoStretch => k_is)
    (case ggNoStretch => k_is)
    (case haNoStretch => k_is)
    (case hnNoStretch => k_is)
    (case htNoStretch => k_is)
    (case hmNoStretch => k_is)
    (case nNoStretch_first => k_is)
    (case nNoStretch_behind => k_is)
    (case aStretch => k_is)
    (case pgStretch => k_is)
    (case hdStretch => k_is)
    (case poStretch => k_is)
    (case saStretch => k_is)
    (case mkStretch => k_is)
    (case kcStretch => k_is)
    (case haStretch => k_is)
    (case hnStretch => k_is)
    (case htStretch => k_is)
    (case hmStretch => k_is)
    (case nfStretch => k_is)
    (case nStretch_first => k_is)
    (case nStretch_behind => k_is)
    (case neStretch => k_is)
    (case icStretch => k_is)
    (case tyStretch => k_is)
    (case subStretch_NoneType => k_is)
    (case kitStretch_NoneType => k_is)
    (case ntStretch_NoneType => k_is)
    (case subStretch_int => k_is)
    (case kitStretch_int => k_is)
    (case ntStretch_int => k_is)
    (case subStretch_str => k_is)
    (case kitStretch_str => k_is)
    (case ntStretch_str => k_is)
    (case subStretch_list => k_is)
    (case kitStretch_list => k_is)
    (case ntStretch_list => k_is)
    (case subStretch_tuple => k_is)
    (case kitStretch_tuple => k_is)
    (case ntStretch_tuple => k_is)
    (case subStretch_dict => k_is)
    (case kitStretch_dict => k_is)
    (case ntStretch_dict => k_is)
    (case aStretch___init__ => k_is)
    (case iStretch___init__ => k_is)
    (case lStretch___init__ => k_is)
    (case cStretch___init__ => k_is)
    (case kStretch___init__ => k_is)
    (case dStretch___init__ => k_is)
    (case aStretch___eq__ => k_is)
    (case iStretch___eq__ => k_is)
    (case lStretch___eq__ => k_is)
    (case cStretch___eq__ => k_is)
    (case kStretch___eq__ => k_is)
    (case aStretch___len__ => k_is)
    (case iStretch___len__ => k_is)
    (case lStretch___len__ => k_is)
    (case cStretch___len__ => k_is)
    (case kStretch___len__ => k_is)
    (case aStretch___str__ => k_is)
    (case iStretch___str__ => k_is)
    (case lStretch___str__ => k_is)
    (case cStretch___str__ => k_is)
    (case kStretch___str__ => k_is)
    (case aStretch___repr__ => k_is)
    (case iStretch___repr__ => k_is)
    (case lStretch___repr__ => k_is)
    (case cStretch___repr__ => k_is)
    (case kStretch___repr__ => k_is)
    (case aGauge => k_is)
    (case pgGauge => k_is)
    (case hdGauge => k_is)
    (case poGauge => k_is)
    (case saGauge => k_is)
    (case mkGauge => k_is)
    (case kcGauge => k_is)
    (case haGauge => k_is)
    (case hnGauge => k_is)
    (case htGauge => k_is)
    (case hmGauge => k_is)
    (case nfGauge => k_is)
    (case nGauge_lag => k_is)
    (case nGauge_high => k_is)
    (case nGauge_top => k_is)
    (case nGauge_thin => k_is)
    (case nGauge_thick => k_is)
    (case aGauge___init__ => k_is)
    (case iGauge___init__ => k_is)
    (case lGauge___init__ => k_is)
    (case cGauge___init__ => k_is)
    (case kGauge___init__ => k_is)
    (case dGauge___init__ => k_is)
    (case aGauge_stand => k_is)
    (case iGauge_stand => k_is)
    (case lGauge_stand => k_is)
    (case cGauge_stand => k_is)
    (case kGauge_stand => k_is)
    (case aGauge_stands => k_is)
    (case iGauge_stands => k_is)
    (case lGauge_stands => k_is)
    (case cGauge_stands => k_is)
    (case kGauge_stands => k_is)
    (case aGauge_last_call => k_is)
    (case iGauge_last_call => k_is)
    (case lGauge_last_call => k_is)
    (case cGauge_last_call => k_is)
    (case kGauge_last_call => k_is)
    (case dGauge_last_call => k_is)
    (case aGauge__changes => k_is)
    (case iGauge__changes => k_is)
    (case lGauge__changes => k_is)
    (case cGauge__changes => k_is)
    (case kGauge__changes => k_is)
    (case aNoStretch___init__ => k_is)
    (case iNoStretch___init__ => k_is)
    (case lNoStretch___init__ => k_is)
    (case cNoStretch___init__ => k_is)
    (case kNoStretch___init__ => k_is)
    (case a_wall => k_is)
    (case l_wall => k_is)
    (case c_wall => k_is)
    (case k_wall => k_is)
    (case ashow_time => k_is)
    (case lshow_time => k_is)
    (case cshow_time => k_is)
    (case kshow_time => k_is)
    (case a_number_at => k_is)
    (case l_number_at => k_is)
    (case c_number_at => k_is)
    (case k_number_at => k_is)
    (case a_law_feed => k_is)
    (case l_law_feed => k_is)
    (case c_law_feed => k_is)
    (case k_law_feed => k_is)
    (case a_law_draw => k_is)
    (case l_law_draw => k_is)
    (case c_law_draw => k_is)
    (case k_law_draw => k_is)
    (case a_law_of => k_is)
    (case l_law_of => k_is)
    (case c_law_of => k_is)
    (case k_law_of => k_is)
    (case a_law_readings => k_is)
    (case l_law_readings => k_is)
    (case c_law_readings => k_is)
    (case k_law_readings => k_is)
    (case a_law_bounds => k_is)
    (case l_law_bounds => k_is)
    (case c_law_bounds => k_is)
    (case k_law_bounds => k_is)
    (case a_law_last => k_is)
    (case l_law_last => k_is)
    (case c_law_last => k_is)
    (case k_law_last => k_is)
    (case a_law_stand => k_is)
    (case l_law_stand => k_is)
    (case c_law_stand => k_is)
    (case k_law_stand => k_is)
    (case a_law_edges => k_is)
    (case l_law_edges => k_is)
    (case c_law_edges => k_is)
    (case k_law_edges => k_is)
    (case a_law_right => k_is)
    (case l_law_right => k_is)
    (case c_law_right => k_is)
    (case k_law_right => k_is)
    (case alaw => k_is)
    (case llaw => k_is)
    (case claw => k_is)
    (case klaw => k_is)
    (case aDAY => k_is)
    (case aHOUR => k_is)
    (case aWATER => k_is)
    (case aICE => k_is)
    (case aLOST => k_is)
    (case aSHUT => k_is)
    (case aSLOW => k_is)
    (case aFREE => k_is)
    (case zArithmeticError => k_is)
    (case zdivmod => k_is)
    (case zint => k_is)
    (case zisinstance => k_is)
    (case zlen => k_is)
    (case zlist => k_is)
    (case zmax => k_is)
    (case zrange => k_is)
    (case zrepr => k_is)
    (case zsorted => k_is)
    (case zzip => k_is)
