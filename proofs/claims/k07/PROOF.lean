import PyProof.Rows.All
import Wide.All
import OpenK.AllK
import Wide.FinOn
import PyProof.FString3
import PyProof.InstNe
import HandS.ForMost
import HandS.FStr
import HandS.StrMore
import HandS.IsInst
import HandS.Codes
import HandS.TryOnly
import HandS.SlotsOwn
import HandS.Defaults
import HandS.MakeKw
import HandS.MakeKwOnly
import HandS.OwnEq
import KE.KCallOwn
import KE.KFmtOwn
import HandS.ExcInit
import HandS.ExcIs
import HandS.ExcField
import HandS.ExcValue
import KE.KExcIs
import KE.KExcInit
import HandS.Conv
import OpenK.KOps
import PyProof.Rows.Range3
import PyProof.ListRange
import HandS.Style
import PyProof.ReprRoads
import PyProof.ExcBaseAll.LookupError
import PyProof.ExcBaseAll.IndexError
import HandS.SortInts
import HandS.SortKw
import HandS.Star
import HandS.Flow
import HandS.WordsExc
import HandS.FStrTup
import HandS.CallSlots
import HandS.Zip
import HandS.Lambda
import HandS.EndTab
import HandS.More
import HandS.List
import PySem.Challenge.RW_boatbridge_k07_whole_stretches_part_the
set_option Elab.async false
set_option linter.all false
set_option maxRecDepth 100000
namespace Bb
open PySem PySem.Spec PyProof.Rows L2 PySem.W
open C8 (pss_cut)
open TL (tl ext_tl partition_app partition_none)
/-! ### a call with keywords alone -/
section
variable {X : Cx} {CX : CXT} {k : Nat} {f : Addr} {fd : FuncData} {ps ks : List Str} {sp : Sp} {E : XK} {x : Str} {p pos : Pos} {kws : List Keyword} {tk : TA} {g : List Value → List Value → List Value} {gV : List V → List V → List V}
theorem pe_callK0 (F : FnOk X.prog X.w X.K X.mg X.base CX k f fd ps sp) (hr : Room k X.A) (hg : Gl X x) (hm : X.mg x = some (.ref f)) (hk : PySem.W.keepIn X.K (.ref f) = true) (hb : KBinds X.K fd ps ks g gV) (hx : Passes CX X E)
    (hkw : PK X kws tk) (hall : (backToKw pos (keywordEach kws X.env)).all (·.1.isSome) = true := by rfl) (hks : (backToKw pos (keywordEach kws X.env)).filterMap (·.1) = ks := by rfl)
    (hdb : (x == ("__debug__" : Str)) = false := by decide)
    (hpl : ((backTo pos (starEach [] X.env)).any (·.1) || (backToKw pos (keywordEach kws X.env)).any (·.1.isNone)) = false := by rfl) :
    PE X (.Call (.Name x p) [] kws pos) (tCallK sp gV E tNil tk) := by
  refine ⟨fun pins s σ H Q I h => ?_⟩
  refine wpAny_Call_Name_kw (ld_glob I hg hm ?_ hdb)
  refine PySem.W.callWith_KW0 (h₀ := X.base) I.ok.mod.kin hk hall ?_ hpl
  refine thn (hkw.run pos pins s σ H _ I h) fun ws s2 ⟨zs, H2, I2, rz, q2⟩ => ⟨I2.kIn, ?_⟩
  rw [hks]
  exact run_fnk F hr hb hx I2 .nil rz q2
/-- keywords in the parameters' own order -/
theorem fun_kbinds {K : Frag} {x qual : Str} {st : Stmt} {f : Addr} {fd : FuncData} {ps ks : List Str} (F : Fun K x qual st f fd)
    (h : ∀ (kV doc pm : Value) (an : Option Addr) (cdv ct : Value) (us ws : List Value), (us ++ ws).length = ps.length → bindArgs (PySem.W.fnOf x qual (defArgs st) (defBody st) (defScope st) .none kV doc pm an cdv ct) ⟨us, ks.zip ws⟩ = pure (ps.zip (us ++ ws))) :
    KBinds K fd ps ks (· ++ ·) (· ++ ·) := by
  obtain ⟨oc, od, kV, doc, pm, an, cdv, ct, osl, rfl, lk, hcd⟩ := F.ex
  exact ⟨fun s us ws _ hl => .of_eq (h kV doc pm an cdv ct us ws hl), fun a b => a.append b⟩
theorem vals_rev : ∀ {zs : List V} {ws : List Value}, Vals zs ws → Vals zs.reverse ws.reverse
  | _, _, .nil => .nil
  | _, _, .cons r t => by
    rw [List.reverse_cons, List.reverse_cons]
    exact (vals_rev t).append (.cons r .nil)
/-- all by keywords -/
def kwAll {α : Type} (n : Nat) (us ws : List α) : List α := if us.length = 0 ∧ ws.length = n then ws else []
theorem kwAll_vals {n : Nat} {vs zs : List V} {us ws : List Value} (a : Vals vs us) (b : Vals zs ws) : Vals (kwAll n vs zs) (kwAll n us ws) := by
  unfold kwAll
  rw [a.length, b.length]
  split
  · exact b
  · exact .nil
theorem fun_kbindsA {K : Frag} {x qual : Str} {st : Stmt} {f : Addr} {fd : FuncData} {ps ks : List Str} (F : Fun K x qual st f fd) (hn : ps ≠ [])
    (h : ∀ (kV doc pm : Value) (an : Option Addr) (cdv ct : Value) (ws : List Value), ws.length = ps.length → bindArgs (PySem.W.fnOf x qual (defArgs st) (defBody st) (defScope st) .none kV doc pm an cdv ct) ⟨[], ks.zip ws⟩ = pure (ps.zip ws)) :
    KBinds K fd ps ks (kwAll ps.length) (kwAll ps.length) := by
  obtain ⟨oc, od, kV, doc, pm, an, cdv, ct, osl, rfl, lk, hcd⟩ := F.ex
  refine ⟨fun s us ws _ hl => ?_, kwAll_vals⟩
  unfold kwAll at hl ⊢
  split at hl
  · rename_i c
    rw [if_pos c, List.eq_nil_of_length_eq_zero c.1]
    exact .of_eq (h kV doc pm an cdv ct ws c.2)
  · exact absurd (List.eq_nil_of_length_eq_zero hl.symm) hn
/-- all by keywords, in the parameters' order turned about -/
theorem fun_kbindsR {K : Frag} {x qual : Str} {st : Stmt} {f : Addr} {fd : FuncData} {ps ks : List Str} (F : Fun K x qual st f fd) (hn : ps ≠ [])
    (h : ∀ (kV doc pm : Value) (an : Option Addr) (cdv ct : Value) (ws : List Value), ws.length = ps.length → bindArgs (PySem.W.fnOf x qual (defArgs st) (defBody st) (defScope st) .none kV doc pm an cdv ct) ⟨[], ks.zip ws⟩ = pure (ps.zip ws.reverse)) :
    KBinds K fd ps ks (fun us ws => (kwAll ps.length us ws).reverse) (fun us ws => (kwAll ps.length us ws).reverse) := by
  obtain ⟨oc, od, kV, doc, pm, an, cdv, ct, osl, rfl, lk, hcd⟩ := F.ex
  refine ⟨fun s us ws _ hl => ?_, fun a b => vals_rev (kwAll_vals a b)⟩
  rw [List.length_reverse] at hl
  unfold kwAll at hl ⊢
  split at hl
  · rename_i c
    rw [if_pos c, List.eq_nil_of_length_eq_zero c.1]
    exact .of_eq (h kV doc pm an cdv ct ws c.2)
  · exact absurd (List.eq_nil_of_length_eq_zero hl.symm) hn
end
/-! ### defs that are called where no repr is under way (so that repr of lists and tuples is known) -/
structure FnOkG (P : Program) (w : World) (K : PySem.W.Frag) (mg : Str → Option Value) (base : Heap) (CX : CXT) (k : Nat) (f : Addr) (fd : FuncData) (ps : List Str) (sp : Sp) : Prop where
  many : ∀ vs H Q E, sp vs H Q E → vs.length = ps.length
  goes : ∀ (A : Around) (outer : List Env) (s : Shared) (H : Hp) (args : Args) (us : List Value) (vs : List V) (Q : VK) (E : XK), A.guards = some [] → Room k A → Env0 P w K mg base A outer s H → BindsTo s fd args (ps.zip us) → Vals vs us → sp vs H Q E →
    codeAny (model P w) A (.call (.ref f) args) (CR CX outer P w H s Q E) s
theorem FnOk.g {P : Program} {w : World} {K : PySem.W.Frag} {mg : Str → Option Value} {base : Heap} {CX : CXT} {k : Nat} {f : Addr} {fd : FuncData} {ps : List Str} {sp : Sp} (F : FnOk P w K mg base CX k f fd ps sp) : FnOkG P w K mg base CX k f fd ps sp :=
  ⟨F.len, fun A o s H a us vs Q E _ => F.run A o s H a us vs Q E⟩
section
variable {P : Program} {w : World} {K : PySem.W.Frag} {mg : Str → Option Value} {base : Heap}
theorem okG {x qual : Str} {st : Stmt} {f : Addr} {fd : FuncData} {N ps : List Str} {k : Nat} {sp : Sp} (F : Fun K x qual st f fd) (S : FnScope N ps (defScope st)) (hn : ∀ vs H Q E, sp vs H Q E → vs.length = ps.length)
    (hb : ∀ (cdv : Value) (A : Around) (outer : List Env) (s : Shared) (H : Hp) (vs : List V) (Q : VK) (E : XK), A.guards = some [] → Room k (A.deeper (envOfC qual (defScope st) s.heap.objs.size f cdv)) → sp vs H Q E →
      ∃ t, PSs (cxOf CX0 P w K mg base N qual (defScope st) f cdv A outer s H E).nox (defBody st) t ∧ t { nx := fun _ H' => Q .non H', rt := Q } (start N vs) H) : FnOkG P w K mg base CX0 (k + 1) f fd ps sp := by
  obtain ⟨oc, od, kV, doc, pm, an, cdv, ct, osl, rfl, lk, hcd⟩ := F.ex
  constructor
  · exact hn
  intro A outer s H args us vs Q E gd hr env bnd rel want
  have olds : ∀ z y, base.get? z = some y → s.heap.get? z = some y := fun z y e => (env.bs z y e).1
  have inK : K.In s.heap := env.mod.kin.keeps olds
  have vis : ∀ q ∈ ps.zip us, (defScope st).names.lookup q.1 = some .local ∨ ((defScope st).names.lookup q.1 = some .cell ∧ ((cellsFrom (s.heap.objs.size + 1) (defScope st).names []).lookup q.1).isSome = true) := by
    intro q hq
    obtain ⟨n, v⟩ := q
    exact (S.par n (List.of_mem_zip hq).1).elim Or.inl fun c => Or.inr ⟨c, PySem.W.cellsFrom_some _ _ _ (Or.inl c)⟩
  apply codeAny_call_function hr.depth (inK _ _ lk) rfl S.co S.gen rfl (PySem.W.codeRec_of inK hcd)
  apply bnd
  refine wpAny_newFunctionEnv_cells S.kind vis fun env' he s1 x => ?_
  cases he
  refine ⟨(env.mod.nolimit.keeps olds).keeps x.toInCall.keep, codeAny_func ?_⟩
  obtain ⟨t, ht, hq⟩ := hb cdv A outer s H vs Q E gd (hr.deeper _) want
  have ht := ht.nox
  have J0 : L2.Inv (cxOf CX0 P w K mg base N qual (defScope st) f cdv A outer s H E) [] (start N vs) H s1 := inv_start S hr.hd env (hn _ _ _ _ want) rel x
  refine wpAny_mono (ht.run [] s1 (start N vs) H _ J0 hq) (fun fl s' z => ?_) fun _ _ z => z
  match fl, z with
  | .ret u, ⟨v, σ', H', J, rv, q⟩ => exact ⟨v, H', J.os, J.bare, J.base, J.hok, rv, q⟩
  | .next, ⟨σ', H', J, q⟩ => exact ⟨V.non, H', J.os, J.bare, J.base, J.hok, rfl, q⟩
  | .brk, ⟨_, _, _, q⟩ => exact q.elim
  | .cont, ⟨_, _, _, q⟩ => exact q.elim
end
section
variable {X : Cx} {CX : CXT} {k : Nat} {f : Addr} {fd : FuncData} {ps : List Str} {sp : Sp} {dvs : List V} {ds : List Value} {E : XK} {x : Str} {p pos : Pos} {e : Expr} {es : List Expr} {t : TA}
/-- f(e, ..), f such a def -/
theorem pe_callG (F : FnOkG X.prog X.w X.K X.mg X.base CX k f fd ps sp) (gd : X.A.guards = some []) (hr : Room k X.A) (hg : Gl X x) (hm : X.mg x = some (.ref f)) (hk : PySem.W.keepIn X.K (.ref f) = true) (hb : L2.Binds X.K fd ps ds) (hd : Vals dvs ds) (hx : Passes CX X E)
    (ha : PA X (e :: es) t) (n1 : (x == ("__debug__" : Str)) = false := by decide) (n2 : starEach (e :: es) X.env = (false, eval e X.env) :: starEach es X.env := by rfl) (n3 : (backTo pos (starEach es X.env)).any (·.1) = false := by rfl) :
    PE X (.Call (.Name x p) (e :: es) [] pos) (tCall sp dvs E t) := by
  constructor
  intro pins s σ H Q I h
  apply wpAny_Call_Name_kw (ld_glob I hg hm ?_ n1)
  refine PySem.W.callWith_K (h₀ := X.base) I.ok.mod.kin hk (thn (ha.run pos pins s σ H _ I h) ?_) n2 n3
  rintro us s1 ⟨vs, H1, I1, r, q⟩
  refine ⟨I1.kIn, ?_⟩
  have rr : Vals (vs ++ dvs) (us ++ ds) := r.append hd
  have ll : (us ++ ds).length = ps.length := rr.length.symm.trans (F.many _ _ _ _ q)
  refine wpAny_call (codeAny_mono (F.goes X.A X.stack s1 H1 ⟨us, []⟩ (us ++ ds) (vs ++ dvs) Q E gd hr I1.env0 (hb s1 us I1.kIn ll) rr q) fun z s' hz => ?_)
  match z, hz with
  | .error er, hz => exact hx pins σ H1 s1 er s' I1 hz
  | .ok (.ret u), hz => exact I1.after hz
  | .ok .next, hz => exact (show False from hz).elim
  | .ok .brk, hz => exact (show False from hz).elim
  | .ok .cont, hz => exact (show False from hz).elim
/-- repr(x) of data -/
def rReprD (K : PySem.W.Frag) : List V → Hp → VK → Prop := fun xs H Q => ∃ x d, xs = [x] ∧ Dp K H x d ∧ SeqAt.shaped d = true ∧ d.showable = true ∧ d.shown.length ≤ sizeLine ∧ Q (.str d.shown) H
theorem call_reprD (gd : X.A.guards = some []) (hr : Room k X.A) : CallR X (.builtin "repr") (rReprD X.K) := by
  intro pins s σ H xs us Q I r h
  obtain ⟨y, d, rfl, hd, sh, sw, sz, q⟩ := h
  obtain ⟨u, rfl, ru⟩ := Vals.one r
  have dd := SeqAt.depth_of_shaped sh
  have un := hr.un
  have nd : d.hasDict = true → sysModules ∉ ([] : List Addr) := fun z => by rw [PyData.hasDict_of_canLay d (SeqAt.canLay_of_shaped sh)] at z; cases z
  cases hd with
  | non =>
    cases (show u = Value.none from ru)
    exact P.repr_of_none ⟨V.str "None", H, I.tok _, ⟨_, rfl⟩, by rw [PyData.shown] at q; exact q⟩
  | bl b =>
    cases (show u = Value.bool b from ru)
    exact P.repr_of_bool ⟨V.str (if b then "True" else "False"), H, I.tok _, ⟨_, rfl⟩, by rw [PyData.shown] at q; exact q⟩
  | int i =>
    obtain ⟨t, rfl⟩ := (show ∃ t, u = Value.int i t from ru)
    refine P.repr_of_int (of_decide_eq_true (by rw [PyData.showable] at sw; exact sw)) ⟨V.str (toString i), H, I.tok _, ⟨_, rfl⟩, by rw [PyData.shown] at q; exact q⟩
  | str z =>
    obtain ⟨t, rfl⟩ := (show ∃ t, u = Value.str z t from ru)
    exact P.repr_of_str ⟨V.str (reprText z), H, I.tok _, ⟨_, rfl⟩, by rw [PyData.shown] at q; exact q⟩ (by rw [PyData.shown] at sz; exact sz)
  | lst a b =>
    obtain ⟨as, rd⟩ := Dp.reads I _ _ u (.lst a b) ru
    cases ru
    exact repr_of_reads' rd sw (fun z => by rw [PyData.hasDict_of_canLay _ (SeqAt.canLay_of_shaped sh)] at z; cases z) gd (by omega) (fun _ _ z => z) (fun h' t' tk hk => ⟨V.str (PyData.shown _), H, I.kept hk, ⟨_, rfl⟩, q⟩) sz
  | tup a b =>
    obtain ⟨as, rd⟩ := Dp.reads I _ _ u (.tup a b) ru
    cases ru
    exact repr_of_reads' rd sw (fun z => by rw [PyData.hasDict_of_canLay _ (SeqAt.canLay_of_shaped sh)] at z; cases z) gd (by omega) (fun _ _ z => z) (fun h' t' tk hk => ⟨V.str (PyData.shown _), H, I.kept hk, ⟨_, rfl⟩, q⟩) sz
end
/-! ### the law's end, for such a law -/
section
variable {P : Program} {w : World} {K : PySem.W.Frag} {mg mb : Str → Option Value} {k : Nat} {fa a : Addr} {fd : FuncData} {x : Str} {sp : Sp} {s₁ : Shared} {vs : List Value} {ns : List Int}
/-- from a heap in which nothing but the script may stand -/
theorem lawG0 (KX : K.In s₁.heap) (g1 : s₁.heap.Ns mainGlobals mg) (g2 : s₁.heap.Ns builtinsNs mb) (g3 : ∀ x : Str, x ≠ "__name__" → mb x = bootBuiltins x) (g4 : s₁.heap.NoLimit) (g5 : s₁.gens = #[])
    (ha : s₁.heap.get? a = some { cls := .type "list", data := .seq vs.toArray }) (hr : Room k callerA)
    (F : ∀ base : Heap, K.In base → base.Ns mainGlobals mg → FnOkG P w K mg base CX0 k fa fd [x] sp) (bd : ∀ (s : Shared) (u : Value), BindsTo s fd ⟨[u], []⟩ [(x, u)])
    (H : Hp) (hO : Only H) (want : sp [.ref a] H (fun v _ => v = .bl true) fun _ _ _ => False) (ok : HOk P w H s₁.heap) (hA : ∀ b, H b ≠ none → b = a) (hK : H a ≠ none → K.lookup a = none) :
    codeAny (model P w) callerA (.call (.ref fa) ⟨[.ref a], []⟩) (fun r s' => r = .ok (.ret (.bool true)) ∧ OldK s₁.heap s'.heap ∧ s'.os = s₁.os ∧ AllBare s'.gens) s₁ := by
  have noA : ∀ {b : Addr} {o : Obj} {es : Array DictEntry} {ep : Nat}, s₁.heap.get? b = some o → o.data = .dict es ep → H b = none := by
    intro b o es ep e d
    apply Classical.byContradiction
    intro z
    have e2 := e
    rw [hA b z, ha] at e2
    cases e2
    exact nomatch (show Data.seq vs.toArray _ = Data.dict es ep from d)
  have nsK : ∀ {b : Addr} {m : Str → Option Value}, s₁.heap.Ns b m → (hidT s₁.heap H).Ns b m := by
    rintro b m ⟨o, es, ep, e, d, r⟩
    exact ⟨o, es, ep, hidT_get e (noA e d), d, r⟩
  have kb : K.In (hidT s₁.heap H) := by
    intro b o e
    refine hidT_get (KX b o e) (Classical.byContradiction fun z => ?_)
    have eb := hA b z
    subst eb
    rw [hK z] at e
    cases e
  have M : Mod K mg (hidT s₁.heap H) := by
    obtain ⟨mc, h1, h2⟩ := g4
    exact ⟨kb, nsK g1, ⟨mb, nsK g2, g3⟩, ⟨mc, nsK h1, h2⟩⟩
  have e0 : Env0 P w K mg (hidT s₁.heap H) callerA [] s₁ H :=
    { frames := rfl, mod := M, bs := fun b o e => of_hidT e, bsz := Nat.le_of_eq (hidT_size _ _), funs := trivial, frf := fun b z => absurd (show b ∈ ([] : List Addr) from z) (by simp), hok := ok, bare := .of_eq g5 }
  have run := (F _ kb (nsK g1)).goes callerA [] s₁ H ⟨[.ref a], []⟩ [.ref a] [.ref a] _ _ rfl hr e0 (bd s₁ (.ref a)) (.cons rfl .nil) want
  refine codeAny_mono run fun r s' h => ?_
  match r, h with
  | .error e, h => exact (show False from h).elim
  | .ok .next, h => exact (show False from h).elim
  | .ok .brk, h => exact (show False from h).elim
  | .ok .cont, h => exact (show False from h).elim
  | .ok (.ret u), ⟨v, H', os, bare, un, ok', rv, (qv : v = .bl true)⟩ =>
    cases qv
    cases (show u = Value.bool true from rv)
    refine ⟨rfl, OldK.of_keep fun b o e => ?_, os, bare⟩
    cases q : H b with
    | none => exact un.keep b o e q (fun z => absurd (show b ∈ ([] : List Addr) from z) (by simp)) (by simp)
    | some y =>
      rcases hO b with z | ⟨ob, xs, z⟩
      · rw [z] at q; cases q
      · have f1 := (ok b _ z).1
        have f2 := (ok' b _ (un.frzs b ob _ z)).1
        rw [f1] at e
        cases e
        exact f2
theorem lawG (KX : K.In s₁.heap) (g1 : s₁.heap.Ns mainGlobals mg) (g2 : s₁.heap.Ns builtinsNs mb) (g3 : ∀ x : Str, x ≠ "__name__" → mb x = bootBuiltins x) (g4 : s₁.heap.NoLimit) (g5 : s₁.gens = #[])
    (ha : s₁.heap.get? a = some { cls := .type "list", data := .seq vs.toArray }) (hi : IntsAre vs ns) (hl : ns.length ≤ sizeLine) (hr : Room k callerA)
    (F : ∀ base : Heap, K.In base → base.Ns mainGlobals mg → FnOkG P w K mg base CX0 k fa fd [x] sp) (bd : ∀ (s : Shared) (u : Value), BindsTo s fd ⟨[u], []⟩ [(x, u)])
    (want : ∀ H : Hp, Only H → SqL K H a (ns.map V.int) → sp [.ref a] H (fun v _ => v = .bl true) fun _ _ _ => False) :
    codeAny (model P w) callerA (.call (.ref fa) ⟨[.ref a], []⟩) (fun r s' => r = .ok (.ret (.bool true)) ∧ OldK s₁.heap s'.heap ∧ s'.os = s₁.os ∧ AllBare s'.gens) s₁ := by
  have rv := vals_ints hi
  rcases hk : K.lookup a with _ | o
  · let H : Hp := fun b => if b = a then some (.frz { cls := .type "list", data := .seq vs.toArray } (.lst (ns.map V.int))) else none
    have Ha : H a = some (.frz { cls := .type "list", data := .seq vs.toArray } (.lst (ns.map V.int))) := if_pos rfl
    have Hn : ∀ b, b ≠ a → H b = none := fun b n => if_neg n
    have hO : Only H := fun b => (Classical.em (b = a)).elim (fun e => .inr ⟨_, _, e ▸ Ha⟩) fun n => .inl (Hn b n)
    have hA : ∀ b, H b ≠ none → b = a := fun b z => Classical.byContradiction fun n => z (Hn b n)
    refine lawG0 KX g1 g2 g3 g4 g5 ha hr F bd H hO (want H hO (.inl (.inr ⟨_, Ha⟩))) (fun b u z => ?_) hA fun _ => hk
    have e := hA b (by rw [z]; intro y; cases y)
    subst e
    rw [Ha] at z
    cases z
    exact ⟨ha, by rw [List.length_map]; exact hl, vs, _, rv, ha⟩
  · have e := KX a o hk
    rw [ha] at e
    cases e
    refine lawG0 KX g1 g2 g3 g4 g5 ha hr F bd (fun _ => none) (fun _ => .inl rfl) (want _ (fun _ => .inl rfl) (.inr ⟨_, vs.toArray, _, hk, rfl, rfl, rfl, by rw [List.size_toArray, hi.length]; exact hl, by simpa using rv⟩)) (fun b u z => nomatch (show (none : Option HO) = some u from z)) (fun b z => absurd rfl z) fun z => absurd rfl z
end
theorem walkG {l : PySem.W.OpenLaw} {n k : Nat} {q : Program} {loose : List Str} {XP : (Str → Option Value) → Heap → Prop} {YP : World → Heap → Prop} {d : DefRec} {K : Params → PySem.W.Frag} {sp : World → Sp} {x : Str}
    (hn : l.most = some n) (hn2 : n ≤ sizeLine) (hdf : d.params.defaults = []) (hr : Room k callerA) (hY : ∀ (w : World) (h : Heap), YP w h → (K w.params).In h)
    (F : ∀ (w : World) (mg : Str → Option Value) (fa : Addr) (h : Heap), (K w.params).In h → h.Ns mainGlobals mg → mg d.name = some (.ref fa) →
      ∃ fd : FuncData, (∀ (s : Shared) (u : Value), BindsTo s fd ⟨[u], []⟩ [(x, u)]) ∧ ∀ base : Heap, (K w.params).In base → base.Ns mainGlobals mg → FnOkG l.prog w (K w.params) mg base CX0 k fa fd [x] (sp w))
    (want : ∀ (w : World) (H : Hp) (a : Addr) (ns : List Int), ns.length ≤ n → Only H → SqL (K w.params) H a (ns.map V.int) → sp w [.ref a] H (fun v _ => v = .bl true) fun _ _ _ => False) :
    PySem.W.WalkO q loose XP YP l.row.toRowW d [] (fun f vs => PySem.call f vs) := by
  apply Att.attach_call hn hdf
  intro w s₀ s₁ mg mb fa o pm cd doc a vs ns G Y ho hd hcd hmg hobj hints hlen hg
  have KX := hY w _ Y
  obtain ⟨fd, bd, hF⟩ := F w mg fa _ KX G.T.g hmg
  exact lawG KX G.T.g G.T.b G.T.builtins G.T.nolimit hg hobj hints (Nat.le_trans hlen hn2) hr hF bd fun H hO hS => want w H a ns hlen hO hS
/-! ### an exception that is kept past its clause -/
/-- at a: an exception object of the class cls, its own dict at d -/
def keptX (cls : Value) (d : Option Addr) (a : Addr) : HO := .ext fun h => ∃ (oe : Obj) (vs : Array Value), h.get? a = some oe ∧ Zc cls d oe ∧ oe.data = .fields vs
theorem keptX_ok {P : Program} {w : World} {H : Hp} {h : Heap} {cls : Value} {d : Option Addr} {a : Addr} {oe : Obj} {vs : Array Value} (g : h.get? a = some oe) (z : Zc cls d oe) (f : oe.data = .fields vs) : ObjOk P w H h a (keptX cls d a) :=
  ⟨⟨oe, vs, g, z, f⟩, ⟨oe, g⟩, fun _ _ ⟨o, v, q, r⟩ k => ⟨o, v, k o q, r⟩⟩
theorem keptX_at {P : Program} {w : World} {H : Hp} {h : Heap} {cls : Value} {d : Option Addr} {a : Addr} (hok : HOk P w H h) (e : H a = some (keptX cls d a)) : ∃ (oe : Obj) (vs : Array Value), h.get? a = some oe ∧ Zc cls d oe ∧ oe.data = .fields vs := by
  have x : ObjOk P w H h a (.ext fun h => ∃ (oe : Obj) (vs : Array Value), h.get? a = some oe ∧ Zc cls d oe ∧ oe.data = .fields vs) := hok a _ e
  exact x.1
section
variable {X : Cx} {pins : List (Addr × Obj)} {σ : L2.St} {H : Hp} {s sI : Shared}
/-- the caught object is told to the ledger: it is none of the objects of the state sI ahead of it -/
theorem inv_keep (J : Inv X pins σ H sI) (ge : sI.heap.get? a = none) (I : Inv X pins σ H s) (hx : X.ex = []) {oe : Obj} {vs : Array Value} {cls : Value} {d : Option Addr} (ha : s.heap.get? a = some oe) (hz : Zc cls d oe) (hd : oe.data = .fields vs) (na : H a = none) :
    Inv X pins σ (upd H a (keptX cls d a)) s := by
  have ne : ∀ {b : Addr} {o : Obj}, sI.heap.get? b = some o → b ≠ a := by
    intro b o e z
    rw [z, ge] at e
    cases e
  have n0 : ∀ {b : Addr} {o : Obj}, X.s_0.heap.get? b = some o → b ≠ a := by
    intro b o e
    obtain ⟨o', e'⟩ := J.base.there b o e (by rw [hx]; exact fun z => nomatch z)
    exact ne e'
  have bs : Un X.fs X.ex X.H_0 (upd H a (keptX cls d a)) X.s_0.heap s.heap := {
    keep := I.base.keep
    slot := I.base.slot
    there := I.base.there
    free := by
      intro b o e n q
      rw [upd_ne (n0 e)]
      exact I.base.free b o e n q
    tups := by
      intro b xs e
      have z := I.base.tups b xs e
      rw [upd_ne (ne_of_none z na)]
      exact z
    frzs := by
      intro b o u e
      have z := I.base.frzs b o u e
      rw [upd_ne (ne_of_none z na)]
      exact z
    tbls := by
      intro b ps e
      obtain ⟨m, z⟩ := I.base.tbls b ps e
      exact ⟨m, by rw [upd_ne (ne_of_none z na)]; exact z⟩ }
  have fr : X.env.locals ≠ a := by
    obtain ⟨m, ⟨o, es, ep, ho, _⟩, _⟩ := J.loc
    exact ne ho
  refine ⟨I.ok, I.os, I.bare, bs, I.loc, I.cell, ?_, ?_, ?_, ?_, I.len⟩
  · rw [upd_ne fr]
    exact I.free
  · intro x c e
    obtain ⟨v, o, ho, _⟩ := J.cell x c e
    rw [upd_ne (ne ho)]
    exact I.freeC x c e
  · intro p hp
    obtain ⟨e, n, r⟩ := I.pin p hp
    refine ⟨e, ?_, r⟩
    rw [upd_ne (ne (J.pin p hp).1)]
    exact n
  · intro b o e
    by_cases hb : b = a
    · subst hb
      rw [upd_same] at e
      cases e
      exact keptX_ok ha hz hd
    · rw [upd_ne hb] at e
      refine (I.hok b o e).stay (fun c v _ q => q) (fun c q => ?_) (fun c xs q => ?_)
      · rw [upd_ne (ne_of_none q na)]
        exact q
      · rw [upd_ne (ne_of_none q na)]
        exact q
/-- into the clause's suite, no object pinned -/
theorem inv_into (I : Inv X pins σ H s) (a : Addr) : Inv (X.suite a (X.pn ++ pins)) [] σ H s where
  ok := I.ok.suite a _
  os := I.os
  bare := I.bare
  base := I.base
  loc := I.loc
  cell := I.cell
  free := I.free
  freeC := I.freeC
  pin := by
    intro p hp
    rw [List.append_nil] at hp
    exact I.pin p hp
  hok := I.hok
  len := I.len
/-- and out of it -/
theorem inv_outof {a : Addr} {pn : List (Addr × Obj)} (I : Inv (X.suite a (X.pn ++ pins)) pn σ H s) (ok : X.Ok) : Inv X pins σ H s where
  ok := ok
  os := I.os
  bare := I.bare
  base := I.base
  loc := I.loc
  cell := I.cell
  free := I.free
  freeC := I.freeC
  pin := fun p hp => I.pin p (List.mem_append_left _ hp)
  hok := I.hok
  len := I.len
end
/-- what the clause leaves: its own name is gone -/
def goneE (i : Nat) (D : Ends) : Ends where
  nx := fun σ H => D.nx (σ.set i none) H
  rt := D.rt
  bk := fun σ H => D.bk (σ.set i none) H
  ct := fun σ H => D.ct (σ.set i none) H
/-- what the clause wishes of the body's exceptions: each is caught, and stays -/
def wKeep (K : PySem.W.Frag) (c : Value) (i : Nat) (ts : Addr → Value → Option Addr → TS) (D : Ends) : WX := fun cls d σ H =>
  PySem.W.exmOne K cls c = some true ∧ ∀ a, H a = none → ts a cls d (goneE i D) (σ.set i (some (.ref a))) (upd H a (keptX cls d a))
section
variable {X : Cx} {x n : Str} {c : Value} {i : Nat} {body suite : List Stmt} {b₀ : Stmt} {np pos pos' : Pos} {tb : WX → TS} {ts : Addr → Value → Option Addr → TS}
theorem ps_try_keep (hs : X.stack = X.env :: X.outer) (hf : X.env.frame = some X.env.locals) (hex : X.ex = []) (hN : X.N.Nodup) (hi : X.N[i]? = some n) (hln : X.env.kindOf n = some .local) (hc : Names X x c)
    (hb : ∀ (W : WX) (pn : List (Addr × Obj)) (xe : Value → Shared → Prop), Takes (X.tr pn xe) W → PassesOwn (model X.prog X.w) X.A X.env xe → PSs (X.tr pn xe) body (tb W))
    (hsu : ∀ (a : Addr) (cls : Value) (d : Option Addr) (pn : List (Addr × Obj)), PSs (X.suite a pn) (b₀ :: suite) (ts a cls d)) :
    PS X (.Try body [.ExceptHandler (some (.Name x np)) (some n) (b₀ :: suite) pos'] [] [] pos) (fun D σ H => tb (wKeep X.K c i ts D) D σ H) := by
  constructor
  intro pins s σ H D I h
  have ok := I.ok
  have fr0 : X.A.frames = some (X.env :: X.outer) := by
    rw [ok.frames, hs]
  refine wpAny_Try_except ?_
  let xe' : Value → Shared → Prop := fun e s₁ => wpAny (model X.prog X.w) X.A (noteFrame e X.env) (fun _ s₂ => wpAny (model X.prog X.w) X.A (setFlight e none) (fun _ s₃ =>
    wpAny (model X.prog X.w) X.A (handleBy e X.env [.ExceptHandler (some (.Name x np)) (some n) (b₀ :: suite) pos']) (SP X pins D) X.xe s₃) X.xe s₂) X.xe s₁
  have catches : Takes (X.tr (X.pn ++ pins) xe') (wKeep X.K c i ts D) := by
    rintro u s' ⟨a, B, sI, pins', σ', H', cls, d, rfl, J', nb, up, sky, na, os, ag, hm, hyes⟩
    have J : Inv X pins σ' H' sI := J'.ofTry ok
    rw [show (X.tr (X.pn ++ pins) xe').stack = X.env :: X.outer from hs] at sky
    show wpAny (model X.prog X.w) X.A (noteFrame (.ref a) X.env) _ _ _
    refine Sky.land Zc.steady fr0 hf sky ?_
    intro h3 fl3 up3
    have J3 : Inv X pins σ' H' { s' with heap := h3 } := J.landed nb fl3.1 (up.trans up3) os ag
    refine wpAny_handleBy_cons (codeAny_handlers_test ?_) (fun q => nomatch q)
    -- the class is looked up and held against
    have look : PySem.W.Looks (model X.prog X.w) h3 (typeOf (.ref a)) cls := by
      obtain ⟨o3, v3, e3, z3, d3⟩ := fl3.there
      intro A Q E s k q
      refine wpAny_typeOf_ref (k _ _ e3) ?_
      rw [z3.1]
      exact q
    have hit := PySem.W.exm_one (M := model X.prog X.w) J3.kIn look hm
    have named : ∀ {Q : Value → Shared → Prop} {E : Value → Shared → Prop}, Q c { s' with heap := h3 } → wpAny (model X.prog X.w) (X.A.mark (some (.ref a))) (eval (.Name x np) X.env) Q E { s' with heap := h3 } := by
      intro Q E q
      have S3 := inv_into J3 a
      obtain ⟨hg, hdb, hv⟩ := hc
      rcases hv with hv | ⟨hv, hw, hn⟩
      · exact ld_glob (X := X.suite a (X.pn ++ pins)) S3 hg hv q hdb
      · exact ld_blt (X := X.suite a (X.pn ++ pins)) S3 hg hv hw q hn hdb
    refine named (hit.here (codeAny_handlers_suite_as (HandSPX.lands_againZ fl3 ?_)))
    intro h4 fl4 up4
    have J4 : Inv X pins σ' H' { s' with heap := h4 } := J.landed nb fl4.1 ((up.trans up3).trans up4) os ag
    obtain ⟨o4, v4, e4, z4, d4⟩ := fl4.there
    have ge : sI.heap.get? a = none := by
      cases q : sI.heap.get? a with
      | none => rfl
      | some o =>
        exfalso
        by_cases hm' : a ∈ frs (X.env :: X.outer)
        · obtain ⟨_, o', q', nf⟩ := fl4.2.2.1.mem hm'
          rw [e4] at q'
          cases q'
          exact nf _ d4
        · have z := nb a o q (by rw [show (X.tr (X.pn ++ pins) xe').stack = X.env :: X.outer from hs]; exact hm')
          rw [fl4.2.1] at z
          cases z
    have S4 := inv_into (inv_keep J ge J4 hex e4 z4 d4 na) a
    refine store_ok (X := X.suite a (X.pn ++ pins)) (v := .ref a) S4 hN hi (.inl hln) rfl ?_ (.inr hln)
    intro s5 S5
    refine wpAny_mono ((hsu a cls d (X.pn ++ pins)).run [] s5 _ _ (goneE i D) S5 (hyes a na)) ?_ (fun _ _ z => False.elim z)
    intro f s6 sp
    have out : ∀ {σ6 : L2.St} {H6 : Hp} {Q : Shared → Prop}, Inv (X.suite a (X.pn ++ pins)) [] σ6 H6 s6 → (∀ s7, Inv X pins (σ6.set i none) H6 s7 → Q s7) →
        wpAny (model X.prog X.w) X.A (do bindName X.env n .none; unbindBehindTheSuite X.env n pos') (fun _ s7 => Q s7) X.xe s6 := by
      intro σ6 H6 Q S6 hq
      exact gone_ok (inv_outof S6 ok) hN hi hln hq
    match f, sp with
    | .next, ⟨_, _, S6, q⟩ => exact out S6 fun s7 J7 => ⟨_, _, J7, q⟩
    | .brk, ⟨_, _, S6, q⟩ => exact out S6 fun s7 J7 => ⟨_, _, J7, q⟩
    | .cont, ⟨_, _, S6, q⟩ => exact out S6 fun s7 J7 => ⟨_, _, J7, q⟩
    | .ret u, ⟨_, _, _, S6, r, q⟩ => exact out S6 fun s7 J7 => ⟨_, _, _, J7, r, q⟩
  refine wpAny_mono ((hb (wKeep X.K c i ts D) (X.pn ++ pins) xe' catches PassesOwn.looking).run [] s σ H D (I.toTry _) h) ?_ (fun _ _ z => z)
  intro f s1 sp
  match f, sp with
  | .next, ⟨σ', H', J, q⟩ => exact wpAny_execs_nil ⟨σ', H', J.ofTry ok, q⟩
  | .brk, ⟨σ', H', J, q⟩ => exact ⟨σ', H', J.ofTry ok, q⟩
  | .cont, ⟨σ', H', J, q⟩ => exact ⟨σ', H', J.ofTry ok, q⟩
  | .ret u, ⟨v, σ', H', J, r, q⟩ => exact ⟨v, σ', H', J.ofTry ok, r, q⟩
end
/-! ### own exceptions under a class that is made by another's __new__ (KeyError, by LookupError's) -/
section
open Builtin Builtin.ObjectAttr
variable {prog : Program} {w : World} {M : Model} {A : Around} {E : Value → Shared → Prop} {R : Result → Shared → Prop} {h : Heap} {g : Array GenState} {d : Drawn} {t : Nat} {os : OsState}
variable {nm q : Str} {C N : Addr} {bs bm bmB : List Value} {hdct : Bool} {sn : List Str} {sub : List Value} {ab : Bool} {col : Option Bool} {dd : Option Addr} {k0 k1 k2 k3 k5 : Option Value} {B newId initId : String}
/-- what is asked of the classes above -/
structure Above (B : String) (bm : List Value) : Prop where
  is : bm.contains (.type B) = true
  noA : bm.contains (.type "AttributeError") = false
  noN : bm.contains (.type "NameError") = false
theorem mk_check (F : ExcBaseFacts B newId initId bmB) (T : Above B bm) {rest : List Value} {Q : Unit → Shared → Prop}
    (hC : h.get? C = some (excClassObj nm q C N bs bm hdct sn sub ab col dd k0 k1 k2 k3 k5 newId)) (hq : Q () ⟨h, g, d, t, os⟩) : wpAny M A (checkBuiltinCall newId ⟨.ref C :: rest, []⟩) Q E ⟨h, g, d, t, os⟩ := by
  have c1 : (Value.ref C :: bm).contains (.type B) = true := by
    rw [List.contains_cons, T.is, Bool.or_true]
  have c2 := F.noStar
  simp only [F.newKind, F.newSplit, F.newRow, checkBuiltinCall]
  repeat (first
    | refine wpAny_loadPart_at hC ?_
    | (refine wpAny_isSubtype_exc hC ?_; rw [c1])
    | refine wpAny_staticBase_exc hC ?_
    | refine wpAny_madeBy_exc hC ?_
    | simp only [bne_self_eq_false, Bool.false_eq_true, if_false]
    | wp_step)
  exact hq
theorem mk_new (F : ExcBaseFacts B newId initId bmB) (T : Above B bm) {rest : List Value}
    (hC : h.get? C = some (excClassObj nm q C N bs bm hdct sn sub ab col dd k0 k1 k2 k3 k5 newId)) (hz : rest.length ≤ sizeLine)
    (hq : R (.ok (.ret (.ref (h.objs.size + 1)))) ⟨(h.push (PySem.W.kdv_tup rest)).push (PySem.HandSPX.excO C h.objs.size), g, d, t, os⟩) :
    codeAny (model prog w) A (.builtin newId ⟨.ref C :: rest, []⟩) R ⟨h, g, d, t, os⟩ := by
  have ends := F.ends
  have c1 : (Value.ref C :: bm).contains (.type B) = true := by
    rw [List.contains_cons, T.is, Bool.or_true]
  have c2 : (Value.ref C :: bm).contains (.type "AttributeError") = false := by
    rw [List.contains_cons, T.noA]
    rfl
  have c3 : (Value.ref C :: bm).contains (.type "NameError") = false := by
    rw [List.contains_cons, T.noN]
    rfl
  refine PySem.codeAny_builtinAt F.entry ?_
  unfold Builtin.«BaseException.__new__»
  refine PySem.wpAt_bind ?_
  show PySem.wpAt _ _ _ (stack >>= _) _ _ _
  refine PySem.wpAt_bind (PySem.wpAt_stack ?_)
  intro p below
  refine PySem.wpAt_of_wpAny ?_
  wp_walk
  refine PySem.wpAt_of_wpAny ?_
  rw [F.owner]
  repeat (first
    | with_reducible refine wpAny_madeHere_exc F.canon hC ?_
    | with_reducible refine wpAny_loadPart_at hC ?_
    | (with_reducible refine wpAny_isSubtype_exc hC ?_; first | rw [c1] | rw [c2] | rw [c3])
    | wp_step)
  show R _ _
  rw [Heap.size_push]
  exact hq
theorem mk_type (F : ExcBaseFacts B newId initId bmB) (T : Above B bm) {rest : List Value} {fI : Addr} {Q : Fin → Shared → Prop}
    (hC : h.get? C = some (excClassObj nm q C N bs bm hdct sn sub ab col dd k0 k1 k2 k3 k5 newId)) (hi : PySem.W.Looks (model prog w) h (typeLookup (.ref C) "__init__") (some (.ref fI)))
    (hb : ∀ self, PySem.W.Looks (model prog w) h (bindSpecial (.ref fI) self) (.ref fI, [self])) (hz : rest.length ≤ sizeLine)
    (hq : codeAny (model prog w) A (.call (.ref fI) ⟨.ref (h.objs.size + 1) :: rest, []⟩) (fun r s' => match r with | .ok (.ret v) => v = .none ∧ Q (.done (.ret (.ref (h.objs.size + 1)))) s' | .ok _ => False | .error e => E e s')
      ⟨(h.push (PySem.W.kdv_tup rest)).push (PySem.HandSPX.excO C h.objs.size), g, d, t, os⟩) :
    wpAny (model prog w) A (Builtin.«type.__call__» ⟨.ref C :: rest, []⟩) Q E ⟨h, g, d, t, os⟩ := by
  have k : ∀ b o, h.get? b = some o → ((h.push (PySem.W.kdv_tup rest)).push (PySem.HandSPX.excO C h.objs.size)).get? b = some o := by
    intro b o e
    exact Heap.get?_push_of_some _ (Heap.get?_push_of_some _ e)
  have hC1 := k _ _ hC
  have got : ((h.push (PySem.W.kdv_tup rest)).push (PySem.HandSPX.excO C h.objs.size)).get? (h.objs.size + 1) = some (PySem.HandSPX.excO C h.objs.size) := by heap_get
  have self : (Value.ref C :: bm).contains (.ref C) = true := by simp
  repeat (first
    | with_reducible refine wpAny_loadPart_at hC ?_
    | with_reducible refine wpAny_madeBy_exc hC ?_
    | wp_step)
  refine codeAny_call_builtin_code (Code.quiet_builtin _ F.quiet) (mk_check F T hC (mk_new F T hC hz ?_))
  show wpAny _ _ _ _ _ _
  have look := hi.keeps k
  have bind := (hb (.ref (h.objs.size + 1))).keeps k
  unfold isInstance
  repeat (first
    | with_reducible refine wpAny_loadPart_at got ?_
    | (with_reducible refine wpAny_isSubtype_exc hC1 ?_; rw [self])
    | wp_step)
  show wpAny _ _ (typeLookup (.ref C) _) _ _ _
  refine look.at (wpAny_holding (wpAny_bind (bind.at (wpAny_bind (wpAny_call (codeAny_mono hq ?_))))))
  intro r s' z
  match r, z with
  | .error e, z => exact z
  | .ok (.ret v), ⟨e, z⟩ =>
    subst e
    first
      | exact wpAny_pure (wpAny_pure z)
      | (wp_walk; exact z)
theorem mk_call (F : ExcBaseFacts B newId initId bmB) (T : Above B bm) {rest : List Value} {fI : Addr}
    (hC : h.get? C = some (excClassObj nm q C N bs bm hdct sn sub ab col dd k0 k1 k2 k3 k5 newId)) (hi : PySem.W.Looks (model prog w) h (typeLookup (.ref C) "__init__") (some (.ref fI)))
    (hb : ∀ self, PySem.W.Looks (model prog w) h (bindSpecial (.ref fI) self) (.ref fI, [self])) (hz : rest.length ≤ sizeLine)
    (hq : codeAny (model prog w) (A.under (.builtin "type.__call__" ⟨.ref C :: rest, []⟩)) (.call (.ref fI) ⟨.ref (h.objs.size + 1) :: rest, []⟩) (PySem.W.InitBack (h.objs.size + 1) R)
      ⟨(h.push (PySem.W.kdv_tup rest)).push (PySem.HandSPX.excO C h.objs.size), g, d, t, os⟩) : codeAny (model prog w) A (.call (.ref C) ⟨rest, []⟩) R ⟨h, g, d, t, os⟩ := by
  have l1 := tc_lookup
  have l2 := tc_bind (.ref C)
  have ty : (⟨h, g, d, t, os⟩ : Shared).TypeIs (.ref C) "type" := ⟨_, hC, rfl⟩
  refine codeAny_of_tree ?_
  show wpAny _ _ (callAny (.ref C) _) _ _ _
  repeat (any_goals (first
    | assumption
    | with_reducible refine wpAny_loadPart_at hC ?_
    | wp_step))
  refine ⟨rfl, codeAny_call_builtin_at (Code.quiet_builtin _ (by decide +kernel)) entry_typeCall (wpAny_check_type_call_sub hC (mk_type F T hC hi hb hz (codeAny_mono hq ?_)))⟩
  intro r s' z
  rcases r with e | (v | _ | _ | _) <;> exact z
end
/-! ### own exceptions over any built-in class, with fields -/
section
open Builtin Builtin.ObjectAttr
/-- what the written part says of such a class -/
structure OexB (K : PySem.W.Frag) (C : Addr) : Prop where
  made : ∃ (B newId initId : String) (bmB bm : List Value) (nm q : Str) (N : Addr) (bs : List Value) (hdct : Bool) (sn : List Str) (sub : List Value) (ab : Bool) (col : Option Bool) (dd : Option Addr) (k0 k1 k2 k3 k5 : Option Value),
    PySem.ExcBaseFacts B newId initId bmB ∧ Above B bm ∧ K.lookup C = some (excClassObj nm q C N bs bm hdct sn sub ab col dd k0 k1 k2 k3 k5 newId)
  st : ∃ (T : String) (bmT : List Value), PySem.StoreFacts T bmT "object.__setattr__" "object" ∧ PySem.W.excOver K C bmT = true
  hd : PySem.W.hasDictIn K C = true
  sa : PySem.W.findIn K (.ref C) "__setattr__" = some (some (.builtin "object.__setattr__"))
  exC : PySem.W.subIn K (.ref C) (.type "BaseException") = some true
  tyC : PySem.W.typeIn K (.ref C) = some (.type "type")
  kC : PySem.W.keepIn K (.ref C) = true
theorem OexB.cd {K : PySem.W.Frag} {C : Addr} (T : OexB K C) : ∃ cd, PySem.W.clsIn K C = some cd ∧ cd.hasDict = true := PySem.W.any_some T.hd
theorem taker_none {K : PySem.W.Frag} {C : Addr} {f : Str} (h : PySem.W.findIn K (.ref C) f = some none) : PySem.W.takerIn K C f = some none := by
  unfold PySem.W.takerIn
  rw [h]
  rfl
variable {prog : Program} {w : World} {A : Around} {R : Result → Shared → Prop} {hp : Heap} {g : Array GenState} {d : Drawn} {t : Nat} {os : OsState} {K : PySem.W.Frag} {name : Str} {tk : Tok} {v : Value} {x C : Addr} {fv : Array Value}
theorem sa_first (T : OexB K C) (X : K.In hp) (hx : hp.get? x = some { cls := .ref C, data := .fields fv }) (ha : PySem.W.findIn K (.ref C) name = some none)
    (hq : ∀ h' tk' dx, (∀ b o, b ≠ x → hp.get? b = some o → h'.get? b = some o) → hp.objs.size ≤ dx → dx ≠ x → h'.get? x = some { cls := .ref C, dict := some dx, data := .fields fv } → h'.Ns1 dx (fun y => if y = name then some v else none) → R (.ok (.ret .none)) ⟨h', g, d, tk', os⟩) :
    codeAny (model prog w) A (.call (.builtin "object.__setattr__") ⟨[.ref x, .str name tk, v], []⟩) R ⟨hp, g, d, t, os⟩ := by
  obtain ⟨TT, bmT, SF, ov⟩ := T.st
  obtain ⟨cd, hcd, hdd⟩ := T.cd
  have I : PySem.W.InstAt hp x { cls := .ref C, data := .fields fv } C none := ⟨hx, rfl, rfl, trivial⟩
  have hxs : x ≠ hp.objs.size := Nat.ne_of_lt (Heap.lt_size hx)
  refine PySem.W.osa_openX SF X I ov (taker_none ha) (fun b => ?_)
  have lc : PySem.W.Looks (model prog w) hp (classData C) cd := PySem.W.looks_clsIn X hcd
  obtain ⟨z1, z2, z3, z4, z5, z6, z7, z8, z9, z10, z11⟩ := cd
  dsimp only at hdd
  subst hdd
  show wpAny _ _ (storeInOwnDict (.ref x) (.ref C) (.str name tk) name v b) _ _ _
  unfold storeInOwnDict ownDictForStores
  cases b <;>
  · repeat (first | with_reducible refine PySem.HandSPX.store_in_new ?_ ?_ | with_reducible refine wpAny_loadPart_at hx ?_ | with_reducible refine lc.at ?_ | wp_step)
    · exact ⟨_, #[], _, (Heap.get?_update_ne _ _ _ _ hxs.symm).trans (Heap.get?_push_at rfl rfl), rfl, fun e he => absurd he (by simp), fun _ => rfl⟩
    · intro h' tk' hn' hs
      have hx1 : (hp.push { cls := .type "dict", data := .dict #[] }).get? x = some { cls := .ref C, data := .fields fv } := Heap.get?_push_of_some _ hx
      refine hq h' tk' hp.objs.size ?_ (Nat.le_refl _) hxs.symm ?_ hn'
      · intro b o hb ho
        have e1 := hs.2 b (Nat.ne_of_lt (Heap.lt_size ho))
        rw [e1, Heap.get?_update_ne _ _ _ _ hb]
        exact Heap.get?_push_of_some _ ho
      · rw [hs.2 x hxs]
        exact Heap.get?_update_self _ hx1 rfl
theorem sa_further {dx : Addr} {m0 : Str → Option Value} {nl : List Str} (T : OexB K C) (X : K.In hp) (hx : hp.get? x = some { cls := .ref C, dict := some dx, data := .fields fv }) (hns : hp.Ns1 dx m0) (hw : Within m0 nl) (hz : nl.length ≤ 1000) (ha : PySem.W.findIn K (.ref C) name = some none)
    (hq : ∀ h' tk', (∀ b o, b ≠ dx → hp.get? b = some o → h'.get? b = some o) → h'.Ns1 dx (fun y => if y = name then some v else m0 y) → R (.ok (.ret .none)) ⟨h', g, d, tk', os⟩) :
    codeAny (model prog w) A (.call (.builtin "object.__setattr__") ⟨[.ref x, .str name tk, v], []⟩) R ⟨hp, g, d, t, os⟩ := by
  obtain ⟨TT, bmT, SF, ov⟩ := T.st
  obtain ⟨cd, hcd, hdd⟩ := T.cd
  obtain ⟨oD, _, _, hoD, _, _⟩ := hns.count hw
  have I : PySem.W.InstAt hp x { cls := .ref C, dict := some dx, data := .fields fv } C (some oD) := ⟨hx, rfl, rfl, hoD⟩
  refine PySem.W.osa_openX SF X I ov (taker_none ha) (fun b => ?_)
  have lc : PySem.W.Looks (model prog w) hp (classData C) cd := PySem.W.looks_clsIn X hcd
  obtain ⟨z1, z2, z3, z4, z5, z6, z7, z8, z9, z10, z11⟩ := cd
  dsimp only at hdd
  subst hdd
  show wpAny _ _ (storeInOwnDict (.ref x) (.ref C) (.str name tk) name v b) _ _ _
  unfold storeInOwnDict ownDictForStores
  cases b <;>
  · repeat (first | with_reducible refine PySem.OEX.store_in_old hns hw hz ?_ | with_reducible refine wpAny_loadPart_at hx ?_ | with_reducible refine lc.at ?_ | wp_step)
    intro h' tk' hn' hs
    exact hq h' tk' (fun b o hb ho => (hs.2 b hb).trans ho) hn'
end
section
variable {X : Cx} {pins : List (Addr × Obj)} {σ : L2.St} {H : Hp} {s : Shared} {a C dx : Addr} {f : Str} {y : V} {u : Value} {fs : List (Str × V)} {Q : Unit → Shared → Prop} {E : Value → Shared → Prop} {A : Around}
theorem put_first (T : OexB X.K C) (I : Inv X pins σ H s) (e : H a = some (exo a C none)) (hno : PySem.W.findIn X.K (.ref C) f = some none) (ry : RelV y u)
    (h : ∀ dx s', H dx = none → dx ≠ a → Inv X pins σ (upd (upd H dx (exd dx [(f, y)])) a (exo a C (some dx))) s' → Q () s') : wpAny (model X.prog X.w) A (setAttr (.ref a) f u) Q E s := by
  obtain ⟨t1, ho⟩ := exo_at I.hok e
  obtain ⟨hp, g, d, t, os⟩ := s
  refine PySem.W.set_plain I.kIn (od := none) ⟨ho, rfl, rfl, trivial⟩ T.sa (sa_first T I.kIn ho hno ?_)
  intro h' tk' dx k big ne hx hn
  have fresh : H dx = none := I.hok.fresh big
  have notd : ∀ {b : Addr} {o : Obj}, hp.get? b = some o → b ≠ dx := by
    intro b o q
    exact Nat.ne_of_lt (Nat.lt_of_lt_of_le (Heap.lt_size q) big)
  have nota : ∀ {b : Addr}, H b = none → b ≠ a := by
    intro b n z
    rw [z, e] at n
    cases n
  have step : Un X.fs [] H (upd (upd H dx (exd dx [(f, y)])) a (exo a C (some dx))) hp h' := by
    constructor
    case keep => exact fun b o q n _ _ => k b o (nota n) q
    case slot => exact fun b o q n _ _ => ⟨o.slots, k b o (nota n) q⟩
    case free =>
      intro b o q n _
      rw [upd_ne (nota n), upd_ne (notd q)]
      exact n
    case there =>
      intro b o q _
      by_cases hb : b = a
      · subst hb
        exact ⟨_, hx⟩
      · exact ⟨o, k b o hb q⟩
    case tups =>
      intro b xs q
      rw [upd_ne (at_ne e q exo_tup), upd_ne (ne_of_none q fresh)]
      exact q
    case frzs =>
      intro b o v q
      rw [upd_ne (at_ne e q exo_frz), upd_ne (ne_of_none q fresh)]
      exact q
    case tbls =>
      intro b ps q
      refine ⟨#[], ?_⟩
      rw [upd_ne (at_ne e q exo_tbl), upd_ne (ne_of_none q fresh), q]
      simp
  refine h dx _ fresh ne (I.un (t' := tk') step ?_)
  intro b o q
  by_cases hb : b = a
  · subst hb
    rw [upd_same] at q
    cases q
    exact exo_ok hx
  rw [upd_ne hb] at q
  by_cases hd : b = dx
  · subst hd
    rw [upd_same] at q
    cases q
    exact exd_ok hn (relO_put (fs := []) ry fun _ => True.intro)
  rw [upd_ne hd] at q
  refine (I.hok b o q).stay (fun c v hc z => k c v ?_ z) (fun c hc => ?_) (fun c xs hc => ?_)
  · rcases hc with rfl | hc
    · exact hb
    · exact at_ne e hc exo_own
  · rw [upd_ne (at_ne e hc exo_own), upd_ne (ne_of_none hc fresh)]
    exact hc
  · rw [upd_ne (at_ne e hc exo_tup), upd_ne (ne_of_none hc fresh)]
    exact hc
theorem put_further (T : OexB X.K C) (I : Inv X pins σ H s) (e : H a = some (exo a C (some dx))) (ed : H dx = some (exd dx fs)) (hl : fs.length ≤ 900) (hno : PySem.W.findIn X.K (.ref C) f = some none) (ry : RelV y u)
    (h : ∀ s', Inv X pins σ (upd H dx (exd dx ((f, y) :: fs))) s' → Q () s') : wpAny (model X.prog X.w) A (setAttr (.ref a) f u) Q E s := by
  obtain ⟨t1, ho⟩ := exo_at I.hok e
  obtain ⟨mA, hns, rel⟩ := exd_at I.hok ed
  have hw := within_of rel
  obtain ⟨hp, g, d, t, os⟩ := s
  obtain ⟨oD, _, _, hoD, _, _⟩ := hns.count hw
  refine PySem.W.set_plain I.kIn (od := some oD) ⟨ho, rfl, rfl, hoD⟩ T.sa (sa_further T I.kIn ho hns hw ?_ hno ?_)
  · rw [List.length_map]
    omega
  · intro h' tk' k hn
    have there : ∃ o, h'.get? dx = some o := by
      obtain ⟨o, _, _, e', _⟩ := hn
      exact ⟨o, e'⟩
    refine h _ (I.write (t' := tk') (x := dx) (e := dx) (o := exd dx ((f, y) :: fs)) ?_ (.inl rfl) k there (exd_ok hn (relO_put ry rel)))
    rw [ed]
    exact True.intro
end
/-- self.f = y in the __init__ of an exception -/
def tPut (K : PySem.W.Frag) (f : Str) (to te : TE) : TS := fun D σ H => te σ H fun y H1 => to σ H1 fun x H2 => ∃ a C : Addr, x = .ref a ∧ OexB K C ∧ PySem.W.findIn K (.ref C) f = some none ∧
  ((H2 a = some (exo a C none) ∧ ∀ dx, H2 dx = none → dx ≠ a → D.nx σ (upd (upd H2 dx (exd dx [(f, y)])) a (exo a C (some dx)))) ∨
    ∃ (dx : Addr) (fs : List (Str × V)), H2 a = some (exo a C (some dx)) ∧ H2 dx = some (exd dx fs) ∧ fs.length ≤ 900 ∧ D.nx σ (upd H2 dx (exd dx ((f, y) :: fs))))
section
variable {X : Cx} {o e : Expr} {es : List Expr} {to te : TE} {ta : TA} {f : Str} {p p' pos : Pos}
theorem ps_put (ho : PE X o to) (he : PE X e te) (hs : swapsWith e (some (.Attribute o f p')) pos.line X.env = pure false := by rfl) : PS X (.Assign [.Attribute o f p'] e pos) (tPut X.K f to te) := by
  constructor
  intro pins s σ H D I h
  refine plainObj_wpAny_Assign_Attribute (thn (he.run pins s σ H _ I h) ?_) hs
  rintro v s1 ⟨y, H1, I1, r1, q1⟩
  refine thn (ho.run pins s1 σ H1 _ I1 q1) ?_
  rintro u s2 ⟨x, H2, I2, r2, a, C, rfl, T, hno, q⟩
  obtain rfl : u = Value.ref a := r2
  rcases q with ⟨ea, q⟩ | ⟨dx, fs, ea, ed, hl, q⟩
  · exact put_first T I2 ea hno r1 fun dx s' n ne J => ⟨σ, _, J, q dx n ne⟩
  · exact put_further T I2 ea ed hl hno r1 fun s' J => ⟨σ, _, J, q⟩
/-- C(e, ..) of such a class, to be raised -/
theorem pmk_oexB {CX : CXT} {x : Str} {C fI : Addr} {k : Nat} {fd : FuncData} {ps : List Str} {sp : Sp} (T : OexB X.K C) (iC : PySem.W.findIn X.K (.ref C) "__init__" = some (some (.ref fI))) (tI : PySem.W.typeIn X.K (.ref fI) = some (.type "function"))
    (G : FnOk X.prog X.w X.K X.mg X.base CX k fI fd ps sp) (hr : Room (k + 1) X.A) (hb : Binds X.K fd ps []) (hx : Passes CX X (fun _ _ _ => False)) (hg : Gl X x) (hm : X.mg x = some (.ref C)) (ha : PA X (e :: es) ta)
    (hdb : (x == ("__debug__" : Str)) = false := by decide) (he : starEach (e :: es) X.env = (false, eval e X.env) :: starEach es X.env := by rfl) (hpl : (backTo pos (starEach es X.env)).any (·.1) = false := by rfl) :
    PMk X (.Call (.Name x p) (e :: es) [] pos) (tMkO C sp [] ta) := by
  intro pins s σ H Q I h
  obtain ⟨B, newId, initId, bmB, bm, nm, qn, N, bs, hdct, sn, sub, ab, col, dd, k0, k1, k2, k3, k5, FB, hT, hC0⟩ := T.made
  refine wpAny_Call_Name_kw (ld_glob I hg hm ?_ hdb)
  refine PySem.W.callWith_K (h₀ := X.base) I.ok.mod.kin T.kC (thn (ha.run pos pins s σ H _ I h) ?_) he hpl
  rintro us s1 ⟨vs, H1, I1, r1, hz, q1⟩
  refine ⟨I1.kIn, ?_⟩
  show wpAny _ _ (call (.ref C) us) _ _ _
  obtain ⟨hp, g, dr, tk, os⟩ := s1
  have hC := I1.kIn _ _ hC0
  let A1 := hp.objs.size + 1
  let hp2 := (hp.push (PySem.W.kdv_tup us)).push (PySem.HandSPX.excO C hp.objs.size)
  have big : hp.objs.size ≤ A1 := Nat.le_succ _
  have q2 := q1 A1 (I1.hok.fresh big)
  have kk : ∀ b o, hp.get? b = some o → hp2.get? b = some o := fun b o e => Heap.get?_push_of_some _ (Heap.get?_push_of_some _ e)
  have got : hp2.get? A1 = some (PySem.HandSPX.excO C hp.objs.size) := by
    show ((hp.push (PySem.W.kdv_tup us)).push (PySem.HandSPX.excO C hp.objs.size)).get? (hp.objs.size + 1) = _
    heap_get
  have I2 : Inv X pins σ (upd H1 A1 (exo A1 C none)) ⟨hp2, g, dr, tk, os⟩ := I1.laid (t' := tk) (a := A1) (o := exo A1 C none) (h' := hp2) kk big (exo_ok got)
  have r2 : Vals (V.ref A1 :: (vs ++ [])) (Value.ref A1 :: us) := by
    rw [List.append_nil]
    exact .cons rfl r1
  have hlen : (Value.ref A1 :: us).length = ps.length := by
    rw [← r2.length]
    exact G.len _ _ _ _ q2
  have hus : us.length ≤ sizeLine := by
    rw [← Paired.length r1, sizeLine_eq]
    omega
  have bd := hb ⟨hp2, g, dr, tk, os⟩ (Value.ref A1 :: us) I2.kIn (by rw [List.append_nil]; exact hlen)
  rw [List.append_nil] at bd
  refine wpAny_call (mk_call FB hT hC (PySem.W.looks_findIn I1.kIn iC) (fun self => PySem.W.bind_fn I1.kIn self tI) hus ?_)
  refine codeAny_mono (G.run _ X.stack _ _ ⟨Value.ref A1 :: us, []⟩ (Value.ref A1 :: us) _ _ (fun _ _ _ => False) (hr.make C us []) (I2.env0.make C us []) bd r2 q2) ?_
  intro r s' hq'
  match r, hq' with
  | .error er, hq' => exact hx pins σ _ _ er s' I2 hq'
  | .ok (.ret u), ⟨v, H2, os2, bare2, un2, hok2, rv, ev, d, fs, ea, ed, hd1, q3⟩ =>
    subst ev
    obtain ⟨h2, g2, d2, t2, os'⟩ := s'
    exact ⟨rv, mk_end (raises_own T.exC T.tyC) I1 big kk un2 hok2 os2 bare2 ea ed hd1 q3⟩
end
/-! ### a kept exception, looked at -/
/-- at a stands a kept exception of the class C with these fields -/
def KeptE (H : Hp) (a C : Addr) (fs : List (Str × V)) : Prop := ∃ dd : Addr, H a = some (keptX (.ref C) (some dd) a) ∧ H dd = some (.xd fs)
theorem keptE_inst {X : Cx} {pins : List (Addr × Obj)} {σ : L2.St} {H : Hp} {s : Shared} {a C : Addr} {fs : List (Str × V)} (I : Inv X pins σ H s) (h : KeptE H a C fs) : ∃ (ox od : Obj), PySem.W.InstAt s.heap a ox C (some od) ∧
    ∀ f, ∃ u, RelO (fs.lookup f) u ∧ PySem.W.lookIn f od = some u := by
  obtain ⟨dd, ea, ed⟩ := h
  obtain ⟨oe, vs, ho, hz, hd⟩ := keptX_at I.hok ea
  have hx : ObjOk X.prog X.w H s.heap dd (.xd fs) := I.hok dd _ ed
  obtain ⟨mA, hns, hr⟩ := hx
  obtain ⟨od, h1, hl⟩ := lookIn_ns hns
  refine ⟨oe, od, ⟨ho, hz.1, ?_, ?_⟩, fun f => ⟨mA f, hr f, hl f⟩⟩
  · unfold PySem.W.notCls
    rw [hd] <;> rfl
  · rw [hz.2]
    exact h1
/-- e.f, e a kept exception -/
def tFldX (K : PySem.W.Frag) (f : Str) (te : TE) : TE := fun σ H Q => te σ H fun x H1 => ∃ (a C : Addr) (fs : List (Str × V)) (v : V), x = .ref a ∧ XfC K C ∧ PySem.W.findIn K (.ref C) f = some none ∧ KeptE H1 a C fs ∧ fs.lookup f = some v ∧ Q v H1
theorem pe_fldX {X : Cx} {e : Expr} {te : TE} {pos : Pos} {n : Str} (he : PE X e te) (hb : attributeBase e n X.env (eval e X.env) = eval e X.env := by rfl) : PE X (.Attribute e n pos) (tFldX X.K n te) := by
  constructor
  intro pins s σ H Q I h
  refine attr_of hb (thn (he.run pins s σ H _ I h) ?_)
  rintro u s1 ⟨x, H1, I1, rx, a, C, fs, v, rfl, T, hno, hk, l, q⟩
  obtain rfl : u = Value.ref a := rx
  obtain ⟨ox, od, J, look⟩ := keptE_inst I1 hk
  obtain ⟨m, r, hl⟩ := look n
  obtain ⟨u, hu, ru⟩ := RelO.some_of (v := v) (o := m) (by rw [← l]; exact r)
  exact HandSPX.exc_get I1.kIn J T.ga T.gg T.exC (PySem.W.findObj_own T.hdC hno rfl (by rw [hl, hu])) (handed_of ru) ⟨v, H1, I1.tok _, ru, q⟩
theorem keptE_kit {K : PySem.W.Frag} {a C : Addr} {od : Option Obj} {ox : Obj} (T : ExcC K C) : PySem.W.KitX K (.ref a) (.ref C) (fun h => PySem.W.InstAt h a ox C od) := by
  obtain ⟨cd, hc, _⟩ := PySem.W.any_some T.hd
  exact PySem.W.kitx_exc (by rw [hc]; rfl) T.hg T.hk T.hs T.ha T.hn T.ht T.hm
/-- isinstance(e, c) of a kept exception, or of what the layer knows already -/
def rIsO (K : PySem.W.Frag) : List V → Hp → VK → Prop := fun xs H Q => rIsi K xs H Q ∨ ∃ (a C : Addr) (fs : List (Str × V)) (c : V) (u : Value) (b : Bool), xs = [.ref a, c] ∧ KeptE H a C fs ∧ ExcC K C ∧ ClsV c u ∧ PySem.W.kitOne K (.ref C) u = some b ∧ Q (.bl b) H
theorem call_isO {X : Cx} : CallR X (.builtin "isinstance") (rIsO X.K) := by
  intro pins s σ H xs us Q I r h
  rcases h with h | ⟨a, C, fs, c, u, b, rfl, hk, T, k, e, q⟩
  · exact call_isi pins s σ H xs us Q I r h
  obtain ⟨u1, u2, rfl, r1, r2⟩ := vals2 r
  obtain rfl : u1 = Value.ref a := r1
  have e2 := k.eq r2
  subst e2
  obtain ⟨ox, od, J, _⟩ := keptE_inst I hk
  exact PySem.W.kia_one (keptE_kit T) I.kIn J e (fun z => nomatch z) fun tk => ⟨.bl b, H, I.tok tk, rfl, q⟩
/-- isinstance(e, (c1, c2, ..)) of a kept exception, or of what the layer knows already -/
def rIsOT (K : PySem.W.Frag) : List V → Hp → VK → Prop := fun xs H Q => rIsiT K xs H Q ∨ ∃ (a C : Addr) (fs : List (Str × V)) (tp : Addr) (cs : List V) (us : List Value) (b : Bool), xs = [.ref a, .ref tp] ∧ KeptE H a C fs ∧ ExcC K C ∧ H tp = some (.tup cs) ∧ Paired ClsV cs us ∧
  PySem.W.kitAny K (.ref C) us = some b ∧ Q (.bl b) H
theorem call_isOT {X : Cx} : CallR X (.builtin "isinstance") (rIsOT X.K) := by
  intro pins s σ H xs us Q I r h
  rcases h with h | ⟨a, C, fs, tp, cs, ws, b, rfl, hk, T, hT, k, e, q⟩
  · exact call_isiT pins s σ H xs us Q I r h
  obtain ⟨u1, u2, rfl, r1, r2⟩ := vals2 r
  obtain rfl : u1 = Value.ref a := r1
  obtain rfl : u2 = Value.ref tp := r2
  obtain ⟨ox, od, J, _⟩ := keptE_inst I hk
  have ht : ObjOk X.prog X.w H s.heap tp (.tup cs) := I.hok tp _ hT
  obtain ⟨_, its, rv, o, h1, h2, n, h3⟩ := ht
  have e3 := ClsV.all k rv
  subst e3
  obtain ⟨oc, od', dt, sl⟩ := o
  simp only at h2 h3
  subst h2 h3
  exact PySem.W.kia_tup (keptE_kit T) I.kIn J h1 e (fun z => nomatch z) fun tk => ⟨.bl b, H, I.tok tk, rfl, q⟩
/-! ### an object made that may refuse -/
section
variable {X : Cx} {CX : CXT} {k : Nat} {f C : Addr} {fd : FuncData} {ps : List Str} {sp : Sp} {dvs : List V} {ds : List Value} {E : L2.St → XK} {x : Str} {p pos : Pos} {e : Expr} {es : List Expr} {t : TA}
def tMakeS (C : Addr) (sp : Sp) (dvs : List V) (E : L2.St → XK) (t : TA) : TE := fun σ H Q => t σ H fun vs H1 => ∀ x dx, H1 x = none → H1 dx = none → dx ≠ x → sp (.ref x :: (vs ++ dvs)) (upd (upd H1 dx (.own x)) x (.ins C dx [])) (fun v H2 => v = .non ∧ Q (.ref x) H2) (E σ)
theorem pe_makeS (M : Mk X.K C f) (G : FnOk X.prog X.w X.K X.mg X.base CX k f fd ps sp) (hr : Room (k + 1) X.A) (hg : Gl X x) (hm : X.mg x = some (.ref C)) (hb : Binds X.K fd ps ds) (hd : Vals dvs ds) (hx : ∀ σ, PassesAt CX X σ (E σ))
    (ha : PA X (e :: es) t) (hdb : (x == ("__debug__" : Str)) = false := by decide) (he : starEach (e :: es) X.env = (false, eval e X.env) :: starEach es X.env := by rfl) (hpl : (backTo pos (starEach es X.env)).any (·.1) = false := by rfl) :
    PE X (.Call (.Name x p) (e :: es) [] pos) (tMakeS C sp dvs E t) := by
  constructor
  intro pins s σ H Q I h
  refine wpAny_Call_Name_kw (ld_glob I hg hm ?_ hdb)
  refine PySem.W.callWith_K (h₀ := X.base) I.ok.mod.kin M.kp (thn (ha.run pos pins s σ H _ I h) ?_) he hpl
  rintro us s1 ⟨vs, H1, I1, r, q⟩
  refine ⟨I1.kIn, ?_⟩
  have q2 := q (s1.heap.objs.size + 1) s1.heap.objs.size (I1.hok.fresh (Nat.le_succ _)) (I1.hok.fresh (Nat.le_refl _)) (Nat.ne_of_lt (Nat.lt_succ_self _))
  have J := Inv.made (C := C) I1
  have r2 : Vals (V.ref (s1.heap.objs.size + 1) :: (vs ++ dvs)) (Value.ref (s1.heap.objs.size + 1) :: (us ++ ds)) := .cons rfl (r.append hd)
  have hl : (Value.ref (s1.heap.objs.size + 1) :: us ++ ds).length = ps.length := by
    have e := r2.length
    rw [G.len _ _ _ _ q2] at e
    exact e.symm
  refine wpAny_call (make_map (f := f) I1.kIn M.makes M.init (beq_iff_eq.mp M.fn) (codeAny_mono (G.run _ X.stack _ _ ⟨Value.ref (s1.heap.objs.size + 1) :: us, []⟩ (Value.ref (s1.heap.objs.size + 1) :: (us ++ ds)) _ _ (E σ) (hr.make C us [])
    (J.env0.make C us []) (hb _ (Value.ref (s1.heap.objs.size + 1) :: us) J.kIn hl) r2 q2) ?_))
  intro r s' hq
  match r, hq with
  | .error er, hq => exact hx σ pins _ _ er s' J hq
  | .ok (.ret u), hq =>
    obtain ⟨v, H', I3, rv, ev, q3⟩ := J.after hq
    subst ev
    exact ⟨rv, ⟨V.ref (s1.heap.objs.size + 1), H', I3, rfl, q3⟩⟩
end
theorem oex_of {K : PySem.W.Frag} {B newId initId : String} {nm q : Str} {C N : Addr} {bs bm : List Value} {sn : List Str} {sub : List Value} {ab : Bool} {col : Option Bool} {dd : Option Addr} {m0 m1 m2 m3 m5 : Option Value}
    (FB : PySem.ExcBaseFacts B newId initId bm) (SF : PySem.StoreFacts B bm "object.__setattr__" "object") (xL : K.lookup C = some (excClassObj nm q C N bs bm true sn sub ab col dd m0 m1 m2 m3 m5 newId)) (ht : PySem.W.excTail bm bm = true)
    (hd : PySem.W.hasDictIn K C = true) (sa : PySem.W.findIn K (.ref C) "__setattr__" = some (some (.builtin "object.__setattr__"))) (exC : PySem.W.subIn K (.ref C) (.type "BaseException") = some true) (tyC : PySem.W.typeIn K (.ref C) = some (.type "type")) (kC : PySem.W.keepIn K (.ref C) = true) : OexB K C := by
  refine ⟨⟨B, newId, initId, bm, bm, nm, q, N, bs, true, sn, sub, ab, col, dd, m0, m1, m2, m3, m5, FB, ⟨FB.hasB, FB.noAttr, FB.noName⟩, xL⟩, ⟨B, bm, SF, ?_⟩, hd, sa, exC, tyC, kC⟩
  unfold PySem.W.excOver PySem.W.clsIn
  rw [xL]
  simp [excClassObj, ht]
/-- KeyError: stores by its own facts, made by LookupError's __new__ -/
abbrev keyTail : List Value := [.type "KeyError", .type "LookupError", .type "Exception", .type "BaseException", .type "object"]
theorem store_KeyError : PySem.StoreFacts "KeyError" keyTail "object.__setattr__" "object" :=
  ⟨by kernel_rfl, .of (n := "__setattr__") (owner := "object") (by rw [typeLookup_type, builtinLookup_eq_fast]; kernel_rfl) (by decide +kernel) (by decide +kernel) (by decide +kernel) (.inl (by decide +kernel)) (by rw [isSubtype_type]; kernel_rfl),
    PySem.F.entry_object_sa, by decide +kernel, by decide +kernel, by decide +kernel, fun a b c => by unfold argsOk; kernel_rfl, fun self => by kernel_rfl⟩
theorem oex_key {K : PySem.W.Frag} {nm q : Str} {C N : Addr} {bs : List Value} {sn : List Str} {sub : List Value} {ab : Bool} {col : Option Bool} {dd : Option Addr} {m0 m1 m2 m3 m5 : Option Value}
    (xL : K.lookup C = some (excClassObj nm q C N bs keyTail true sn sub ab col dd m0 m1 m2 m3 m5 "LookupError.__new__"))
    (hd : PySem.W.hasDictIn K C = true) (sa : PySem.W.findIn K (.ref C) "__setattr__" = some (some (.builtin "object.__setattr__"))) (exC : PySem.W.subIn K (.ref C) (.type "BaseException") = some true) (tyC : PySem.W.typeIn K (.ref C) = some (.type "type")) (kC : PySem.W.keepIn K (.ref C) = true) : OexB K C := by
  refine ⟨⟨"LookupError", _, _, _, keyTail, nm, q, N, bs, true, sn, sub, ab, col, dd, m0, m1, m2, m3, m5, PySem.F.excBase_LookupError, ⟨by decide +kernel, by decide +kernel, by decide +kernel⟩, xL⟩, ⟨"KeyError", keyTail, store_KeyError, ?_⟩, hd, sa, exC, tyC, kC⟩
  unfold PySem.W.excOver PySem.W.clsIn
  rw [xL]
  simp [excClassObj, show PySem.W.excTail keyTail keyTail = true by decide +kernel]
theorem kit_up {K : PySem.W.Frag} {C : Addr} {T : String} (m : PySem.W.kitMeta T = true) (s : PySem.W.subIn K (.ref C) (.type T) = some true) : PySem.W.kitOne K (.ref C) (.type T) = some true := by
  show (if (Value.ref C == Value.type T) = true then some true else if PySem.W.kitMeta T = true then PySem.W.subIn K (.ref C) (.type T) else none) = some true
  rw [if_neg (by intro z; cases z), if_pos m]
  exact s
theorem kit_cls2 {K : PySem.W.Frag} {C D : Addr} {b : Bool} (ic : PySem.W.isClsIn K D = true) (ty : PySem.W.typeIn K (.ref D) = some (.type "type")) (s : PySem.W.subIn K (.ref C) (.ref D) = some b) : PySem.W.kitCls K (.ref C) (.ref D) = some b := by
  have ic' : (PySem.W.clsIn K D).isSome = true := ic
  have e : ((PySem.W.clsIn K D).isSome && PySem.W.typeIn K (.ref D) == some (.type "type")) = true := by rw [ic', ty]; rfl
  show (if ((PySem.W.clsIn K D).isSome && PySem.W.typeIn K (.ref D) == some (.type "type")) = true then PySem.W.subIn K (.ref C) (.ref D) else none) = some b
  rw [if_pos e]
  exact s
theorem kit_other {K : PySem.W.Frag} {C D : Addr} (self : PySem.W.subIn K (.ref C) (.ref C) = some true) (ic : PySem.W.isClsIn K D = true) (ty : PySem.W.typeIn K (.ref D) = some (.type "type")) (s : PySem.W.subIn K (.ref C) (.ref D) = some false) : PySem.W.kitOne K (.ref C) (.ref D) = some false := by
  have ne : ¬ (Value.ref C == Value.ref D) = true := by
    intro z
    have e := eq_of_beq z
    injection e with e
    subst e
    rw [self] at s
    cases s
  show (if (Value.ref C == Value.ref D) = true then some true else PySem.W.kitCls K (.ref C) (.ref D)) = some false
  rw [if_neg ne]
  exact kit_cls2 ic ty s
theorem exm_hit {K : PySem.W.Frag} {C : Addr} (ex : PySem.W.subIn K (.ref C) (.type "BaseException") = some true) (ic : PySem.W.isClsIn K C = true) (ty : PySem.W.typeIn K (.ref C) = some (.type "type")) (s : PySem.W.subIn K (.ref C) (.ref C) = some true) : PySem.W.exmOne K (.ref C) (.ref C) = some true := by
  show (if (PySem.W.subIn K (.ref C) (.type "BaseException") == some true) = true then PySem.W.kitCls K (.ref C) (.ref C) else none) = some true
  rw [if_pos (by rw [ex]; rfl)]
  exact kit_cls2 ic ty s
theorem any_no {K : PySem.W.Frag} {t c : Value} {cs : List Value} (h : PySem.W.kitOne K t c = some false) (r : PySem.W.kitAny K t cs = some false) : PySem.W.kitAny K t (c :: cs) = some false := kitAny_cons h (fun _ => r) (fun z => nomatch z)
/-! ### a block by a reading of one's own -/
theorem pss_imp {X : Cx} {b : List Stmt} {t t' : TS} (h : PSs X b t) (i : ∀ D σ H, t' D σ H → t D σ H) : PSs X b t' := ⟨fun pins s σ H D I z => h.run pins s σ H D I (i _ _ _ z)⟩
/-! ### o.m(e, .., k = v, ..), what is raised wished for at the caller's slots -/
section
variable {X : Cx} {CX : CXT} {k n : Nat} {f C : Addr} {fd : FuncData} {ps ks : List Str} {sp : Sp} {E : L2.St → XK} {m : Str} {apos pos : Pos} {o e : Expr} {es : List Expr} {kws : List Keyword} {ta : TE} {t tk : TA} {g : List Value → List Value → List Value} {gV : List V → List V → List V}
theorem passNo {P : Program} {w : World} {σ : L2.St} (hP : X.prog = P) (hw : X.w = w) : PassesAt (L2.CX P w) X σ E0 := by
  intro pins H s e s' I h
  obtain ⟨_, _, _, _, _, _, _, _, _, _, _, _, z⟩ := h
  exact (show False from z).elim
theorem run_kbn {pins : List (Addr × Obj)} {σ : L2.St} {H : Hp} {s : Shared} {Q : VK} {us ws : List Value} {vs zs : List V} (F : FnOk X.prog X.w X.K X.mg X.base CX k f fd ps sp) (hr : Room k X.A) (hb : KBn X.K fd ps n ks g gV) (hx : PassesAt CX X σ (E σ))
    (I : L2.Inv X pins σ H s) (r : Vals vs us) (rz : Vals zs ws) (l1 : vs.length = n) (l2 : zs.length = ks.length) (h : sp (gV vs zs) H Q (E σ)) : wpAny (model X.prog X.w) X.A (call (.ref f) us (ks.zip ws)) (EP X pins σ Q) X.xe s := by
  have bd := hb.to s us ws I.kIn (r.length.symm.trans l1) (rz.length.symm.trans l2)
  refine wpAny_call (codeAny_mono (F.run X.A X.stack s H ⟨us, ks.zip ws⟩ (g us ws) (gV vs zs) Q (E σ) hr I.env0 bd (hb.rel r rz) h) fun z s' hz => ?_)
  match z, hz with
  | .error er, hz => exact hx pins H s er s' I hz
  | .ok (.ret u), hz => exact I.after hz
  | .ok .next, hz => exact (show False from hz).elim
  | .ok .brk, hz => exact (show False from hz).elim
  | .ok .cont, hz => exact (show False from hz).elim
def tMethA (C : Addr) (m : Str) (n nk : Nat) (sp : Sp) (gV : List V → List V → List V) (E : L2.St → XK) (ta : TE) (t tk : TA) : TE := fun σ H Q => ta σ H fun x H1 => ∃ a dx fs, x = .ref a ∧ H1 a = some (.ins C dx fs) ∧ fs.lookup m = none ∧
  t σ H1 fun vs H2 => tk σ H2 fun zs H3 => vs.length = n ∧ zs.length = nk ∧ sp (gV (.ref a :: vs) zs) H3 Q (E σ)
theorem pe_methA {pl : Sem Bool} (he : PE X o ta) (c : Cls X.K C) (hm : Meth X.K C m f) (F : FnOk X.prog X.w X.K X.mg X.base CX k f fd ps sp) (hr : Room k X.A) (hb : KBn X.K fd ps (n + 1) ks g gV) (hx : ∀ σ, PassesAt CX X σ (E σ))
    (ha : PA X (e :: es) t) (hkw : PK X kws tk) (n1 : (backToKw pos (keywordEach kws X.env)).all (·.1.isSome) = true := by rfl) (n2 : (backToKw pos (keywordEach kws X.env)).filterMap (·.1) = ks := by rfl)
    (n3 : starEach (e :: es) X.env = (false, eval e X.env) :: starEach es X.env := by rfl) (n4 : ((backTo pos (starEach (e :: es) X.env)).any (·.1) || (backToKw pos (keywordEach kws X.env)).any (·.1.isNone)) = false := by rfl)
    (n5 : eval (.Call (.Attribute o m apos) (e :: es) kws pos) X.env = (do
      let ov ← eval o X.env
      standAt apos.atName
      let (f, first) ← holding [ov] (getMethod ov m pl)
      callWith pos f first (backTo pos (starEach (e :: es) X.env)) (backToKw pos (keywordEach kws X.env))) := by rfl) :
    PE X (.Call (.Attribute o m apos) (e :: es) kws pos) (tMethA C m n ks.length sp gV E ta t tk) := by
  constructor
  intro pins s σ H Q I h
  refine PySem.W.methodCall_KW (pl := pl) (thn (he.run pins s σ H _ I h) ?_) n5
  rintro u s1 ⟨x, H1, I1, rx, a, dx, fs, rfl, ea, l, q⟩
  cases (show u = Value.ref a from rx)
  refine getmeth_ok I1 ea c hm l ?_
  refine PySem.W.callWith_KW (first := [.ref a]) (h₀ := X.base) I.ok.mod.kin hm.kp n1 (thn (ha.run pos pins s1 σ H1 _ I1 q) ?_) n4 n3
  rintro us s2 ⟨vs, H2, I2, r, q2⟩
  refine thn (hkw.run pos pins s2 σ H2 _ I2 q2) ?_
  rintro ws s3 ⟨zs, H3, I3, rz, l1, l2, q3⟩
  refine ⟨I3.kIn, ?_⟩
  rw [n2]
  exact run_kbn (us := .ref a :: us) (vs := .ref a :: vs) F hr hb (hx σ) I3 (.cons rfl r) rz (congrArg Nat.succ l1) l2 q3
/-- o.m(k = v, ..) -/
theorem pe_methA0 {pl : Sem Bool} (he : PE X o ta) (c : Cls X.K C) (hm : Meth X.K C m f) (F : FnOk X.prog X.w X.K X.mg X.base CX k f fd ps sp) (hr : Room k X.A) (hb : KBn X.K fd ps 1 ks g gV) (hx : ∀ σ, PassesAt CX X σ (E σ))
    (hkw : PK X kws tk) (n1 : (backToKw pos (keywordEach kws X.env)).all (·.1.isSome) = true := by rfl) (n2 : (backToKw pos (keywordEach kws X.env)).filterMap (·.1) = ks := by rfl)
    (n4 : ((backTo pos (starEach [] X.env)).any (·.1) || (backToKw pos (keywordEach kws X.env)).any (·.1.isNone)) = false := by rfl)
    (n5 : eval (.Call (.Attribute o m apos) [] kws pos) X.env = (do
      let ov ← eval o X.env
      standAt apos.atName
      let (f, first) ← holding [ov] (getMethod ov m pl)
      callWith pos f first (backTo pos (starEach [] X.env)) (backToKw pos (keywordEach kws X.env))) := by rfl) :
    PE X (.Call (.Attribute o m apos) [] kws pos) (tMethA C m 0 ks.length sp gV E ta tNil tk) := by
  constructor
  intro pins s σ H Q I h
  refine PySem.W.methodCall_KW (pl := pl) (thn (he.run pins s σ H _ I h) ?_) n5
  rintro u s1 ⟨x, H1, I1, rx, a, dx, fs, rfl, ea, l, q⟩
  cases (show u = Value.ref a from rx)
  refine getmeth_ok I1 ea c hm l ?_
  refine PySem.W.callWith_KW0 (first := [.ref a]) (h₀ := X.base) I.ok.mod.kin hm.kp n1 ?_ n4
  refine thn (hkw.run pos pins s1 σ H1 _ I1 q) ?_
  rintro ws s3 ⟨zs, H3, I3, rz, l1, l2, q3⟩
  refine ⟨I3.kIn, ?_⟩
  rw [n2]
  exact run_kbn (us := [.ref a]) (vs := [.ref a]) F hr hb (hx σ) I3 (.cons rfl .nil) rz rfl l2 q3
/-- places alone, as a case of both -/
theorem kbn_of {K : Frag} {ds : List Value} {dvs : List V} (hb : L2.Binds K fd ps ds) (hd : Vals dvs ds) (hn : n + ds.length = ps.length) : KBn K fd ps n [] (fun us _ => us ++ ds) (fun vs _ => vs ++ dvs) :=
  ⟨fun s us ws X l1 l2 => hb s us X (by rw [List.length_append, l1, hn]), fun a _ => a.append hd⟩
end
/-! ### max(xs, default=d) of a list of ints -/
section
variable {prog : Program} {w : World} {A : Around} {R : Result → Shared → Prop} {I : Addr} {fp wr : List Addr} {n : Nat} {Pi : Nat → Value → Prop} {St : Nat → Heap → Prop}
theorem max_turns (W : Walks prog w A.in1 I fp wr n Pi St) (bt : Nat → Nat → Bool) (cm : CmpOf prog w A.in1 .Gt Pi bt) (S : Addr) (out : S ∉ fp) (kw : List (Str × Value)) : ∀ (k j : Nat) (s : Shared) (vb : Value) (c : Nat), n - (j + 1) = k → j + 1 ≤ n → St (j + 1) s.heap → Pi (argBest bt j) vb →
    s.heap.get? S = some { cls := .type "list", dict := none, data := .seq #[vb, vb] c, slots := #[] } →
    (∀ v h' tk, Pi (argBest bt (n - 1)) v → (∀ b o, b ∉ wr → b ≠ S → s.heap.get? b = some o → h'.get? b = some o) → R (.ok (.ret v)) { s with heap := h', toks := tk }) → codeAny (model prog w) A (.builtin "max.loop" ⟨[.ref I, .none, .ref S], kw⟩) R s := by
  have outW : S ∉ wr := fun z => out (W.sub _ z)
  have nm : (toString "max" ++ toString ".loop" : String) = "max.loop" := by decide
  intro k
  induction k with
  | zero =>
    intro j s vb c hk hj st hP hS q
    have last : j + 1 = n := by omega
    refine codeAny_builtin PySem.F.entry_max_loop ?_; rw [Around.under_plainId PySem.F.plain_max_loop _]
    show wpAny _ A.in1 (seqItems? (.ref S) >>= _) _ _ s; refine wpAny_bind (wpAny_seqItems hS rfl ?_)
    show wpAny _ A.in1 (tryCatch (pyNext (.ref I)) _ >>= _) _ _ s; refine wpAny_bind (wpAny_tryCatch (W.done s _ _ (last ▸ st) fun h' tk kk => ?_))
    have hS2 := kk S _ outW hS
    show wpAny _ A.in1 (updateSeq S (fun _ => #[]) >>= _) _ _ _; refine wpAny_bind (wpAny_updateSeq hS2 rfl (wpAny_bind (wpAny_letGo (wpAny_pure ?_))))
    exact q vb _ tk (by rw [← last]; exact hP) fun b o nb nS e => (Heap.get?_update_other _ _ (Ne.symm nS)).trans (kk b o nb e)
  | succ k ih =>
    intro j s vb c hk hj st hP hS q
    have more : j + 1 < n := by omega
    refine codeAny_builtin PySem.F.entry_max_loop ?_; rw [Around.under_plainId PySem.F.plain_max_loop _]
    show wpAny _ A.in1 (seqItems? (.ref S) >>= _) _ _ s; refine wpAny_bind (wpAny_seqItems hS rfl ?_)
    show wpAny _ A.in1 (tryCatch (pyNext (.ref I)) _ >>= _) _ _ s; refine wpAny_bind (wpAny_tryCatch (W.item (j + 1) s _ _ more st fun v h' tk hv st2 kk => ?_))
    have hS2 := kk S _ outW hS
    show wpAny _ A.in1 (tryCatch (holding [v, v] (richCompare .Gt v vb >>= _)) _ >>= _) _ _ _; refine wpAny_bind (wpAny_tryCatch (wpAny_holding (wpAny_bind (cm (j + 1) (argBest bt j) v vb _ _ _ hv hP ?_))))
    refine wpAny_bind (wpAny_holding (wpAny_truthy_bool (wpAny_bind (wpAny_letGo (wpAny_pure ?_)))))
    cases hb : bt (j + 1) (argBest bt j) with
    | true =>
      simp only [if_true]; refine wpAny_bind (wpAny_updateSeq hS2 rfl (wpAny_bind (wpAny_letGo ?_))); rw [nm]
      refine wpAny_pure ⟨plainId_quiet PySem.F.plain_max_loop _, ih (j + 1) _ v _ (by omega) more (W.frame _ _ _ st2 fun b nb o e => ?_) (by simp only [argBest, hb, if_true]; exact hv) (Heap.get?_update_self _ hS2 rfl) fun v3 h3 tk3 hv3 kk3 => ?_⟩
      · exact (Heap.get?_update_other _ _ (fun z : S = b => out (by rw [z]; exact nb))).trans e
      · exact q v3 h3 tk3 hv3 fun b o nb nS e => kk3 b o nb nS ((Heap.get?_update_other _ _ (Ne.symm nS)).trans (kk b o nb e))
    | false =>
      simp only [Bool.false_eq_true, if_false]; refine wpAny_bind (wpAny_letGo ?_); rw [nm]
      refine wpAny_pure ⟨plainId_quiet PySem.F.plain_max_loop _, ih (j + 1) _ vb c (by omega) more st2 (by simp only [argBest, hb, Bool.false_eq_true, if_false]; exact hP) hS2 fun v3 h3 tk3 hv3 kk3 => ?_⟩
      exact q v3 h3 tk3 hv3 fun b o nb nS e => kk3 b o nb nS (kk b o nb e)
theorem max_first (W : Walks prog w A.in1 I fp wr n Pi St) (bt : Nat → Nat → Bool) (cm : CmpOf prog w A.in1 .Gt Pi bt) (S : Addr) (out : S ∉ fp) (kw : List (Str × Value)) (hn : 0 < n) {s : Shared} {c : Nat} (st : St 0 s.heap)
    (hS : s.heap.get? S = some { cls := .type "list", dict := none, data := .seq #[] c, slots := #[] })
    (q : ∀ v h' tk, Pi (argBest bt (n - 1)) v → (∀ b o, b ∉ wr → b ≠ S → s.heap.get? b = some o → h'.get? b = some o) → R (.ok (.ret v)) { s with heap := h', toks := tk }) : codeAny (model prog w) A (.builtin "max.loop" ⟨[.ref I, .none, .ref S], kw⟩) R s := by
  have outW : S ∉ wr := fun z => out (W.sub _ z)
  have nm : (toString "max" ++ toString ".loop" : String) = "max.loop" := by decide
  refine codeAny_builtin PySem.F.entry_max_loop ?_; rw [Around.under_plainId PySem.F.plain_max_loop _]
  show wpAny _ A.in1 (seqItems? (.ref S) >>= _) _ _ s; refine wpAny_bind (wpAny_seqItems hS rfl ?_)
  show wpAny _ A.in1 (tryCatch (pyNext (.ref I)) _ >>= _) _ _ s; refine wpAny_bind (wpAny_tryCatch (W.item 0 s _ _ hn st fun v h' tk hv st2 kk => ?_))
  have hS2 := kk S _ outW hS
  show wpAny _ A.in1 (updateSeq S (fun _ => #[v, v]) >>= _) _ _ _; refine wpAny_bind (wpAny_updateSeq hS2 rfl ?_); rw [nm]
  refine wpAny_pure ⟨plainId_quiet PySem.F.plain_max_loop _, max_turns W bt cm S out kw _ 0 _ v _ rfl hn (W.frame _ _ _ st2 fun b nb o e => ?_) hv (Heap.get?_update_self _ hS2 rfl) fun v3 h3 tk3 hv3 kk3 => ?_⟩
  · exact (Heap.get?_update_other _ _ (fun z : S = b => out (by rw [z]; exact nb))).trans e
  · exact q v3 h3 tk3 hv3 fun b o nb nS e => kk3 b o nb nS ((Heap.get?_update_other _ _ (Ne.symm nS)).trans (kk b o nb e))
theorem max_empty (W : Walks prog w A.in1 I fp wr 0 Pi St) (S : Addr) (out : S ∉ fp) (d : Value) {s : Shared} {c : Nat} (st : St 0 s.heap)
    (hS : s.heap.get? S = some { cls := .type "list", dict := none, data := .seq #[] c, slots := #[] })
    (q : ∀ h' tk, (∀ b o, b ∉ wr → s.heap.get? b = some o → h'.get? b = some o) → R (.ok (.ret d)) { s with heap := h', toks := tk }) : codeAny (model prog w) A (.builtin "max.loop" ⟨[.ref I, .none, .ref S], [(Str.ofString "default", d)]⟩) R s := by
  refine codeAny_builtin PySem.F.entry_max_loop ?_; rw [Around.under_plainId PySem.F.plain_max_loop _]
  show wpAny _ A.in1 (seqItems? (.ref S) >>= _) _ _ s; refine wpAny_bind (wpAny_seqItems hS rfl ?_)
  show wpAny _ A.in1 (tryCatch (pyNext (.ref I)) _ >>= _) _ _ s; refine wpAny_bind (wpAny_tryCatch (W.done s _ _ st fun h' tk kk => ?_))
  refine wpAny_bind (wpAny_rule ?_)
  exact wpAny_pure (q h' tk kk)
end
section
variable {prog : Program} {w : World} {A : Around} {E : Value → Shared → Prop} {s : Shared} {l : Addr} {its : List Value} {ns : List Int} {Q : Value → Shared → Prop}
theorem max_args (a v : Value) : argsOk "max" ⟨[a], [(Str.ofString "default", v)]⟩ := by unfold argsOk; kernel_rfl
theorem max_dflt (d : Value) (hh : A.handled = none) (hl : s.heap.IsList l its.toArray) (hi : IntsAre its ns)
    (q0 : ns = [] → ∀ h' tk, (∀ b o, s.heap.get? b = some o → h'.get? b = some o) → Q d { s with heap := h', toks := tk })
    (q1 : ∀ h' tk M t', (∀ b o, s.heap.get? b = some o → h'.get? b = some o) → M ∈ ns → (∀ a, a ∈ ns → a ≤ M) → Q (.int M t') { s with heap := h', toks := tk }) : wpAny (model prog w) A (call (.builtin "max") [.ref l] [(Str.ofString "default", d)]) Q E s := by
  obtain ⟨xs, e⟩ := hi.allInts.items
  have hn : numsOf (intItems xs).toList = ns := by rw [← e]; exact hi.numsOf
  rw [nums_intItems] at hn
  subst hn
  rw [e] at hl
  have nm : (toString "max" ++ toString ".loop" : String) = "max.loop" := by decide
  refine kmk_tree PySem.F.kind_max PySem.F.plain_max PySem.F.entry_max (max_args _ _) ?_
  show wpAny _ A.in1 (Builtin.Builtins.bindParams "max" ["key", "default"] 0 ⟨[], [(Str.ofString "default", d)]⟩ >>= _) _ _ s
  refine wpAny_bind (wpAny_of_eq (show Builtin.Builtins.bindParams "max" ["key", "default"] 0 ⟨[], [(Str.ofString "default", d)]⟩ = pure [none, some d] from rfl) (wpAny_bind (wpAny_pure (wpAny_bind ?_))))
  refine iter_intList hl fun s₂ es st hfp hlI => ?_
  subst es
  refine wpAny_bind (wpAny_newObj_type ?_); rw [nm]
  have out : (s.heap.push { cls := .type "list_iterator", data := .fields #[.ref l, .int 0 0] }).objs.size ∉ [s.heap.objs.size, l] := fun z => Nat.lt_irrefl _ (hfp _ z)
  have W := Walks.list (prog := prog) (w := w) (A := A.in1) hh s.heap.objs.size l hlI (intItems xs)
  have hsz : (intItems xs).size = xs.size := by simp [intItems]
  rcases Nat.eq_zero_or_pos xs.size with z | z
  · have ez : (xs.toList.map (·.1)) = [] := by
      have : xs = #[] := Array.eq_empty_of_size_eq_zero z
      rw [this]; rfl
    rw [hsz, z] at W
    refine wpAny_pure ⟨plainId_quiet PySem.F.plain_max_loop _, max_empty W _ out d (W.frame _ _ _ st fun b _ o e => Heap.get?_push_of_some _ e) (Heap.get?_push_size _ rfl) fun h' tk kk => ?_⟩
    exact q0 ez h' tk (old_kept fun b o nb e => kk b o nb (Heap.get?_push_of_some _ e))
  · refine wpAny_pure ⟨plainId_quiet PySem.F.plain_max_loop _, max_first W _ (CmpOf.ints_gt (numAt xs) (fun _ _ => intItems_at)) _ out _ (by rw [hsz]; exact z) (W.frame _ _ _ st fun b _ o e => Heap.get?_push_of_some _ e) (Heap.get?_push_size _ rfl) fun v h' tk hv kk => ?_⟩
    rw [hsz] at hv
    obtain ⟨t, rfl⟩ := intItems_at hv
    obtain ⟨h1, h2⟩ := argBest_gt (numAt xs) (xs.size - 1)
    refine q1 h' tk _ t (old_kept fun b o nb e => kk b o nb (Nat.ne_of_lt (Heap.lt_size e)) (Heap.get?_push_of_some _ e)) ?_ fun a ha => ?_
    · rw [numAt_eq]; exact PySem.getD_mem (by rw [List.length_map, Array.length_toList]; omega)
    · obtain ⟨j, hj, rfl⟩ := mem_getD ha
      rw [List.length_map, Array.length_toList] at hj
      rw [← numAt_eq]; exact h2 j (by omega)
/-- max(xs, default=d): d of none -/
def rDmax (K : PySem.W.Frag) : List V → List V → Hp → VK → Prop := fun vs zs H Q => ∃ (a : Addr) (ns : List Int) (d : V), vs = [V.ref a] ∧ zs = [d] ∧ SqL K H a (ns.map V.int) ∧ (ns = [] → Q d H) ∧ ∀ M, M ∈ ns → (∀ a, a ∈ ns → a ≤ M) → Q (.int M) H
theorem call_Dmax {X : Cx} (hc : X.calm = true) : CallRK X (.builtin "max") ["default"] (rDmax X.K) := by
  intro pins s σ H xs zs us ws Q I r rz h
  obtain ⟨a, ns, d, rfl, rfl, hs, q0, q1⟩ := h
  obtain ⟨its, rv, hl, _⟩ := I.list hs
  obtain ⟨ud, rfl, rd⟩ := Vals.one rz
  rw [Vals.ref1 r]
  exact max_dflt ud (I.ok.hd hc) hl.isList rv.ints (fun e h' tk hk => ⟨d, H, I.kept hk, rd, q0 e⟩) fun h' tk M t' hk h1 h2 => ⟨.int _, H, I.kept hk, ⟨_, rfl⟩, q1 M h1 h2⟩
end
/-! ### min(xs, default=d) of a list of ints -/
section
variable {prog : Program} {w : World} {A : Around} {R : Result → Shared → Prop} {I : Addr} {fp wr : List Addr} {n : Nat} {Pi : Nat → Value → Prop} {St : Nat → Heap → Prop}
theorem min_turns (W : Walks prog w A.in1 I fp wr n Pi St) (bt : Nat → Nat → Bool) (cm : CmpOf prog w A.in1 .Lt Pi bt) (S : Addr) (out : S ∉ fp) (kw : List (Str × Value)) : ∀ (k j : Nat) (s : Shared) (vb : Value) (c : Nat), n - (j + 1) = k → j + 1 ≤ n → St (j + 1) s.heap → Pi (argBest bt j) vb →
    s.heap.get? S = some { cls := .type "list", dict := none, data := .seq #[vb, vb] c, slots := #[] } →
    (∀ v h' tk, Pi (argBest bt (n - 1)) v → (∀ b o, b ∉ wr → b ≠ S → s.heap.get? b = some o → h'.get? b = some o) → R (.ok (.ret v)) { s with heap := h', toks := tk }) → codeAny (model prog w) A (.builtin "min.loop" ⟨[.ref I, .none, .ref S], kw⟩) R s := by
  have outW : S ∉ wr := fun z => out (W.sub _ z)
  have nm : (toString "min" ++ toString ".loop" : String) = "min.loop" := by decide
  intro k
  induction k with
  | zero =>
    intro j s vb c hk hj st hP hS q
    have last : j + 1 = n := by omega
    refine codeAny_builtin PySem.F.entry_min_loop ?_; rw [Around.under_plainId PySem.F.plain_min_loop _]
    show wpAny _ A.in1 (seqItems? (.ref S) >>= _) _ _ s; refine wpAny_bind (wpAny_seqItems hS rfl ?_)
    show wpAny _ A.in1 (tryCatch (pyNext (.ref I)) _ >>= _) _ _ s; refine wpAny_bind (wpAny_tryCatch (W.done s _ _ (last ▸ st) fun h' tk kk => ?_))
    have hS2 := kk S _ outW hS
    show wpAny _ A.in1 (updateSeq S (fun _ => #[]) >>= _) _ _ _; refine wpAny_bind (wpAny_updateSeq hS2 rfl (wpAny_bind (wpAny_letGo (wpAny_pure ?_))))
    exact q vb _ tk (by rw [← last]; exact hP) fun b o nb nS e => (Heap.get?_update_other _ _ (Ne.symm nS)).trans (kk b o nb e)
  | succ k ih =>
    intro j s vb c hk hj st hP hS q
    have more : j + 1 < n := by omega
    refine codeAny_builtin PySem.F.entry_min_loop ?_; rw [Around.under_plainId PySem.F.plain_min_loop _]
    show wpAny _ A.in1 (seqItems? (.ref S) >>= _) _ _ s; refine wpAny_bind (wpAny_seqItems hS rfl ?_)
    show wpAny _ A.in1 (tryCatch (pyNext (.ref I)) _ >>= _) _ _ s; refine wpAny_bind (wpAny_tryCatch (W.item (j + 1) s _ _ more st fun v h' tk hv st2 kk => ?_))
    have hS2 := kk S _ outW hS
    show wpAny _ A.in1 (tryCatch (holding [v, v] (richCompare .Lt v vb >>= _)) _ >>= _) _ _ _; refine wpAny_bind (wpAny_tryCatch (wpAny_holding (wpAny_bind (cm (j + 1) (argBest bt j) v vb _ _ _ hv hP ?_))))
    refine wpAny_bind (wpAny_holding (wpAny_truthy_bool (wpAny_bind (wpAny_letGo (wpAny_pure ?_)))))
    cases hb : bt (j + 1) (argBest bt j) with
    | true =>
      simp only [if_true]; refine wpAny_bind (wpAny_updateSeq hS2 rfl (wpAny_bind (wpAny_letGo ?_))); rw [nm]
      refine wpAny_pure ⟨plainId_quiet PySem.F.plain_min_loop _, ih (j + 1) _ v _ (by omega) more (W.frame _ _ _ st2 fun b nb o e => ?_) (by simp only [argBest, hb, if_true]; exact hv) (Heap.get?_update_self _ hS2 rfl) fun v3 h3 tk3 hv3 kk3 => ?_⟩
      · exact (Heap.get?_update_other _ _ (fun z : S = b => out (by rw [z]; exact nb))).trans e
      · exact q v3 h3 tk3 hv3 fun b o nb nS e => kk3 b o nb nS ((Heap.get?_update_other _ _ (Ne.symm nS)).trans (kk b o nb e))
    | false =>
      simp only [Bool.false_eq_true, if_false]; refine wpAny_bind (wpAny_letGo ?_); rw [nm]
      refine wpAny_pure ⟨plainId_quiet PySem.F.plain_min_loop _, ih (j + 1) _ vb c (by omega) more st2 (by simp only [argBest, hb, Bool.false_eq_true, if_false]; exact hP) hS2 fun v3 h3 tk3 hv3 kk3 => ?_⟩
      exact q v3 h3 tk3 hv3 fun b o nb nS e => kk3 b o nb nS (kk b o nb e)
theorem min_first (W : Walks prog w A.in1 I fp wr n Pi St) (bt : Nat → Nat → Bool) (cm : CmpOf prog w A.in1 .Lt Pi bt) (S : Addr) (out : S ∉ fp) (kw : List (Str × Value)) (hn : 0 < n) {s : Shared} {c : Nat} (st : St 0 s.heap)
    (hS : s.heap.get? S = some { cls := .type "list", dict := none, data := .seq #[] c, slots := #[] })
    (q : ∀ v h' tk, Pi (argBest bt (n - 1)) v → (∀ b o, b ∉ wr → b ≠ S → s.heap.get? b = some o → h'.get? b = some o) → R (.ok (.ret v)) { s with heap := h', toks := tk }) : codeAny (model prog w) A (.builtin "min.loop" ⟨[.ref I, .none, .ref S], kw⟩) R s := by
  have outW : S ∉ wr := fun z => out (W.sub _ z)
  have nm : (toString "min" ++ toString ".loop" : String) = "min.loop" := by decide
  refine codeAny_builtin PySem.F.entry_min_loop ?_; rw [Around.under_plainId PySem.F.plain_min_loop _]
  show wpAny _ A.in1 (seqItems? (.ref S) >>= _) _ _ s; refine wpAny_bind (wpAny_seqItems hS rfl ?_)
  show wpAny _ A.in1 (tryCatch (pyNext (.ref I)) _ >>= _) _ _ s; refine wpAny_bind (wpAny_tryCatch (W.item 0 s _ _ hn st fun v h' tk hv st2 kk => ?_))
  have hS2 := kk S _ outW hS
  show wpAny _ A.in1 (updateSeq S (fun _ => #[v, v]) >>= _) _ _ _; refine wpAny_bind (wpAny_updateSeq hS2 rfl ?_); rw [nm]
  refine wpAny_pure ⟨plainId_quiet PySem.F.plain_min_loop _, min_turns W bt cm S out kw _ 0 _ v _ rfl hn (W.frame _ _ _ st2 fun b nb o e => ?_) hv (Heap.get?_update_self _ hS2 rfl) fun v3 h3 tk3 hv3 kk3 => ?_⟩
  · exact (Heap.get?_update_other _ _ (fun z : S = b => out (by rw [z]; exact nb))).trans e
  · exact q v3 h3 tk3 hv3 fun b o nb nS e => kk3 b o nb nS ((Heap.get?_update_other _ _ (Ne.symm nS)).trans (kk b o nb e))
theorem min_empty (W : Walks prog w A.in1 I fp wr 0 Pi St) (S : Addr) (out : S ∉ fp) (d : Value) {s : Shared} {c : Nat} (st : St 0 s.heap)
    (hS : s.heap.get? S = some { cls := .type "list", dict := none, data := .seq #[] c, slots := #[] })
    (q : ∀ h' tk, (∀ b o, b ∉ wr → s.heap.get? b = some o → h'.get? b = some o) → R (.ok (.ret d)) { s with heap := h', toks := tk }) : codeAny (model prog w) A (.builtin "min.loop" ⟨[.ref I, .none, .ref S], [(Str.ofString "default", d)]⟩) R s := by
  refine codeAny_builtin PySem.F.entry_min_loop ?_; rw [Around.under_plainId PySem.F.plain_min_loop _]
  show wpAny _ A.in1 (seqItems? (.ref S) >>= _) _ _ s; refine wpAny_bind (wpAny_seqItems hS rfl ?_)
  show wpAny _ A.in1 (tryCatch (pyNext (.ref I)) _ >>= _) _ _ s; refine wpAny_bind (wpAny_tryCatch (W.done s _ _ st fun h' tk kk => ?_))
  refine wpAny_bind (wpAny_rule ?_)
  exact wpAny_pure (q h' tk kk)
end
section
variable {prog : Program} {w : World} {A : Around} {E : Value → Shared → Prop} {s : Shared} {l : Addr} {its : List Value} {ns : List Int} {Q : Value → Shared → Prop}
theorem min_args (a v : Value) : argsOk "min" ⟨[a], [(Str.ofString "default", v)]⟩ := by unfold argsOk; kernel_rfl
theorem min_dflt (d : Value) (hh : A.handled = none) (hl : s.heap.IsList l its.toArray) (hi : IntsAre its ns)
    (q0 : ns = [] → ∀ h' tk, (∀ b o, s.heap.get? b = some o → h'.get? b = some o) → Q d { s with heap := h', toks := tk })
    (q1 : ∀ h' tk M t', (∀ b o, s.heap.get? b = some o → h'.get? b = some o) → M ∈ ns → (∀ a, a ∈ ns → M ≤ a) → Q (.int M t') { s with heap := h', toks := tk }) : wpAny (model prog w) A (call (.builtin "min") [.ref l] [(Str.ofString "default", d)]) Q E s := by
  obtain ⟨xs, e⟩ := hi.allInts.items
  have hn : numsOf (intItems xs).toList = ns := by rw [← e]; exact hi.numsOf
  rw [nums_intItems] at hn
  subst hn
  rw [e] at hl
  have nm : (toString "min" ++ toString ".loop" : String) = "min.loop" := by decide
  refine kmk_tree PySem.F.kind_min PySem.F.plain_min PySem.F.entry_min (min_args _ _) ?_
  show wpAny _ A.in1 (Builtin.Builtins.bindParams "min" ["key", "default"] 0 ⟨[], [(Str.ofString "default", d)]⟩ >>= _) _ _ s
  refine wpAny_bind (wpAny_of_eq (show Builtin.Builtins.bindParams "min" ["key", "default"] 0 ⟨[], [(Str.ofString "default", d)]⟩ = pure [none, some d] from rfl) (wpAny_bind (wpAny_pure (wpAny_bind ?_))))
  refine iter_intList hl fun s₂ es st hfp hlI => ?_
  subst es
  refine wpAny_bind (wpAny_newObj_type ?_); rw [nm]
  have out : (s.heap.push { cls := .type "list_iterator", data := .fields #[.ref l, .int 0 0] }).objs.size ∉ [s.heap.objs.size, l] := fun z => Nat.lt_irrefl _ (hfp _ z)
  have W := Walks.list (prog := prog) (w := w) (A := A.in1) hh s.heap.objs.size l hlI (intItems xs)
  have hsz : (intItems xs).size = xs.size := by simp [intItems]
  rcases Nat.eq_zero_or_pos xs.size with z | z
  · have ez : (xs.toList.map (·.1)) = [] := by
      have : xs = #[] := Array.eq_empty_of_size_eq_zero z
      rw [this]; rfl
    rw [hsz, z] at W
    refine wpAny_pure ⟨plainId_quiet PySem.F.plain_min_loop _, min_empty W _ out d (W.frame _ _ _ st fun b _ o e => Heap.get?_push_of_some _ e) (Heap.get?_push_size _ rfl) fun h' tk kk => ?_⟩
    exact q0 ez h' tk (old_kept fun b o nb e => kk b o nb (Heap.get?_push_of_some _ e))
  · refine wpAny_pure ⟨plainId_quiet PySem.F.plain_min_loop _, min_first W _ (CmpOf.ints_lt (numAt xs) (fun _ _ => intItems_at)) _ out _ (by rw [hsz]; exact z) (W.frame _ _ _ st fun b _ o e => Heap.get?_push_of_some _ e) (Heap.get?_push_size _ rfl) fun v h' tk hv kk => ?_⟩
    rw [hsz] at hv
    obtain ⟨t, rfl⟩ := intItems_at hv
    obtain ⟨h1, h2⟩ := argBest_lt (numAt xs) (xs.size - 1)
    refine q1 h' tk _ t (old_kept fun b o nb e => kk b o nb (Nat.ne_of_lt (Heap.lt_size e)) (Heap.get?_push_of_some _ e)) ?_ fun a ha => ?_
    · rw [numAt_eq]; exact PySem.getD_mem (by rw [List.length_map, Array.length_toList]; omega)
    · obtain ⟨j, hj, rfl⟩ := mem_getD ha
      rw [List.length_map, Array.length_toList] at hj
      rw [← numAt_eq]; exact h2 j (by omega)
/-- min(xs, default=d): d of none -/
def rDmin (K : PySem.W.Frag) : List V → List V → Hp → VK → Prop := fun vs zs H Q => ∃ (a : Addr) (ns : List Int) (d : V), vs = [V.ref a] ∧ zs = [d] ∧ SqL K H a (ns.map V.int) ∧ (ns = [] → Q d H) ∧ ∀ M, M ∈ ns → (∀ a, a ∈ ns → M ≤ a) → Q (.int M) H
theorem call_Dmin {X : Cx} (hc : X.calm = true) : CallRK X (.builtin "min") ["default"] (rDmin X.K) := by
  intro pins s σ H xs zs us ws Q I r rz h
  obtain ⟨a, ns, d, rfl, rfl, hs, q0, q1⟩ := h
  obtain ⟨its, rv, hl, _⟩ := I.list hs
  obtain ⟨ud, rfl, rd⟩ := Vals.one rz
  rw [Vals.ref1 r]
  exact min_dflt ud (I.ok.hd hc) hl.isList rv.ints (fun e h' tk hk => ⟨d, H, I.kept hk, rd, q0 e⟩) fun h' tk M t' hk h1 h2 => ⟨.int _, H, I.kept hk, ⟨_, rfl⟩, q1 M h1 h2⟩
end
/-! ### a stable sort, as a plain function -/
section
open SrtO (Swo Srtd Stb)
variable {α β : Type} {lt : α → α → Bool}
def ins (lt : α → α → Bool) (x : α) : List α → List α
  | [] => [x]
  | y :: r => if lt x y = true then x :: y :: r else y :: ins lt x r
def iSort (lt : α → α → Bool) (l : List α) : List α := l.foldl (fun acc x => ins lt x acc) []
theorem ins_perm (x : α) : ∀ l : List α, (ins lt x l).Perm (x :: l)
  | [] => List.Perm.refl _
  | y :: r => by
    unfold ins
    split
    · exact List.Perm.refl _
    · exact ((ins_perm x r).cons y).trans (List.Perm.swap x y r)
theorem ins_srtd (O : Swo lt) (x : α) : ∀ l : List α, Srtd lt l → Srtd lt (ins lt x l)
  | [], _ => List.pairwise_singleton _ _
  | y :: r, h => by
    have hy := List.pairwise_cons.mp h
    unfold ins
    split
    · rename_i c
      refine List.pairwise_cons.mpr ⟨fun z hz => ?_, h⟩
      rcases List.mem_cons.mp hz with rfl | hz
      · exact O.asym _ _ c
      · exact O.tr x y z (O.asym _ _ c) (hy.1 z hz)
    · rename_i c
      refine List.pairwise_cons.mpr ⟨fun z hz => ?_, ins_srtd O x r hy.2⟩
      rcases List.mem_cons.mp ((ins_perm x r).mem_iff.mp hz) with rfl | hz
      · exact Bool.eq_false_iff.mpr c
      · exact hy.1 z hz
theorem filt_none {p : α → Bool} {l : List α} (h : ∀ x ∈ l, p x = false) : l.filter p = [] := List.filter_eq_nil_iff.mpr fun x hx z => by rw [h x hx] at z; cases z
/-- past what isn't above it, in a class of its own place -/
theorem ins_cls (O : Swo lt) (x z : α) : ∀ l : List α, Srtd lt l → (ins lt x l).filter (SrtO.eqv lt z) = l.filter (SrtO.eqv lt z) ++ [x].filter (SrtO.eqv lt z)
  | [], _ => rfl
  | y :: r, h => by
    have hy := List.pairwise_cons.mp h
    unfold ins
    split
    · rename_i c
      by_cases hx : SrtO.eqv lt z x = true
      · have e := SrtO.eqv_iff.mp hx
        have no : ∀ w ∈ y :: r, SrtO.eqv lt z w = false := fun w hw => by
          apply Bool.eq_false_iff.mpr
          intro q
          have q2 := SrtO.eqv_iff.mp q
          have xw : lt x w = true := by
            rcases List.mem_cons.mp hw with rfl | hw
            · exact c
            · exact O.ltle c (hy.1 w hw)
          have := O.tr w z x q2.1 e.2
          rw [xw] at this; cases this
        rw [List.filter_cons_of_pos hx, filt_none no, List.nil_append, List.filter_cons_of_pos hx]; rfl
      · rw [List.filter_cons_of_neg hx, List.filter_cons_of_neg (l := []) hx]
        simp
    · by_cases hyz : SrtO.eqv lt z y = true
      · rw [List.filter_cons_of_pos hyz, List.filter_cons_of_pos hyz, ins_cls O x z r hy.2]; rfl
      · rw [List.filter_cons_of_neg hyz, List.filter_cons_of_neg hyz, ins_cls O x z r hy.2]
theorem iSort_go (O : Swo lt) : ∀ (l acc : List α), Srtd lt acc → Srtd lt (l.foldl (fun acc x => ins lt x acc) acc) ∧ Stb lt (l.foldl (fun acc x => ins lt x acc) acc) (acc ++ l)
  | [], acc, h => ⟨h, Stb.of_eq (by rw [List.append_nil]; rfl)⟩
  | x :: l, acc, h => by
    obtain ⟨a, b⟩ := iSort_go O l (ins lt x acc) (ins_srtd O x acc h)
    refine ⟨a, b.trans ?_⟩
    have : Stb lt (ins lt x acc) (acc ++ [x]) := ⟨(ins_perm x acc).trans (List.perm_append_comm (l₁ := [x]) (l₂ := acc)), fun z => by rw [ins_cls O x z acc h, List.filter_append]⟩
    have e : acc ++ x :: l = (acc ++ [x]) ++ l := by rw [List.append_assoc]; rfl
    rw [e]
    exact this.app (Stb.refl l)
theorem iSort_ok (O : Swo lt) (l : List α) : Srtd lt (iSort lt l) ∧ Stb lt (iSort lt l) l := iSort_go O l [] List.Pairwise.nil
theorem srt_one (O : Swo lt) : ∀ (l m : List α), Srtd lt l → Srtd lt m → Stb lt l m → l = m
  | [], m, _, _, h => (List.perm_nil.mp h.perm.symm).symm
  | x :: l, [], _, _, h => absurd h.perm.length_eq (by simp)
  | x :: l, y :: m, hl, hm, h => by
    have hx := List.pairwise_cons.mp hl
    have hy := List.pairwise_cons.mp hm
    have yl : y ∈ x :: l := h.perm.mem_iff.mpr List.mem_cons_self
    have xm : x ∈ y :: m := h.perm.mem_iff.mp List.mem_cons_self
    have a : lt y x = false := by
      rcases List.mem_cons.mp yl with rfl | z
      · exact O.refl _
      · exact hx.1 y z
    have b : lt x y = false := by
      rcases List.mem_cons.mp xm with rfl | z
      · exact O.refl _
      · exact hy.1 x z
    have c := h.cls x
    rw [List.filter_cons_of_pos (SrtO.eqv_iff.mpr ⟨O.refl x, O.refl x⟩), List.filter_cons_of_pos (SrtO.eqv_iff.mpr ⟨b, a⟩)] at c
    have exy : x = y := (List.cons.inj c).1
    subst exy
    refine congrArg (x :: ·) (srt_one O l m hx.2 hy.2 ⟨List.Perm.cons_inv h.perm, fun z => ?_⟩)
    have d := h.cls z
    by_cases q : SrtO.eqv lt z x = true
    · rw [List.filter_cons_of_pos q, List.filter_cons_of_pos q] at d
      exact (List.cons.inj d).2
    · rw [List.filter_cons_of_neg q, List.filter_cons_of_neg q] at d
      exact d
theorem srt_iSort (O : Swo lt) {out l : List α} (a : Srtd lt out) (b : Stb lt out l) : out = iSort lt l := by
  obtain ⟨c, d⟩ := iSort_ok O l
  exact srt_one O _ _ a c (b.trans ⟨d.perm.symm, fun z => (d.cls z).symm⟩)
/-- lists side by side are sorted side by side -/
theorem ins_two {lt' : β → β → Bool} {R : α → β → Prop} (hR : ∀ a b a' b', R a b → R a' b' → lt a a' = lt' b b') {x : α} {y : β} (hx : R x y) : ∀ {l : List α} {m : List β}, Paired R l m → Paired R (ins lt x l) (ins lt' y m)
  | _, _, .nil => .cons hx .nil
  | _, _, .cons (a := a) (b := b) r t => by
    unfold ins
    rw [hR _ _ _ _ hx r]
    split
    · exact .cons hx (.cons r t)
    · exact .cons r (ins_two hR hx t)
theorem iSort_two {lt' : β → β → Bool} {R : α → β → Prop} (hR : ∀ a b a' b', R a b → R a' b' → lt a a' = lt' b b') {l : List α} {m : List β} (h : Paired R l m) : Paired R (iSort lt l) (iSort lt' m) := by
  have go : ∀ {l : List α} {m : List β}, Paired R l m → ∀ {acc : List α} {bcc : List β}, Paired R acc bcc → Paired R (l.foldl (fun acc x => ins lt x acc) acc) (m.foldl (fun acc x => ins lt' x acc) bcc) := by
    intro l m h
    induction h with
    | nil => exact fun h => h
    | cons r _ ih => exact fun h2 => ih (ins_two hR r h2)
  exact go h .nil
theorem ins_at (x : α) : ∀ (l : List α) (k : Nat), k ≤ l.length → (∀ j y, j < k → l[j]? = some y → lt x y = false) → (∀ y, l[k]? = some y → lt x y = true) → ins lt x l = l.take k ++ [x] ++ l.drop k
  | [], 0, _, _, _ => rfl
  | [], k + 1, h, _, _ => absurd h (by simp)
  | y :: r, 0, _, _, h => by
    unfold ins
    rw [if_pos (h y rfl)]; rfl
  | y :: r, k + 1, hk, h1, h2 => by
    unfold ins
    rw [if_neg (by rw [h1 0 y (Nat.succ_pos k) rfl]; decide), ins_at x r k (by simpa using hk) (fun j z hj e => h1 (j + 1) z (by omega) e) (fun z e => h2 z e)]
    rfl
theorem srtd_at (O : Swo lt) : ∀ {l : List α}, Srtd lt l → ∀ {i j : Nat} {x y : α}, i < j → l[i]? = some x → l[j]? = some y → lt y x = false
  | [], _, _, _, _, _, _, e, _ => by cases e
  | a :: r, h, 0, 0, _, _, hij, _, _ => absurd hij (by decide)
  | a :: r, h, 0, j + 1, x, y, _, e1, e2 => by
    cases e1
    exact (List.pairwise_cons.mp h).1 y (List.mem_of_getElem? e2)
  | a :: r, h, i + 1, 0, _, _, hij, _, _ => absurd hij (by omega)
  | a :: r, h, i + 1, j + 1, x, y, hij, e1, e2 => srtd_at O (List.pairwise_cons.mp h).2 (i := i) (j := j) (by omega) e1 e2
theorem iSort_succ {l : List α} {i : Nat} {x : α} (h : l[i]? = some x) : iSort lt (l.take (i + 1)) = ins lt x (iSort lt (l.take i)) := by
  unfold iSort
  rw [List.take_succ, h, List.foldl_append]; rfl
theorem ins_len (x : α) (l : List α) : (ins lt x l).length = l.length + 1 := by rw [(ins_perm x l).length_eq]; rfl
theorem iSort_len (l : List α) : (iSort lt l).length = l.length := by
  have go : ∀ (l acc : List α), (l.foldl (fun acc x => ins lt x acc) acc).length = acc.length + l.length := by
    intro l
    induction l with
    | nil => intro acc; rfl
    | cons x r ih => intro acc; rw [List.foldl_cons, ih, ins_len, List.length_cons]; omega
  have := go l []
  unfold iSort
  simpa using this
theorem iSort_mem {x : α} : ∀ {l : List α}, x ∈ iSort lt l ↔ x ∈ l := by
  have go : ∀ (l acc : List α), x ∈ l.foldl (fun acc x => ins lt x acc) acc ↔ x ∈ acc ∨ x ∈ l := by
    intro l
    induction l with
    | nil => intro acc; simp
    | cons y r ih =>
      intro acc
      rw [List.foldl_cons, ih, (ins_perm y acc).mem_iff, List.mem_cons, List.mem_cons]
      constructor
      · rintro ((h | h) | h)
        · exact .inr (.inl h)
        · exact .inl h
        · exact .inr (.inr h)
      · rintro (h | h | h)
        · exact .inl (.inr h)
        · exact .inl (.inl h)
        · exact .inr h
  intro l
  have := go l []
  unfold iSort
  rw [this]; simp
end
/-! ### sorted(xs, key=f), f any callable -/
set_option maxHeartbeats 8000000
section
open SrtO (Swo Srtd Stb lt2 swo2 SortableO)
open PySem.Builtin
/-- from s to s', as behind a call: what stood at s stands, but what is tracked -/
structure Gone (X : Cx) (H : Hp) (s : Shared) (H' : Hp) (s' : Shared) : Prop where
  os : s'.os = s.os
  bare : AllBare s'.gens
  un : Un (frs X.stack) [] H H' s.heap s'.heap
  hok : HOk X.prog X.w H' s'.heap
variable {X : Cx} {pins : List (Addr × Obj)} {σ : L2.St} {H H1 H2 : Hp} {s s1 s2 : Shared}
theorem Gone.refl (I : Inv X pins σ H s) : Gone X H s H s := ⟨rfl, I.bare, Un.refl, I.hok⟩
theorem Gone.inv (I : Inv X pins σ H s) (g : Gone X H s H1 s1) : Inv X pins σ H1 s1 := I.call' g.os g.un g.hok g.bare fun b z => absurd z (by simp)
theorem Gone.on (g : Gone X H s H1 s1) (g2 : Gone X H1 s1 H2 s2) : Gone X H s H2 s2 := ⟨g2.os.trans g.os, g2.bare, g.un.trans g2.un, g2.hok⟩
theorem un_poke {fs ex : List Addr} {h h1 h2 : Heap} {a : Addr} (u : Un fs ex H H1 h h1) (na : h.objs.size ≤ a) (k : ∀ b o, b ≠ a → h1.get? b = some o → h2.get? b = some o) : Un fs ex H H1 h h2 := by
  have ne : ∀ {b : Addr} {o : Obj}, h.get? b = some o → b ≠ a := fun e => Nat.ne_of_lt (Nat.lt_of_lt_of_le (Heap.lt_size e) na)
  exact ⟨fun b o e n f x => k b o (ne e) (u.keep b o e n f x), fun b o e n f x => let ⟨sl, z⟩ := u.slot b o e n f x; ⟨sl, k b _ (ne e) z⟩, u.free, fun b o e x => let ⟨o', z⟩ := u.there b o e x; ⟨o', k b _ (ne e) z⟩, u.tups, u.frzs, u.tbls⟩
theorem hok_poke {P : Program} {w : World} {h1 h2 : Heap} {a : Addr} (x : HOk P w H h1) (n : H a = none) (k : ∀ b o, b ≠ a → h1.get? b = some o → h2.get? b = some o) : HOk P w H h2 := fun b o e =>
  (x b o e).stay (fun c v hc q => k c v (fun z => by
    subst z
    rcases hc with rfl | hc
    · rw [n] at e; cases e
    · rw [n] at hc; cases hc) q) (fun _ q => q) fun _ _ q => q
theorem Gone.poke {a : Addr} {h2 : Heap} {t : Nat} (g : Gone X H s H1 s1) (na : s.heap.objs.size ≤ a) (n : H1 a = none) (k : ∀ b o, b ≠ a → s1.heap.get? b = some o → h2.get? b = some o) : Gone X H s H1 { s1 with heap := h2, toks := t } :=
  ⟨g.os, g.bare, un_poke g.un na k, hok_poke g.hok n k⟩
theorem Gone.kept {h2 : Heap} {t : Nat} (g : Gone X H s H1 s1) (k : ∀ b o, s1.heap.get? b = some o → h2.get? b = some o) : Gone X H s H1 { s1 with heap := h2, toks := t } :=
  ⟨g.os, g.bare, g.un.trans (Un.kept k), g.hok.kept k⟩
theorem nostk (I : Inv X pins σ H s) {a : Addr} (na : s.heap.objs.size ≤ a) : a ∉ frs X.stack := fun z => by
  rcases List.mem_cons.mp (I.stkSub a z) with e | e
  · exact absurd I.lt (by rw [← e]; exact Nat.not_lt.mpr na)
  · exact I.nofs na e
/-- a call of the key, and what stands apart from it -/
def Keyed1 (X : Cx) (A : Around) (q : Value) (v : Value) (H1 : Hp) (s1 : Shared) (R : Hp → Value → Prop) : Prop :=
  wpAny (model X.prog X.w) A (call q [v]) (fun u s2 => ∃ H2, Gone X H1 s1 H2 s2 ∧ R H2 u) (fun _ _ => False) s1
section
variable {a kS : Addr} {q : Value} {vs : List Value} {A : Around} {Pq : PySem.Fin → Shared → Prop} {E : Value → Shared → Prop} {R : Nat → Hp → List Value → Prop} {ltv : Value → Value → Bool}
theorem sk_tail {st : SortSt} {keys : List Value} {e e1 : Nat} (I : Inv X pins σ H s) (g : Gone X H s H1 s1) (na : s.heap.objs.size ≤ a) (nk : s.heap.objs.size ≤ kS) (n1 : H1 a = none) (n2 : H1 kS = none) (nak : kS ≠ a)
    (ea : s1.heap.get? a = some (seqObj "list" #[] e1)) (ek : s1.heap.get? kS = some (seqObj "list" keys.toArray e)) (hz : keys.length ≤ sizeLine) (ho : (arrOf st).size ≤ sizeLine) (hf : failedOf st = none)
    (fin : ∀ s2, Gone X H s H1 s2 → (∃ c, s2.heap.get? a = some (seqObj "list" ((arrOf st).toList.map (·.2)).toArray c)) → Pq (.done (.ret .none)) s2) : wpAny (model X.prog X.w) A (ksk_tail a false e1 (.ref kS) st) Pq E s1 := by
  have b1 := Heap.SameBut.update s1.heap kS (Obj.mapSeq fun _ => (#[] : Array Value))
  have a1 : (s1.heap.update kS (Obj.mapSeq fun _ => (#[] : Array Value))).get? a = some (seqObj "list" #[] e1) := (b1.2 a nak.symm).trans ea
  have b2 := Heap.SameBut.update (s1.heap.update kS (Obj.mapSeq fun _ => (#[] : Array Value))) a (Obj.mapSeq fun _ => (arrOf st).map (·.2))
  have g1 := g.poke (t := s1.toks) (h2 := s1.heap.update kS (Obj.mapSeq fun _ => (#[] : Array Value))) nk n2 fun b o nb z => (b1.2 b nb).trans z
  have g2 := g1.poke (t := s1.toks) (h2 := (s1.heap.update kS (Obj.mapSeq fun _ => (#[] : Array Value))).update a (Obj.mapSeq fun _ => (arrOf st).map (·.2))) na n1 fun b o nb z => (b2.2 b nb).trans z
  unfold ksk_tail
  try dsimp only
  refine wpAny_bind (listUpdate_at ek rfl ?_ (by rw [List.size_toArray]; exact hz) (Nat.zero_le _)); refine wpAny_bind (wpAny_letGo ?_); refine wpAny_bind (seqEpoch_at a1 rfl ?_)
  refine wpAny_bind (listUpdate_at a1 rfl ?_ (Nat.zero_le _) (Nat.le_succ_of_le (by rw [if_neg (by decide), Array.size_map]; exact ho)))
  rw [hf]; simp only [bne_self_eq_false, Bool.false_eq_true, if_false]
  obtain ⟨c2, e3⟩ : ∃ c, ((s1.heap.update kS (Obj.mapSeq fun _ => (#[] : Array Value))).update a (Obj.mapSeq fun _ => (arrOf st).map (·.2))).get? a = some (seqObj "list" ((arrOf st).map (·.2)) c) := ⟨_, get?_update_seq a1 fun _ => (arrOf st).map (·.2)⟩
  have e4 : (arrOf st).map (·.2) = ((arrOf st).toList.map (·.2)).toArray := by rw [← Array.toList_map, Array.toArray_toList]
  exact wpAny_pure (fin _ g2 ⟨c2, e3.trans (by rw [e4])⟩)
theorem sk_end {keys : List Value} {e e1 : Nat} (O : Swo ltv) (I : Inv X pins σ H s) (g : Gone X H s H1 s1) (na : s.heap.objs.size ≤ a) (nk : s.heap.objs.size ≤ kS) (n1 : H1 a = none) (n2 : H1 kS = none) (nak : kS ≠ a)
    (ea : s1.heap.get? a = some (seqObj "list" #[] e1)) (ek : s1.heap.get? kS = some (seqObj "list" keys.toArray e)) (hl : keys.length = vs.length) (hz : vs.length ≤ sizeLine) (hS : 2 ≤ keys.length → SortableO X.prog X.w A s1 a keys ltv)
    (fin : ∀ s2 (out : List Keyed), Srtd (lt2 ltv) out → Stb (lt2 ltv) out (keys.zip vs) → Gone X H s H1 s2 → (∃ c, s2.heap.get? a = some (seqObj "list" (out.map (·.2)).toArray c)) → Pq (.done (.ret .none)) s2) : wpAny (model X.prog X.w) A (ksk_end a false vs.toArray e1 (.ref kS) keys.toArray) Pq E s1 := by
  have zl : (keys.toArray.zip vs.toArray).toList = keys.zip vs := by simp [Array.toList_zip]
  have zs : (keys.toArray.zip vs.toArray).size = vs.length := by rw [Array.size_zip, List.size_toArray, List.size_toArray]; omega
  unfold ksk_end
  try dsimp only
  rw [if_neg (by decide)]
  have hsz : vs.toArray.size = vs.length := List.size_toArray ..
  by_cases h2 : vs.toArray.size < 2
  · rw [if_pos h2, if_pos h2]
    refine wpAny_bind (wpAny_pure ?_); rw [StateT.run_pure]; refine wpAny_bind (wpAny_pure ?_)
    try dsimp only
    have ez : arrOf (SortSt.mk' general' (keys.toArray.zip vs.toArray) #[] 7 none) = keys.toArray.zip vs.toArray := rfl
    refine sk_tail (st := SortSt.mk' general' (keys.toArray.zip vs.toArray) #[] 7 none) I g na nk n1 n2 nak ea ek (by omega) (by rw [ez, zs]; exact hz) rfl fun s2 g2 e2 => fin s2 (keys.zip vs) ?_ (Stb.refl _) g2 (by rw [ez, zl] at e2; exact e2)
    rw [hsz] at h2
    match hk : keys.zip vs with
    | [] => exact List.Pairwise.nil
    | [x] => exact List.pairwise_singleton _ _
    | x :: y :: r =>
      have := congrArg List.length hk
      rw [List.length_zip, hl, Nat.min_self, List.length_cons, List.length_cons] at this
      omega
  · rw [if_neg h2, if_neg h2]
    rw [hsz] at h2
    obtain ⟨κ, hk, hT⟩ := hS (by omega) s1.heap fun _ _ _ z => z
    refine wpAny_bind (hk _ _ ?_)
    have all : SrtO.AllL (fun p : Keyed => p.1 ∈ keys) (keys.toArray.zip vs.toArray).toList := fun p hm => by
      rw [zl] at hm
      exact (List.of_mem_zip hm).1
    refine wpAny_bind (wpAny_mono (SrtO.wpS_sortO (st0 := SortSt.mk' κ (keys.toArray.zip vs.toArray) #[] 7 none) (Q := fun _ st' => Srtd (lt2 ltv) (arrOf st').toList ∧ Stb (lt2 ltv) (arrOf st').toList (keys.toArray.zip vs.toArray).toList ∧ failedOf st' = none) (swo2 O) hT rfl all rfl rfl fun st' a1 a2 a3 => ⟨a1, a2, a3⟩) ?_ fun _ _ z => z)
    rintro ⟨⟨⟩, st'⟩ s' ⟨rfl, p1, p2, p3⟩
    try dsimp only
    rw [zl] at p2
    have hlen : (arrOf st').size = vs.length := by
      have := p2.len
      rw [Array.length_toList, List.length_zip, hl, Nat.min_self] at this; exact this
    exact sk_tail I g na nk n1 n2 nak ea ek (by omega) (by rw [hlen]; exact hz) p3 fun s2 g2 e2 => fin s2 _ p1 p2 g2 e2
/-- the keys are asked one by one, then the pairs are sorted -/
theorem sk_rest {e1 : Nat} {Z : (Value → Value → Bool) → List Value → Hp → Prop} (I : Inv X pins σ H s) (g : Gone X H s H1 s1) (na : s.heap.objs.size ≤ a) (nk : s.heap.objs.size ≤ kS) (n1 : H1 a = none) (n2 : H1 kS = none) (nak : kS ≠ a)
    (ea : s1.heap.get? a = some (seqObj "list" #[] e1)) (ek : s1.heap.get? kS = some (seqObj "list" #[] 0)) (hz : vs.length ≤ sizeLine) (R0 : R 0 H1 [])
    (turn : ∀ (j : Nat) (v : Value) (H2 : Hp) (s2 : Shared) (us : List Value), vs[j]? = some v → R j H2 us → Gone X H s H2 s2 → Keyed1 X A q v H2 s2 fun H3 u => R (j + 1) H3 (us ++ [u]))
    (hS : ∀ (H2 : Hp) (s2 : Shared) (us : List Value), R vs.length H2 us → Gone X H s H2 s2 → us.length = vs.length → H2 a = none → (∃ e, s2.heap.get? a = some (seqObj "list" #[] e)) → ∃ ltv, Swo ltv ∧ (2 ≤ us.length → SortableO X.prog X.w A s2 a us ltv) ∧ Z ltv us H2)
    (fin : ∀ (H2 : Hp) (s2 : Shared) (us : List Value) (out : List Keyed) (ltv : Value → Value → Bool), Z ltv us H2 → Swo ltv → R vs.length H2 us → us.length = vs.length → Srtd (lt2 ltv) out → Stb (lt2 ltv) out (us.zip vs) → Gone X H s H2 s2 → H2 a = none → (∃ c, s2.heap.get? a = some (seqObj "list" (out.map (·.2)).toArray c)) → Pq (.done (.ret .none)) s2) :
    wpAny (model X.prog X.w) A (ksk_rest a q false vs.toArray e1 (.ref kS)) Pq E s1 := by
  have na' := nostk I na
  have nk' := nostk I nk
  unfold ksk_rest
  refine wpAny_bind (wpAny_rule ?_)
  rw [List.forIn_toArray]
  refine wpAny_bind (ksk_fold (fun i s2 => ∃ (H2 : Hp) (us : List Value) (e : Nat), Gone X H s H2 s2 ∧ H2 a = none ∧ H2 kS = none ∧ s2.heap.get? a = some (seqObj "list" #[] e1) ∧ s2.heap.get? kS = some (seqObj "list" us.toArray e) ∧ us.length = i ∧ R i H2 us) vs 0 s1 ⟨H1, [], 0, g, n1, n2, ea, ek, rfl, R0⟩ ?step ?done)
  case step =>
    rintro j x s2 hx ⟨H2, us, e, g2, m1, m2, ea2, ek2, hl, hR⟩
    simp only [Nat.zero_add] at hl hR ⊢
    have hj : j < vs.length := (List.getElem?_eq_some_iff.mp hx).1
    refine wpAny_bind (wpAny_attempt (wpAny_mono (turn j x H2 s2 us hx hR g2) (fun u s3 he => ?_) fun _ _ z => z.elim))
    obtain ⟨H3, g23, hR3⟩ := he
    have g3 := g2.on g23
    have m3 := g23.un.free a _ ea2 m1 (by simp)
    have m4 := g23.un.free kS _ ek2 m2 (by simp)
    have ea3 := g23.un.keep a _ ea2 m1 na' (by simp)
    have ek3 := g23.un.keep kS _ ek2 m2 nk' (by simp)
    try dsimp only
    have b1 := Heap.SameBut.update s3.heap kS (Obj.mapSeq (·.push u))
    have g4 := g3.poke (t := s3.toks) (h2 := s3.heap.update kS (Obj.mapSeq (·.push u))) nk m4 fun b o nb z => (b1.2 b nb).trans z
    refine wpAny_bind (listUpdate_at ek3 rfl ?_ (by rw [List.size_toArray]; omega) (by rw [Array.size_push, List.size_toArray]; omega))
    obtain ⟨c5, e5⟩ : ∃ c, (s3.heap.update kS (Obj.mapSeq (·.push u))).get? kS = some (seqObj "list" (us.toArray.push u) c) := ⟨_, get?_update_seq ek3 (·.push u)⟩
    rw [List.push_toArray] at e5
    exact wpAny_pure ⟨rfl, H3, us ++ [u], c5, g4, m3, m4, (b1.2 a nak.symm).trans ea3, e5, by rw [List.length_append, hl]; rfl, hR3⟩
  case done =>
    rintro s2 ⟨H2, us, e, g2, m1, m2, ea2, ek2, hl, hR⟩
    rw [Nat.zero_add] at hl hR
    try dsimp only
    refine wpAny_bind (listItems_at ek2 rfl ?_)
    obtain ⟨ltv, O, hS2, hZ⟩ := hS H2 s2 us hR g2 hl m1 ⟨_, ea2⟩
    exact sk_end O I g2 na nk m1 m2 nak ea2 ek2 hl hz hS2 fun s3 out p1 p2 g3 e3 => fin H2 s3 us out ltv hZ O hR hl p1 p2 g3 m1 e3
/-- sorted(l, key=q) -/
theorem sk_sorted {l q : Addr} {Qq : Value → Shared → Prop} {Z : (Value → Value → Bool) → List Value → Hp → Prop} (I : Inv X pins σ H s) (hl : s.heap.IsList l vs.toArray) (hz : vs.length ≤ sizeLine) (R0 : R 0 H [])
    (turn : ∀ (j : Nat) (v : Value) (H2 : Hp) (s2 : Shared) (us : List Value), vs[j]? = some v → R j H2 us → Gone X H s H2 s2 → Keyed1 X X.A.in1.in1 (.ref q) v H2 s2 fun H3 u => R (j + 1) H3 (us ++ [u]))
    (hS : ∀ (H2 : Hp) (s2 : Shared) (a : Addr) (us : List Value), R vs.length H2 us → Gone X H s H2 s2 → us.length = vs.length → H2 a = none → (∃ e, s2.heap.get? a = some (seqObj "list" #[] e)) → ∃ ltv, Swo ltv ∧ (2 ≤ us.length → SortableO X.prog X.w X.A.in1.in1 s2 a us ltv) ∧ Z ltv us H2)
    (fin : ∀ (a : Addr) (H2 : Hp) (s2 : Shared) (us : List Value) (out : List Keyed) (ltv : Value → Value → Bool), Z ltv us H2 → Swo ltv → s.heap.objs.size ≤ a → R vs.length H2 us → us.length = vs.length → Srtd (lt2 ltv) out → Stb (lt2 ltv) out (us.zip vs) → Gone X H s H2 s2 → H2 a = none → (∃ c, s2.heap.get? a = some (seqObj "list" (out.map (·.2)).toArray c)) → Qq (.ref a) s2) :
    wpAny (model X.prog X.w) X.A (call (.builtin "sorted") [.ref l] [(Str.ofString "key", .ref q)]) Qq E s := by
  refine call_function_entry_kw kind_sorted plain_sorted entry_sorted (by unfold argsOk; kernel_rfl) ?_
  unfold Builtin.«sorted»
  refine wpAny_bind (m := checkCount "sorted" 1 1 _) (wpAny_pure (wpAny_bind (collect_list hl (wpAny_bind (wpAny_newList ?_ hz)) hz)))
  have sz : ((s.heap.push (seqObj "list" #[] 0)).update s.heap.objs.size (Obj.mapSeq (· ++ vs.toArray))).objs.size = s.heap.objs.size + 1 := by rw [Heap.size_update, size_push']
  generalize hh : (s.heap.push (seqObj "list" #[] 0)).update s.heap.objs.size (Obj.mapSeq (· ++ vs.toArray)) = hp at sz
  have k0 : ∀ b o, s.heap.get? b = some o → hp.get? b = some o := fun b o e => by
    have lt : b < s.heap.objs.size := Heap.lt_size e
    rw [← hh, Heap.get?_update_ne _ _ _ _ (Nat.ne_of_lt lt), Heap.get?_push_ne _ _ _ (Nat.ne_of_lt lt)]; exact e
  show wpAny _ _ _ _ _ { s with heap := hp.push (seqObj "list" vs.toArray 0) }
  rw [sz]
  have oA : (hp.push (seqObj "list" vs.toArray 0)).get? (s.heap.objs.size + 1) = some (seqObj "list" vs.toArray 0) := by rw [← sz]; exact Heap.get?_push_size _ rfl
  refine wpAny_bind (wpAny_holding (wpAny_call_entry_kw slot_list_sort ⟨_, oA, rfl⟩ entry_list_sort ?_ (ksk_l1 _ _)))
  rw [ksk_t1]
  have ba := Heap.SameBut.update (hp.push (seqObj "list" vs.toArray 0)) (s.heap.objs.size + 1) (Obj.mapSeq fun _ => (#[] : Array Value))
  obtain ⟨e1, oA1⟩ : ∃ e1, ((hp.push (seqObj "list" vs.toArray 0)).update (s.heap.objs.size + 1) (Obj.mapSeq fun _ => (#[] : Array Value))).get? (s.heap.objs.size + 1) = some (seqObj "list" #[] e1) := ⟨_, get?_update_seq oA fun _ => #[]⟩
  have sz2 : ((hp.push (seqObj "list" vs.toArray 0)).update (s.heap.objs.size + 1) (Obj.mapSeq fun _ => (#[] : Array Value))).objs.size = s.heap.objs.size + 2 := by rw [Heap.size_update, size_push', sz]
  have k1 : ∀ b o, s.heap.get? b = some o → ((hp.push (seqObj "list" vs.toArray 0)).update (s.heap.objs.size + 1) (Obj.mapSeq fun _ => (#[] : Array Value))).get? b = some o := fun b o e =>
    (ba.2 b (Nat.ne_of_lt (Nat.lt_succ_of_lt (Heap.lt_size e)))).trans (Heap.get?_push_of_some _ (k0 b o e))
  let hq := (hp.push (seqObj "list" vs.toArray 0)).update (s.heap.objs.size + 1) (Obj.mapSeq fun _ => (#[] : Array Value))
  have k2 : ∀ b o, s.heap.get? b = some o → ((hq.push (seqObj "tuple" vs.toArray 0)).push (seqObj "list" #[] 0)).get? b = some o := fun b o e => Heap.get?_push_of_some _ (Heap.get?_push_of_some _ (k1 b o e))
  have sz3 : (hq.push (seqObj "tuple" vs.toArray 0)).objs.size = s.heap.objs.size + 3 := by rw [size_push', sz2]
  have g0 : Gone X H s H { s with heap := (hq.push (seqObj "tuple" vs.toArray 0)).push (seqObj "list" #[] 0) } := (Gone.refl I).kept (t := s.toks) k2
  have eA : ((hq.push (seqObj "tuple" vs.toArray 0)).push (seqObj "list" #[] 0)).get? (s.heap.objs.size + 1) = some (seqObj "list" #[] e1) := Heap.get?_push_of_some _ (Heap.get?_push_of_some _ oA1)
  have eK : ((hq.push (seqObj "tuple" vs.toArray 0)).push (seqObj "list" #[] 0)).get? (s.heap.objs.size + 3) = some (seqObj "list" #[] 0) := by rw [← sz3]; exact Heap.get?_push_size _ rfl
  unfold ksk_tree
  refine wpAny_bind (listItems_at oA rfl (wpAny_bind (listUpdate_at oA rfl ?_ (by rw [List.size_toArray]; exact hz) (Nat.zero_le _))))
  refine wpAny_bind (seqEpoch_at oA1 rfl (wpAny_bind (wpAny_newTuple (wpAny_bind (wpAny_newList (wpAny_holding ?_) (Nat.zero_le _))) hz)))
  show wpAny _ _ (ksk_rest (s.heap.objs.size + 1) (.ref q) false vs.toArray e1 (.ref (hq.push (seqObj "tuple" vs.toArray 0)).objs.size)) _ _ { s with heap := (hq.push (seqObj "tuple" vs.toArray 0)).push (seqObj "list" #[] 0) }
  rw [sz3]
  refine sk_rest (Z := Z) I g0 (Nat.le_succ _) (Nat.le_add_right _ 3) (I.hok.fresh (Nat.le_succ _)) (I.hok.fresh (Nat.le_add_right _ 3)) (show s.heap.objs.size + 3 ≠ s.heap.objs.size + 1 by omega) eA eK hz R0 turn (fun H2 s2 us r g l1 n z => hS H2 s2 _ us r g l1 n z) fun H2 s2 us out ltv z o r l1 p1 p2 g n e => ⟨_, rfl, ?_⟩
  exact wpAny_pure ⟨_, rfl, fin _ H2 s2 us out ltv z o (Nat.le_succ _) r l1 p1 p2 g n e⟩
end
end
/-! ### sorted(xs, key=f) over the layer -/
section
open SrtO (Swo Srtd Stb lt2 swo2 SortableO)
variable {X : Cx} {pins : List (Addr × Obj)} {σ : L2.St} {H HJ : Hp} {s sJ : Shared}
/-- what has been made meanwhile is told to the ledger -/
theorem inv_track {a : Addr} {o : HO} (J : Inv X pins σ HJ sJ) (ge : sJ.heap.objs.size ≤ a) (I : Inv X pins σ H s) (na : H a = none) (ok : ObjOk X.prog X.w (upd H a o) s.heap a o) : Inv X pins σ (upd H a o) s := by
  have ne : ∀ {b : Addr} {o : Obj}, sJ.heap.get? b = some o → b ≠ a := fun e => Nat.ne_of_lt (Nat.lt_of_lt_of_le (Heap.lt_size e) ge)
  have n0 : ∀ {b : Addr} {o : Obj}, X.s_0.heap.get? b = some o → b ≠ a := fun e => Nat.ne_of_lt (Nat.lt_of_lt_of_le (Heap.lt_size e) (Nat.le_trans J.sz ge))
  have bs : Un X.fs X.ex X.H_0 (upd H a o) X.s_0.heap s.heap := {
    keep := I.base.keep
    slot := I.base.slot
    there := I.base.there
    free := fun b o e n q => by rw [upd_ne (n0 e)]; exact I.base.free b o e n q
    tups := fun b xs e => by
      have z := I.base.tups b xs e
      rw [upd_ne (ne_of_none z na)]; exact z
    frzs := fun b o u e => by
      have z := I.base.frzs b o u e
      rw [upd_ne (ne_of_none z na)]; exact z
    tbls := fun b ps e => by
      obtain ⟨m, z⟩ := I.base.tbls b ps e
      exact ⟨m, by rw [upd_ne (ne_of_none z na)]; exact z⟩ }
  have fr : X.env.locals ≠ a := by
    obtain ⟨m, ⟨o, es, ep, ho, _⟩, _⟩ := J.loc
    exact ne ho
  refine ⟨I.ok, I.os, I.bare, bs, I.loc, I.cell, by rw [upd_ne fr]; exact I.free, fun x c e => ?_, fun p hp => ?_, fun b o e => ?_, I.len⟩
  · obtain ⟨v, o, ho, _⟩ := J.cell x c e
    rw [upd_ne (ne ho)]; exact I.freeC x c e
  · obtain ⟨e, n, r⟩ := I.pin p hp
    exact ⟨e, by rw [upd_ne (ne (J.pin p hp).1)]; exact n, r⟩
  · by_cases hb : b = a
    · subst hb
      rw [upd_same] at e; cases e; exact ok
    · rw [upd_ne hb] at e
      exact (I.hok b o e).stay (fun c v _ q => q) (fun c q => by rw [upd_ne (ne_of_none q na)]; exact q) fun c xs q => by rw [upd_ne (ne_of_none q na)]; exact q
/-- keys: how they stand in the heap, and their order -/
structure KeyOk (X : Cx) {α : Type} (KR : Hp → V → α → Prop) (lt : α → α → Bool) : Prop where
  keep : ∀ {H H' : Hp} {v : V} {k : α}, KR H v k → Same H H' → KR H' v k
  sort : ∀ {pins : List (Addr × Obj)} {σ : L2.St} {H : Hp} {s : Shared} {A : Around} {b : Addr} {ys : List V} {us : List Value} {ks : List α}, Inv X pins σ H s → H b = none → (∃ e, s.heap.get? b = some (seqObj "list" #[] e)) → Paired (KR H) ys ks → Vals ys us →
    ∃ ltv, Swo ltv ∧ (2 ≤ us.length → SortableO X.prog X.w A s b us ltv) ∧ ∀ p ∈ us.zip ks, ∀ q ∈ us.zip ks, ltv p.1 q.1 = lt p.2 q.2
theorem paired_mono {α β : Type} {F G : α → β → Prop} (f : ∀ a b, F a b → G a b) : ∀ {l : List α} {m : List β}, Paired F l m → Paired G l m
  | _, _, .nil => .nil
  | _, _, .cons r t => .cons (f _ _ r) (paired_mono f t)
theorem paired_snoc {α β : Type} {F : α → β → Prop} {x : α} {y : β} (r : F x y) : ∀ {l : List α} {m : List β}, Paired F l m → Paired F (l ++ [x]) (m ++ [y])
  | _, _, .nil => .cons r .nil
  | _, _, .cons q t => .cons q (paired_snoc r t)
theorem paired_zip {α : Type} {xs : List V} {vs us : List Value} {ks : List α} (r : Vals xs vs) (l1 : us.length = vs.length) (l2 : ks.length = xs.length) : Paired (fun (p : Value × Value) (q : α × V) => (p.1, q.1) ∈ us.zip ks ∧ RelV q.2 p.2) (us.zip vs) (ks.zip xs) := by
  have go : ∀ (us0 : List Value) (ks0 : List α) (us : List Value) (ks : List α) (vs : List Value) (xs : List V), Vals xs vs → us.length = vs.length → ks.length = xs.length → (∀ p ∈ us.zip ks, p ∈ us0.zip ks0) → Paired (fun (p : Value × Value) (q : α × V) => (p.1, q.1) ∈ us0.zip ks0 ∧ RelV q.2 p.2) (us.zip vs) (ks.zip xs) := by
    intro us0 ks0 us
    induction us with
    | nil =>
      intro ks vs xs r l1 l2 _
      cases r with
      | nil => rw [List.zip_nil_right, List.zip_nil_right]; exact .nil
      | cons _ _ => cases l1
    | cons u us ih =>
      intro ks vs xs r l1 l2 hm
      cases r with
      | nil => cases l1
      | cons r1 r2 =>
        cases ks with
        | nil => cases l2
        | cons k ks => exact .cons ⟨hm _ List.mem_cons_self, r1⟩ (ih ks _ _ r2 (by simpa using l1) (by simpa using l2) fun p hp => hm p (List.mem_cons_of_mem _ hp))
  exact go us ks us ks vs xs r l1 l2 fun _ h => h
theorem vals_snd {α : Type} {P : Value × Value → α × V → Prop} : ∀ {l : List (Value × Value)} {m : List (α × V)}, Paired (fun p q => P p q ∧ RelV q.2 p.2) l m → Vals (m.map (·.2)) (l.map (·.2))
  | _, _, .nil => .nil
  | _, _, .cons r t => .cons r.2 (vals_snd t)
/-- the list by the keys ks -/
def byKeys {α : Type} (lt : α → α → Bool) (ks : List α) (xs : List V) : List V := (iSort (fun a b : α × V => lt a.1 b.1) (ks.zip xs)).map (·.2)
theorem key_sorted {α : Type} {KR : Hp → V → α → Prop} {lt : α → α → Bool} (KO : KeyOk X KR lt) {l q : Addr} {xs : List V} {ks : List α} {Q : VK} {E : Value → Shared → Prop} (I : Inv X pins σ H s) (hs : SqL X.K H l xs) (hk : ks.length = xs.length)
    (turn : ∀ (j : Nat) (x : V) (k : α) (H2 : Hp) (s2 : Shared) (u : Value), xs[j]? = some x → ks[j]? = some k → Gone X H s H2 s2 → Same H H2 → RelV x u →
      wpAny (model X.prog X.w) X.A.in1.in1 (call (.ref q) [u]) (fun r s3 => ∃ H3, Gone X H2 s2 H3 s3 ∧ Same H2 H3 ∧ ∃ y, RelV y r ∧ KR H3 y k) (fun _ _ => False) s2)
    (fin : ∀ H2 p, Same H H2 → H2 p = none → Q (.ref p) (upd H2 p (.lst (byKeys lt ks xs)))) :
    wpAny (model X.prog X.w) X.A (call (.builtin "sorted") [.ref l] [(Str.ofString "key", .ref q)]) (EP X pins σ Q) E s := by
  obtain ⟨vs, rv, hl, hz⟩ := I.list hs
  have lv := rv.length
  refine sk_sorted (Z := fun ltv us H2 => Swo ltv ∧ ∀ p ∈ us.zip ks, ∀ q ∈ us.zip ks, ltv p.1 q.1 = lt p.2 q.2) (R := fun j H2 us => Same H H2 ∧ ∃ ys, Vals ys us ∧ Paired (KR H2) ys (ks.take j)) I hl.isList (by omega) ⟨fun _ _ e => e, [], .nil, .nil⟩ ?_ ?_ ?_
  · rintro j v H2 s2 us hv ⟨s12, ys, ry, rk⟩ g
    have hj : j < vs.length := (List.getElem?_eq_some_iff.mp hv).1
    obtain ⟨x, hx⟩ : ∃ x, xs[j]? = some x := ⟨_, List.getElem?_eq_getElem (by omega)⟩
    obtain ⟨k, hkj⟩ : ∃ k, ks[j]? = some k := ⟨_, List.getElem?_eq_getElem (by omega)⟩
    obtain ⟨v', hv', rx⟩ := rv.get hx
    rw [hv] at hv'; cases hv'
    refine wpAny_mono (turn j x k H2 s2 v hx hkj g s12 rx) (fun r s3 h => ?_) fun _ _ z => z
    obtain ⟨H3, g3, s23, y, ry2, hK⟩ := h
    refine ⟨H3, g3, s12.trans s23, ys ++ [y], paired_snoc ry2 ry, ?_⟩
    rw [List.take_add_one, hkj]
    exact paired_snoc hK (paired_mono (fun a b z => KO.keep z s23) rk)
  · rintro H2 s2 a us ⟨s12, ys, ry, rk⟩ g l1 ha hb
    rw [List.take_of_length_le (by omega)] at rk
    have I2 := g.inv I
    obtain ⟨ltv, O, h1, h2⟩ := KO.sort (A := X.A.in1.in1) (b := a) I2 ha hb rk ry
    exact ⟨ltv, O, h1, O, h2⟩
  · rintro a H2 s2 us out ltv ⟨O, hag⟩ _ ha ⟨s12, ys, ry, rk⟩ l1 p1 p2 g n ⟨c, ec⟩
    have e : out = iSort (lt2 ltv) (us.zip vs) := srt_iSort (swo2 O) p1 p2
    have pz := paired_zip (us := us) (ks := ks) rv l1 hk
    have ps := iSort_two (lt := lt2 ltv) (lt' := fun a b : α × V => lt a.1 b.1) (fun a b a' b' h1 h2 => hag _ h1.1 _ h2.1) pz
    rw [← e] at ps
    have vz := vals_snd (P := fun p q => (p.1, q.1) ∈ us.zip ks) ps
    have zl : (byKeys lt ks xs).length ≤ sizeLine := by
      have h1 := vz.length
      have h2 := p2.len
      rw [List.length_map, List.length_map, h2, List.length_zip, l1, Nat.min_self] at h1
      show ((iSort _ _).map _).length ≤ _
      rw [List.length_map, h1]; omega
    have I2 := g.inv I
    exact ⟨.ref a, upd H2 a (.lst (byKeys lt ks xs)), inv_track I ha I2 n ⟨zl, _, c, vz, ec⟩, rfl, fin H2 a s12 n⟩
end
/-! ### keys: ints, texts, pairs of ints -/
section
open SrtO (Swo Srtd Stb lt2 swo2 SortableO ltIv swo_int ints_sortable iv)
variable {X : Cx}
def KI (_ : Hp) (v : V) (k : Int) : Prop := v = .int k
def ltI (a b : Int) : Bool := decide (a < b)
theorem ki_ints {H : Hp} : ∀ {ys : List V} {us : List Value} {ks : List Int}, Paired (KI H) ys ks → Vals ys us → IntsAre us ks
  | _, _, _, .nil, .nil => .nil
  | _, _, _, .cons e t, .cons r q => by
    cases e
    obtain ⟨z, rfl⟩ := r
    exact .cons _ _ (ki_ints t q)
theorem ints_agree : ∀ {us : List Value} {ks : List Int}, IntsAre us ks → ∀ p ∈ us.zip ks, iv p.1 = p.2
  | _, _, .nil, p, h => by cases h
  | _, _, .cons n t r, p, h => by
    rcases List.mem_cons.mp h with rfl | h
    · rfl
    · exact ints_agree r p h
theorem keyI : KeyOk X KI ltI := ⟨fun h _ => h, fun {pins σ H s A b ys us ks} I _ _ rk ry => by
  have hI := ki_ints rk ry
  refine ⟨ltIv, swo_int, fun h2 => ints_sortable hI h2, fun p hp q hq => ?_⟩
  show decide (iv p.1 < iv q.1) = decide (p.2 < q.2)
  rw [ints_agree hI p hp, ints_agree hI q hq]⟩
theorem swo_ltI : Swo ltI := ⟨fun x y h => decide_eq_false (by have := of_decide_eq_true h; omega), fun x y z h1 h2 => decide_eq_false (by have := of_decide_eq_false h1; have := of_decide_eq_false h2; omega)⟩
def KS (_ : Hp) (v : V) (k : Str) : Prop := v = .str k
def ltS (a b : Str) : Bool := decide (a.cps.toList < b.cps.toList)
def sv : Value → Str
  | .str x _ => x
  | _ => Str.empty
def ltSv (v u : Value) : Bool := ltS (sv v) (sv u)
theorem swo_ltS : Swo ltS := by
  refine ⟨fun x y h => ?_, fun x y z h1 h2 => ?_⟩
  · have a : x.cps.toList < y.cps.toList := of_decide_eq_true h
    exact decide_eq_false (fun b => absurd (List.lt_trans a b) (List.lt_irrefl _))
  · have a : ¬ y.cps.toList < x.cps.toList := of_decide_eq_false h1
    have b : ¬ z.cps.toList < y.cps.toList := of_decide_eq_false h2
    refine decide_eq_false (fun c => ?_)
    have a' := List.not_lt.mp a
    have b' := List.not_lt.mp b
    exact absurd c (List.not_lt.mpr (List.le_trans a' b'))
theorem ks_strs {H : Hp} : ∀ {ys : List V} {us : List Value} {ks : List Str}, Paired (KS H) ys ks → Vals ys us → StrsAre us ks
  | _, _, _, .nil, .nil => .nil
  | _, _, _, .cons e t, .cons r q => by
    cases e
    obtain ⟨z, rfl⟩ := r
    exact .cons _ _ (ks_strs t q)
theorem strs_agree : ∀ {us : List Value} {ks : List Str}, StrsAre us ks → ∀ p ∈ us.zip ks, ∃ t, p.1 = .str p.2 t
  | _, _, .nil, p, h => by cases h
  | _, _, .cons n t r, p, h => by
    rcases List.mem_cons.mp h with rfl | h
    · exact ⟨_, rfl⟩
    · exact strs_agree r p h
theorem strs_mem : ∀ {us : List Value} {ks : List Str}, StrsAre us ks → ∀ u ∈ us, ∃ x t, u = .str x t
  | _, _, .nil, p, h => by cases h
  | _, _, .cons n t r, p, h => by
    rcases List.mem_cons.mp h with rfl | h
    · exact ⟨_, _, rfl⟩
    · exact strs_mem r p h
theorem keyS : KeyOk X KS ltS := ⟨fun h _ => h, fun {pins σ H s A b ys us ks} I _ _ rk ry => by
  have hS := ks_strs rk ry
  refine ⟨ltSv, ⟨fun x y => swo_ltS.asym _ _, fun x y z => swo_ltS.tr _ _ _⟩, fun h2 h' _ => ⟨oneType', fun Q E hq => ?_, fun p q hp hq => ?_⟩, fun p hp q hq => ?_⟩
  · match us, hS, h2 with
    | v1 :: v2 :: rest, hS, _ =>
      rw [keyKind_strs hS]
      exact wpAny_pure hq
    | [], _, h => exact absurd h (by decide)
    | [v], _, h => exact absurd h (by simp)
  · obtain ⟨x, t, e1⟩ := strs_mem hS _ hp
    obtain ⟨y, u, e2⟩ := strs_mem hS _ hq
    show wpAny _ A (keyLt' oneType' p.1 q.1) (fun r s' => s' = _ ∧ r = ltSv p.1 q.1) (fun _ _ => False) _
    rw [e1, e2, keyLt'_oneType]
    exact oneLt_str ⟨rfl, rfl⟩
  · obtain ⟨t, e1⟩ := strs_agree hS p hp
    obtain ⟨u, e2⟩ := strs_agree hS q hq
    rw [e1, e2]; rfl⟩
/-- a tuple of two ints -/
def KP (H : Hp) (v : V) (k : Int × Int) : Prop := ∃ t, v = .ref t ∧ H t = some (.tup [.int k.1, .int k.2])
theorem kp_pairs {P : Program} {w : World} {H : Hp} {h : Heap} (ok : HOk P w H h) : ∀ {ys : List V} {us : List Value} {ks : List (Int × Int)}, Paired (KP H) ys ks → Vals ys us → ∀ p ∈ us.zip ks, Srt.IsPair h p.1 p.2.1 p.2.2
  | _, _, _, .nil, .nil, p, hp => by cases hp
  | _, _, _, .cons (b := k) e t, .cons r q, p, hp => by
    rcases List.mem_cons.mp hp with rfl | hp
    · obtain ⟨a, rfl, ha⟩ := e
      cases r
      obtain ⟨_, its, rv, o, ho, hc, n, hd⟩ := ok a _ ha
      match its, rv, hd with
      | [u1, u2], .cons ⟨t1, e1⟩ (.cons ⟨t2, e2⟩ .nil), hd =>
        subst e1 e2
        exact ⟨a, o, t1, t2, n, rfl, ho, hc, hd⟩
    · exact kp_pairs ok t q p hp
theorem isPair_one {h : Heap} {v : Value} {a b c d : Int} (x : Srt.IsPair h v a b) (y : Srt.IsPair h v c d) : a = c ∧ b = d := by
  obtain ⟨p, o, t, u, n, rfl, ho, _, hd⟩ := x
  obtain ⟨p', o', t', u', n', e, ho', _, hd'⟩ := y
  cases e
  rw [ho] at ho'
  cases ho'
  rw [hd] at hd'
  cases hd'
  exact ⟨rfl, rfl⟩
open Classical in
noncomputable def pairOf (h : Heap) (v : Value) : Int × Int := if z : ∃ k : Int × Int, Srt.IsPair h v k.1 k.2 then Classical.choose z else (0, 0)
theorem pairOf_eq {h : Heap} {v : Value} {k : Int × Int} (x : Srt.IsPair h v k.1 k.2) : pairOf h v = k := by
  have z : ∃ k : Int × Int, Srt.IsPair h v k.1 k.2 := ⟨k, x⟩
  unfold pairOf
  rw [dif_pos z]
  have := isPair_one (Classical.choose_spec z) x
  exact Prod.ext this.1 this.2
theorem keyP : KeyOk X KP SrtO.lexB := ⟨fun ⟨t, e, h⟩ s => ⟨t, e, s _ _ h⟩, fun {pins σ H s A b ys us ks} I _ ⟨e, hb⟩ rk ry => by
  have hp := kp_pairs I.hok rk ry
  have hm : ∀ u ∈ us, ∃ k, (u, k) ∈ us.zip ks := by
    have : us.length = ks.length := by rw [← ry.length]; exact Paired.length rk
    intro u hu
    obtain ⟨i, hi, rfl⟩ := List.getElem_of_mem hu
    exact ⟨ks[i]'(by omega), by
      have : (us.zip ks)[i]'(by rw [List.length_zip]; omega) = (us[i], ks[i]'(by omega)) := List.getElem_zip
      rw [← this]; exact List.getElem_mem _⟩
  refine ⟨fun v u => SrtO.lexB (pairOf s.heap v) (pairOf s.heap u), SrtO.swo_lex _, fun h2 => SrtO.pairs_sortableO (by omega) (fun v hv => ?_) (fun o ho => ?_), fun p hpz q hqz => ?_⟩
  · obtain ⟨k, hk⟩ := hm v hv
    rw [pairOf_eq (hp _ hk)]; exact hp _ hk
  · rw [hb] at ho; cases ho; exact fun z => absurd (Value.type.inj z) (by decide)
  · show SrtO.lexB (pairOf s.heap p.1) (pairOf s.heap q.1) = _
    rw [pairOf_eq (hp _ hpz), pairOf_eq (hp _ hqz)]⟩
end
/-! ### lambdas with parameters, told to the ledger -/
section
open LamX (CodeO TabS Tabs ExtN TabB inv_table among_app codeO_ne)
/-- at f: the function of a lambda without captured names, its code object at c -/
def LamO (f : Addr) (qual : Str) (params : Arguments) (body : Expr) (scope : Scope) (c : Addr) : HO := .ext fun h => ∃ pm ctv, h.get? f = some (PySem.W.kla_obj "<lambda>" qual params body scope [] pm c ctv)
variable {X : Cx} {pins : List (Addr × Obj)} {σ : L2.St} {H : Hp} {s : Shared}
theorem lamO_ok {P : Program} {w : World} {h : Heap} {f c : Addr} {qual : Str} {params : Arguments} {body : Expr} {scope : Scope} {pm ctv : Value} (e : h.get? f = some (PySem.W.kla_obj "<lambda>" qual params body scope [] pm c ctv)) : ObjOk P w H h f (LamO f qual params body scope c) :=
  ⟨⟨pm, ctv, e⟩, ⟨_, e⟩, fun h1 h2 ⟨a, b, z⟩ k => ⟨a, b, k _ z⟩⟩
theorem lamO_at {P : Program} {w : World} {h : Heap} {f c : Addr} {qual : Str} {params : Arguments} {body : Expr} {scope : Scope} (ok : HOk P w H h) (e : H f = some (LamO f qual params body scope c)) : ∃ pm ctv, h.get? f = some (PySem.W.kla_obj "<lambda>" qual params body scope [] pm c ctv) := by
  have x : ObjOk P w H h f (.ext fun h => ∃ pm ctv, h.get? f = some (PySem.W.kla_obj "<lambda>" qual params body scope [] pm c ctv)) := ok f _ e
  exact x.1
theorem codeO_at {P : Program} {w : World} {h : Heap} {c : Addr} {q : Str} (ok : HOk P w H h) (e : H c = some (CodeO c q)) : ∃ (oc : Obj) (vs : Array Value) (t : Tok), h.get? c = some oc ∧ oc.data = .fields vs ∧ vs[1]? = some (.str q t) := by
  have x : ObjOk P w H h c (.ext fun h => ∃ (oc : Obj) (vs : Array Value) (t : Tok), h.get? c = some oc ∧ oc.data = .fields vs ∧ vs[1]? = some (.str q t)) := ok c _ e
  exact x.1
theorem lamO_ne {f c : Addr} {qual : Str} {params : Arguments} {body : Expr} {scope : Scope} (ps : Array Value) : LamO f qual params body scope c ≠ .tbl ps := fun z => by
  unfold LamO at z
  cases z
/-- the tables, over a heap in which nothing of them changes but P's own -/
theorem tabs_snoc {T : List (Addr × Str)} {P c : Addr} {q : Str} {ps : Array Value} {pos : Pos} (hT : Tabs T H) (hu : ∀ p ∈ T, p.1 = P → p.2 = q) (hP : H P = some (.tbl ps)) (ht : TriplesOk ps.toList) (nc : H c = none)
    (old : ∀ (p : Pos) (cv : Value), codeAmong p ps.toList = some cv → ∃ c0, cv = .ref c0 ∧ H c0 = some (CodeO c0 q)) (E : ExtN H (upd (upd H P (.tbl (ps ++ #[rawInt pos.line, rawInt pos.col, .ref c]))) c (CodeO c q))) :
    Tabs T (upd (upd H P (.tbl (ps ++ #[rawInt pos.line, rawInt pos.col, .ref c]))) c (CodeO c q)) := by
  intro p hp
  have el : (ps ++ #[rawInt pos.line, rawInt pos.col, .ref c]).toList = ps.toList ++ [rawInt pos.line, rawInt pos.col, .ref c] := by simp
  by_cases hb : p.1 = P
  · rw [hu p hp hb, hb]
    refine ⟨_, by rw [upd_ne (ne_of_none hP nc), upd_same], by rw [el]; exact PySem.TriplesOk_snoc _ _ _ _ ht, fun p' cv h => ?_⟩
    rw [el] at h
    rcases among_app _ ht h with z | z
    · obtain ⟨c0, e1, e2⟩ := old p' cv z
      exact ⟨c0, e1, E _ _ e2 codeO_ne⟩
    · exact ⟨c, z, upd_same⟩
  · obtain ⟨ps', a1, a2, a3⟩ := hT p hp
    refine ⟨ps', by rw [upd_ne (ne_of_none a1 nc), upd_ne hb]; exact a1, a2, fun p' cv h => ?_⟩
    obtain ⟨c0, e1, e2⟩ := a3 p' cv h
    exact ⟨c0, e1, E _ _ e2 codeO_ne⟩
theorem extN_table {P c : Addr} {ps qs : Array Value} {o : HO} (hP : H P = some (.tbl ps)) (nc : H c = none) : ExtN H (upd (upd H P (.tbl qs)) c o) := fun b u e n => by
  rw [upd_ne (ne_of_none e nc), upd_ne (fun z => n ps (Option.some.inj (e.symm.trans (by rw [z]; exact hP))))]
  exact e
theorem extN_new {H1 : Hp} {f : Addr} {o : HO} (E : ExtN H H1) (n : H1 f = none) : ExtN H (upd H1 f o) := fun b u e q => by
  rw [upd_ne (ne_of_none (E b u e q) n)]; exact E b u e q
theorem tabs_new {T : List (Addr × Str)} {f : Addr} {o : HO} (hT : Tabs T H) (n : H f = none) : Tabs T (upd H f o) := hT.ext fun b u e => by rw [upd_ne (ne_of_none e n)]; exact e
theorem upd_none {H : Hp} {p b : Addr} {o : HO} (h : upd H p o b = none) : H b = none := by
  by_cases c : b = p
  · subst c; rw [upd_same] at h; cases h
  · rw [upd_ne c] at h; exact h
theorem lam_make3 {T : List (Addr × Str)} {c P : Addr} {params : Arguments} {body : Expr} {scope : Scope} {pos : Pos} {E : Value → Shared → Prop} {Q : Value → Shared → Prop} (I : Inv X pins σ H s) (B : TabB X.base X.mg c P) (code : X.env.code = .ref c)
    (hm : (P, X.env.qual ++ "<lambda>") ∈ T) (hu : ∀ p ∈ T, p.1 = P → p.2 = X.env.qual ++ "<lambda>") (hT : Tabs T H) (hd : defaultsOf params X.env = ([], [])) (hcl : closureFor scope X.env = pure []) 
    (h : ∀ (f c' : Addr) (H1 : Hp) (s' : Shared), Inv X pins σ H1 s' → ExtN H H1 → Tabs T H1 → (∀ b, H1 b = none → H b = none) → H1 f = some (LamO f (X.env.qual ++ "<lambda>") params body scope c') → H1 c' = some (CodeO c' (X.env.qual ++ "<lambda>")) → Q (.ref f) s') :
    wpAny (model X.prog X.w) X.A (eval (.Lambda params body scope pos) X.env) Q E s := by
  obtain ⟨ps, hP, ht, ha⟩ := hT _ hm
  refine PySem.W.kla_eval hd ?_
  have bP : s.heap.BuiltinsAt X.mg P := B.bm.keeps I.bk
  have oP : s.heap.get? P = some { cls := .none, data := .fields ps } := I.hok P _ hP
  cases hc : codeAmong pos ps.toList with
  | some cv =>
    obtain ⟨c', e, hco⟩ := ha pos cv hc
    subst e
    refine PySem.W.kla_makeFunctionHit (mg := X.mg) (c := c) (P := P) (ps := ps) hcl I.ok.glob (I.mod.glob.keeps I.bk) code (B.code.keeps I.bk) oP ht hc bP fun ctv h' tk hx hsz => ?_
    have I1 : Inv X pins σ H { s with heap := h', toks := tk } := I.kept hx
    have nf : H h'.objs.size = none := I.hok.fresh hsz
    have I2 := I1.laid (a := h'.objs.size) (o := LamO h'.objs.size (X.env.qual ++ "<lambda>") params body scope c') (t' := tk) (h' := h'.push (PySem.W.kla_obj "<lambda>" (X.env.qual ++ "<lambda>") params body scope [] ((X.mg "__name__").getD .none) c' ctv))
      (fun b o e => Heap.get?_push_of_some _ e) (Nat.le_refl _) (lamO_ok (Heap.get?_push_size _ rfl))
    exact h _ c' _ _ I2 (extN_new (ExtN.refl H) nf) (tabs_new hT nf) (fun b => upd_none) upd_same (by rw [upd_ne (ne_of_none hco nf)]; exact hco)
  | none =>
    refine PySem.W.kla_makeFunction (mg := X.mg) (c := c) (P := P) (ps := ps) hcl I.ok.glob (I.mod.glob.keeps I.bk) code (B.code.keeps I.bk) oP ht hc B.gP bP fun c' ctv h' tk hx hge hlt hrec htb => ?_
    obtain ⟨c2, oc, vs, t, e2, hoc, hd2, hv⟩ := hrec
    cases e2
    have nc : H c' = none := I.hok.fresh hge
    have ee := extN_table (qs := ps ++ #[rawInt pos.line, rawInt pos.col, .ref c']) (o := CodeO c' (X.env.qual ++ "<lambda>")) hP nc
    have t1 := tabs_snoc (pos := pos) hT hu hP ht nc ha ee
    have I1 := inv_table (t' := tk) (q := X.env.qual ++ "<lambda>") (more := #[rawInt pos.line, rawInt pos.col, .ref c']) (h' := h') I hP (fun b o hb e => hx b o hb e) htb hge ⟨oc, vs, t, hoc, hd2, hv⟩
    have hsz : s.heap.objs.size ≤ h'.objs.size := Nat.le_trans hge (Nat.le_of_lt hlt)
    have nf : (upd (upd H P (.tbl (ps ++ #[rawInt pos.line, rawInt pos.col, .ref c']))) c' (CodeO c' (X.env.qual ++ "<lambda>"))) h'.objs.size = none := by
      rw [upd_ne (Nat.ne_of_gt hlt), upd_ne (Nat.ne_of_gt (Nat.lt_of_lt_of_le (Heap.lt_size oP) hsz))]
      exact I.hok.fresh hsz
    have I2 := I1.laid (a := h'.objs.size) (o := LamO h'.objs.size (X.env.qual ++ "<lambda>") params body scope c') (t' := tk) (h' := h'.push (PySem.W.kla_obj "<lambda>" (X.env.qual ++ "<lambda>") params body scope [] ((X.mg "__name__").getD .none) c' ctv))
      (fun b o e => Heap.get?_push_of_some _ e) (Nat.le_refl _) (lamO_ok (Heap.get?_push_size _ rfl))
    exact h _ c' _ _ I2 (extN_new ee nf) (tabs_new t1 nf) (fun b z => upd_none (upd_none (upd_none z))) upd_same (by rw [upd_ne (ne_of_none upd_same nf)]; exact upd_same)
end
/-! ### the law's end, where defs make lambdas: their code objects' tables are told from the start -/
section
open LamX (TabB)
variable {P : Program} {w : World} {K : PySem.W.Frag} {mg mb : Str → Option Value} {k : Nat} {fa a : Addr} {fd : FuncData} {x : Str} {sp : Sp} {s₁ : Shared} {vs : List Value} {ns : List Int}
/-- tables alone, and the script -/
def OnlyT (ts : List Addr) (H : Hp) : Prop := ∀ b, H b = none ∨ (b ∈ ts ∧ H b = some (.tbl #[])) ∨ ∃ o xs, H b = some (.frz o (.lst xs))
theorem lawT0 {cs : List (Addr × Addr)} (KX : K.In s₁.heap) (g1 : s₁.heap.Ns mainGlobals mg) (g2 : s₁.heap.Ns builtinsNs mb) (g3 : ∀ x : Str, x ≠ "__name__" → mb x = bootBuiltins x) (g4 : s₁.heap.NoLimit) (g5 : s₁.gens = #[])
    (g6 : ∃ (bm : Addr) (ob : Obj), mg "__builtins__" = some (.ref bm) ∧ bm ≠ builtinsNs ∧ s₁.heap.get? bm = some ob ∧ ob.cls = .type "module" ∧ ob.dict = some builtinsNs ∧ ob.data = .plain)
    (hT : ∀ p ∈ cs, s₁.heap.get? p.2 = some { cls := .none, data := .fields #[] }) (hC : ∀ p ∈ cs, PySem.W.CodeHd s₁.heap p.1 p.2)
    (ha : s₁.heap.get? a = some { cls := .type "list", data := .seq vs.toArray }) (hr : Room k callerA)
    (F : ∀ base : Heap, K.In base → base.Ns mainGlobals mg → (∀ p ∈ cs, TabB base mg p.1 p.2) → FnOkG P w K mg base CX0 k fa fd [x] sp) (bd : ∀ (s : Shared) (u : Value), BindsTo s fd ⟨[u], []⟩ [(x, u)])
    (H : Hp) (hO : OnlyT (cs.map (·.2)) H) (want : sp [.ref a] H (fun v _ => v = .bl true) fun _ _ _ => False) (ok : HOk P w H s₁.heap) (hA : ∀ b, H b ≠ none → b = a ∨ b ∈ cs.map (·.2)) (hK : ∀ b, H b ≠ none → K.lookup b = none) :
    codeAny (model P w) callerA (.call (.ref fa) ⟨[.ref a], []⟩) (fun r s' => r = .ok (.ret (.bool true)) ∧ OldK s₁.heap s'.heap ∧ s'.os = s₁.os ∧ AllBare s'.gens) s₁ := by
  have tab : ∀ b, b ∈ cs.map (·.2) → ∃ p ∈ cs, p.2 = b ∧ s₁.heap.get? b = some { cls := .none, data := .fields #[] } := by
    intro b hb
    obtain ⟨p, hp, rfl⟩ := List.mem_map.mp hb
    exact ⟨p, hp, rfl, hT p hp⟩
  have free : ∀ {b : Addr} {o : Obj}, s₁.heap.get? b = some o → (∀ us n, o.data ≠ .seq us n) → o.data ≠ .fields #[] → H b = none := by
    intro b o e h1 h2
    apply Classical.byContradiction
    intro z
    rcases hA b z with rfl | hb
    · rw [ha] at e; cases e; exact h1 _ _ rfl
    · obtain ⟨_, _, _, e2⟩ := tab b hb
      rw [e2] at e; cases e; exact h2 rfl
  have nsK : ∀ {b : Addr} {m : Str → Option Value}, s₁.heap.Ns b m → (hidT s₁.heap H).Ns b m := by
    rintro b m ⟨o, es, ep, e, d, r⟩
    exact ⟨o, es, ep, hidT_get e (free e (fun _ _ z => by rw [d] at z; cases z) fun z => by rw [d] at z; cases z), d, r⟩
  have kb : K.In (hidT s₁.heap H) := by
    intro b o e
    refine hidT_get (KX b o e) (Classical.byContradiction fun z => ?_)
    rw [hK b z] at e; cases e
  have M : Mod K mg (hidT s₁.heap H) := by
    obtain ⟨mc, h1, h2⟩ := g4
    exact ⟨kb, nsK g1, ⟨mb, nsK g2, g3⟩, ⟨mc, nsK h1, h2⟩⟩
  have gne : ∀ p ∈ cs, mainGlobals ≠ p.2 := by
    intro p hp z
    obtain ⟨o, es, ep, e, d, _⟩ := g1
    rw [z, hT p hp] at e; cases e; cases d
  have B : ∀ p ∈ cs, TabB (hidT s₁.heap H) mg p.1 p.2 := by
    intro p hp
    refine ⟨?_, ?_, gne p hp⟩
    · obtain ⟨o, us, file, tf, flags, tg, inF, text, tt, e1, r1, r2, r3, r⟩ := hC p hp
      refine ⟨o, us, file, tf, flags, tg, inF, text, tt, hidT_get e1 (free e1 (fun _ _ z => by rw [r2] at z; cases z) fun z => ?_), r1, r2, r3, r⟩
      rw [r2] at z; cases z; simp at r3
    · obtain ⟨bm, ob, b1, b2, b3, b4, b5, b6⟩ := g6
      refine ⟨bm, ob, b1, b2, ?_, ?_, hidT_get b3 (free b3 (fun _ _ z => by rw [b6] at z; cases z) fun z => by rw [b6] at z; cases z), b4, b5, b6⟩
      · intro z
        obtain ⟨o, es, ep, e, d, _⟩ := g1
        rw [z, e] at b3; cases b3; rw [d] at b6; cases b6
      · intro z
        rw [z, hT p hp] at b3; cases b3; cases b6
  have e0 : Env0 P w K mg (hidT s₁.heap H) callerA [] s₁ H :=
    { frames := rfl, mod := M, bs := fun b o e => of_hidT e, bsz := Nat.le_of_eq (hidT_size _ _), funs := trivial, frf := fun b z => absurd (show b ∈ ([] : List Addr) from z) (by simp), hok := ok, bare := .of_eq g5 }
  have run := (F _ kb (nsK g1) B).goes callerA [] s₁ H ⟨[.ref a], []⟩ [.ref a] [.ref a] _ _ rfl hr e0 (bd s₁ (.ref a)) (.cons rfl .nil) want
  refine codeAny_mono run fun r s' h => ?_
  match r, h with
  | .error e, h => exact (show False from h).elim
  | .ok .next, h => exact (show False from h).elim
  | .ok .brk, h => exact (show False from h).elim
  | .ok .cont, h => exact (show False from h).elim
  | .ok (.ret u), ⟨v, H', os, bare, un, ok', rv, (qv : v = .bl true)⟩ =>
    cases qv
    cases (show u = Value.bool true from rv)
    have same : ∀ b o, H b = none → s₁.heap.get? b = some o → s'.heap.get? b = some o := fun b o q e => un.keep b o e q (fun z => absurd (show b ∈ ([] : List Addr) from z) (by simp)) (by simp)
    have key : ∀ b o, s₁.heap.get? b = some o → s'.heap.get? b = some o ∨ (b ∈ cs.map (·.2) ∧ ∃ more : Array Value, s'.heap.get? b = some { cls := .none, data := .fields more }) := by
      intro b o e
      rcases hO b with z | ⟨hb, z⟩ | ⟨ob, xs, z⟩
      · exact .inl (same b o z e)
      · obtain ⟨more, z2⟩ := un.tbls b _ z
        exact .inr ⟨hb, _, ok' b _ z2⟩
      · have f1 := (ok b _ z).1
        have f2 := (ok' b _ (un.frzs b ob _ z)).1
        rw [f1] at e; cases e
        exact .inl f2
    refine ⟨rfl, ⟨fun b o e => ?_, fun b o e => ?_⟩, os, bare⟩
    · rcases key b o e with z | ⟨hb, more, z⟩
      · exact .inl z
      · obtain ⟨p, hp, rfl, et⟩ := tab b hb
        rw [et] at e; cases e
        exact .inr (.inl ⟨((hC p hp).tab et).isCodeTable, rfl, #[], more, rfl, by rw [Array.empty_append]; exact z⟩)
    · rcases key b o e with z | ⟨_, more, z⟩
      · exact ⟨_, z⟩
      · exact ⟨_, z⟩
theorem lawT {cs : List (Addr × Addr)} (KX : K.In s₁.heap) (g1 : s₁.heap.Ns mainGlobals mg) (g2 : s₁.heap.Ns builtinsNs mb) (g3 : ∀ x : Str, x ≠ "__name__" → mb x = bootBuiltins x) (g4 : s₁.heap.NoLimit) (g5 : s₁.gens = #[])
    (g6 : ∃ (bm : Addr) (ob : Obj), mg "__builtins__" = some (.ref bm) ∧ bm ≠ builtinsNs ∧ s₁.heap.get? bm = some ob ∧ ob.cls = .type "module" ∧ ob.dict = some builtinsNs ∧ ob.data = .plain)
    (hT : ∀ p ∈ cs, s₁.heap.get? p.2 = some { cls := .none, data := .fields #[] }) (hC : ∀ p ∈ cs, PySem.W.CodeHd s₁.heap p.1 p.2) (nT : ∀ p ∈ cs, K.lookup p.2 = none)
    (ha : s₁.heap.get? a = some { cls := .type "list", data := .seq vs.toArray }) (hi : IntsAre vs ns) (hl : ns.length ≤ sizeLine) (hr : Room k callerA)
    (F : ∀ base : Heap, K.In base → base.Ns mainGlobals mg → (∀ p ∈ cs, TabB base mg p.1 p.2) → FnOkG P w K mg base CX0 k fa fd [x] sp) (bd : ∀ (s : Shared) (u : Value), BindsTo s fd ⟨[u], []⟩ [(x, u)])
    (want : ∀ H : Hp, (∀ p ∈ cs, H p.2 = some (.tbl #[])) → SqL K H a (ns.map V.int) → sp [.ref a] H (fun v _ => v = .bl true) fun _ _ _ => False) :
    codeAny (model P w) callerA (.call (.ref fa) ⟨[.ref a], []⟩) (fun r s' => r = .ok (.ret (.bool true)) ∧ OldK s₁.heap s'.heap ∧ s'.os = s₁.os ∧ AllBare s'.gens) s₁ := by
  have rv := vals_ints hi
  have tab : ∀ b, b ∈ cs.map (·.2) → s₁.heap.get? b = some { cls := .none, data := .fields #[] } ∧ K.lookup b = none := by
    intro b hb
    obtain ⟨p, hp, rfl⟩ := List.mem_map.mp hb
    exact ⟨hT p hp, nT p hp⟩
  have na : a ∉ cs.map (·.2) := fun z => by
    have := (tab a z).1
    rw [ha] at this
    cases this
  have tok : ∀ {H : Hp} {b : Addr}, b ∈ cs.map (·.2) → ObjOk P w H s₁.heap b (.tbl #[]) := fun hb => (tab _ hb).1
  by_cases hk : K.lookup a = none
  · let H : Hp := fun b => if b = a then some (.frz { cls := .type "list", data := .seq vs.toArray } (.lst (ns.map V.int))) else if b ∈ cs.map (·.2) then some (.tbl #[]) else none
    have Ha : H a = some (.frz { cls := .type "list", data := .seq vs.toArray } (.lst (ns.map V.int))) := if_pos rfl
    have Ht : ∀ b ∈ cs.map (·.2), H b = some (.tbl #[]) := fun b hb => (if_neg fun z => na (by rw [← z]; exact hb)).trans (if_pos hb)
    have Hn : ∀ b, b ≠ a → b ∉ cs.map (·.2) → H b = none := fun b n m => (if_neg n).trans (if_neg m)
    have hA : ∀ b, H b ≠ none → b = a ∨ b ∈ cs.map (·.2) := fun b z => Classical.byContradiction fun q => z (Hn b (fun y => q (.inl y)) fun y => q (.inr y))
    refine lawT0 KX g1 g2 g3 g4 g5 g6 hT hC ha hr F bd H (fun b => ?_) (want H (fun p hp => Ht _ (List.mem_map.mpr ⟨p, hp, rfl⟩)) (.inl (.inr ⟨_, Ha⟩))) (fun b u z => ?_) hA (fun b z => ?_)
    · by_cases e : b = a
      · exact .inr (.inr ⟨_, _, e ▸ Ha⟩)
      · by_cases m : b ∈ cs.map (·.2)
        · exact .inr (.inl ⟨m, Ht b m⟩)
        · exact .inl (Hn b e m)
    · rcases hA b (by rw [z]; intro y; cases y) with rfl | m
      · rw [Ha] at z; cases z
        exact ⟨ha, by rw [List.length_map]; exact hl, vs, _, rv, ha⟩
      · rw [Ht b m] at z; cases z
        exact tok m
    · rcases hA b z with rfl | m
      · exact hk
      · exact (tab b m).2
  · obtain ⟨o, ho⟩ := Option.ne_none_iff_exists'.mp hk
    have e := KX a o ho
    rw [ha] at e
    cases e
    let H : Hp := fun b => if b ∈ cs.map (·.2) then some (.tbl #[]) else none
    have Ht : ∀ b ∈ cs.map (·.2), H b = some (.tbl #[]) := fun b hb => if_pos hb
    have hA : ∀ b, H b ≠ none → b ∈ cs.map (·.2) := fun b z => Classical.byContradiction fun q => z (if_neg q)
    refine lawT0 KX g1 g2 g3 g4 g5 g6 hT hC ha hr F bd H (fun b => ?_) (want H (fun p hp => Ht _ (List.mem_map.mpr ⟨p, hp, rfl⟩)) (.inr ⟨_, vs.toArray, _, ho, rfl, rfl, rfl, by rw [List.size_toArray, hi.length]; exact hl, by simpa using rv⟩)) (fun b u z => ?_) (fun b z => .inr (hA b z)) fun b z => (tab b (hA b z)).2
    · by_cases m : b ∈ cs.map (·.2)
      · exact .inr (.inl ⟨m, Ht b m⟩)
      · exact .inl (if_neg m)
    · have m := hA b (by rw [z]; intro y; cases y)
      rw [Ht b m] at z; cases z
      exact tok m
end
/-- ts: the tables of all defs that make lambdas -/
theorem walkM {l : PySem.W.OpenLaw} {n k : Nat} {q : Program} {loose : List Str} {XP : (Str → Option Value) → Heap → Prop} {YP : World → Heap → Prop} {d : DefRec} {K : Params → PySem.W.Frag} {x : Str} {ts : List Addr}
    (hn : l.most = some n) (hn2 : n ≤ sizeLine) (hdf : d.params.defaults = []) (hr : Room k callerA) (hY : ∀ (w : World) (h : Heap), YP w h → (K w.params).In h) (hT : ∀ (w : World) (h : Heap), YP w h → ∀ P ∈ ts, h.get? P = some (tabObj #[]))
    (F : ∀ (w : World) (mg : Str → Option Value) (fa : Addr) (h : Heap), (K w.params).In h → h.Ns mainGlobals mg → mg d.name = some (.ref fa) →
      ∃ (fd : FuncData) (cs : List (Addr × Addr)) (sp : Sp), (∀ t ∈ cs, t.2 ∈ ts ∧ PySem.W.codeHdIn (K w.params) t.1 t.2 = true ∧ (K w.params).lookup t.2 = none) ∧ (∀ (s : Shared) (u : Value), BindsTo s fd ⟨[u], []⟩ [(x, u)]) ∧
        (∀ (H : Hp) (a : Addr) (ns : List Int), ns.length ≤ n → (∀ t ∈ cs, H t.2 = some (.tbl #[])) → SqL (K w.params) H a (ns.map V.int) → sp [.ref a] H (fun v _ => v = .bl true) fun _ _ _ => False) ∧
        ∀ base : Heap, (K w.params).In base → base.Ns mainGlobals mg → (∀ t ∈ cs, LamX.TabB base mg t.1 t.2) → FnOkG l.prog w (K w.params) mg base CX0 k fa fd [x] sp) :
    PySem.W.WalkO q loose XP YP l.row.toRowW d [] (fun f vs => PySem.call f vs) := by
  apply Att.attach_call hn hdf
  intro w s₀ s₁ mg mb fa o pm cd doc a vs ns G Y ho hd hcd hmg hobj hints hlen hg
  have KX := hY w _ Y
  obtain ⟨fd, cs, sp, hcs, bd, want, hF⟩ := F w mg fa _ KX G.T.g hmg
  exact lawT (cs := cs) KX G.T.g G.T.b G.T.builtins G.T.nolimit hg G.T.bmain (fun p hp => hT w _ Y _ (hcs p hp).1) (fun p hp => PySem.W.codeHd_of_K KX (hcs p hp).2.1) (fun p hp => (hcs p hp).2.2) hobj hints (Nat.le_trans hlen hn2) hr hF bd fun H hH hS => want H a ns hlen hH hS
/-! ### lambdas made and called; sorted by them -/
section
open LamX (CodeO TabS Tabs ExtN TabB)
variable {X : Cx}
def tLamE (TT : List (Addr × Str)) (qual : Str) (params : Arguments) (body : Expr) (scope : Scope) : TE := fun _ H Q => Tabs TT H ∧ ∀ f c H1, ExtN H H1 → Tabs TT H1 → (∀ b, H1 b = none → H b = none) → H1 f = some (LamO f qual params body scope c) → H1 c = some (CodeO c qual) → Q (.ref f) H1
theorem pe_lam3 {TT : List (Addr × Str)} {c P : Addr} {params : Arguments} {body : Expr} {scope : Scope} {pos : Pos} (B : TabB X.base X.mg c P) (code : X.env.code = .ref c) (hm : (P, X.env.qual ++ "<lambda>") ∈ TT) (hu : ∀ p ∈ TT, p.1 = P → p.2 = X.env.qual ++ "<lambda>")
    (hd : defaultsOf params X.env = ([], []) := by rfl) (hcl : closureFor scope X.env = pure [] := by rfl) : PE X (.Lambda params body scope pos) (tLamE TT (X.env.qual ++ "<lambda>") params body scope) := by
  refine ⟨fun pins s σ H Q I h => ?_⟩
  obtain ⟨hT, q⟩ := h
  exact lam_make3 I B code hm hu hT hd hcl fun f c' H1 s' I1 e1 t1 h0 h1 h2 => ⟨.ref f, H1, I1, rfl, q f c' H1 e1 t1 h0 h1 h2⟩
theorem CE.gone {H : Hp} {s s' : Shared} {Q : VK} {u : Value} (h : CE X.stack X.prog X.w H s Q u s') : ∃ v H', Gone X H s H' s' ∧ RelV v u ∧ Q v H' := by
  obtain ⟨v, H', os, bare, un, hok, r, q⟩ := h
  exact ⟨v, H', ⟨os, bare, un, hok⟩, r, q⟩
theorem inv_env1 {pins : List (Addr × Obj)} {σ : L2.St} {H : Hp} {s : Shared} (I : L2.Inv X pins σ H s) : Env0 X.prog X.w X.K X.mg X.base X.A.in1.in1 X.stack s H := { I.env0 with frames := I.env0.frames }
section
variable {pins : List (Addr × Obj)} {σ : L2.St} {H : Hp} {s : Shared} {f c : Addr} {qual : Str} {params : Arguments} {body : Expr} {scope : Scope} {N ps : List Str} {tb : TE} {k : Nat} {us : List Value} {vs : List V} {Q : VK}
theorem run_lam3 (I : L2.Inv X pins σ H s) (hf : H f = some (LamO f qual params body scope c)) (hc : H c = some (CodeO c qual)) (S : FnScope N ps scope)
    (bind : ∀ (us : List Value) (pm cv ctv : Value), us.length = ps.length → bindArgs (PySem.W.kla_fn "<lambda>" qual params body scope [] pm cv ctv) ⟨us, []⟩ = pure (ps.zip us)) (hr : Room (k + 1) X.A.in1.in1)
    (hb : ∀ (A : Around) (outer : List Env) (s : Shared) (H : Hp), Room k (A.deeper (envOfC qual scope s.heap.objs.size f (.ref c))) → PE (cxOf CX0 X.prog X.w X.K X.mg X.base N qual scope f (.ref c) A outer s H E0).nox body tb)
    (r : Vals vs us) (hl : vs.length = ps.length) (want : tb (L2.start N vs) H Q) : wpAny (model X.prog X.w) X.A.in1.in1 (call (.ref f) us) (fun u s' => CE X.stack X.prog X.w H s Q u s') (fun _ _ => False) s := by
  obtain ⟨pm, ctv, of⟩ := lamO_at I.hok hf
  obtain ⟨oc, cvs, t, hoc, hdc, hvc⟩ := codeO_at I.hok hc
  have env := (inv_env1 I)
  have lim : s.heap.NoLimit := I.nolimit
  have hul : us.length = ps.length := r.length.symm.trans hl
  have vis : ∀ y ∈ ps.zip us, scope.names.lookup y.1 = some .local ∨ (scope.names.lookup y.1 = some .cell ∧ ((cellsFrom (s.heap.objs.size + 1) scope.names []).lookup y.1).isSome = true) := by
    rintro ⟨n, v⟩ hy
    exact (S.par n (List.of_mem_zip hy).1).elim Or.inl fun z => Or.inr ⟨z, PySem.W.cellsFrom_some _ _ _ (Or.inl z)⟩
  refine wpAny_call (PySem.W.kla_callFunE hr.depth of rfl S.co S.gen rfl ⟨c, oc, cvs, t, rfl, hoc, hdc, hvc⟩ ?_)
  rw [bind us _ _ _ hul]
  refine wpAny_pure (wpAny_newFunctionEnv_cells S.kind vis fun env' he s1 x => ?_)
  cases he
  refine ⟨lim.keeps x.toInCall.keep, PySem.W.kla_codeExpr ?_⟩
  have J : L2.Inv (cxOf CX0 X.prog X.w X.K X.mg X.base N qual scope f (.ref c) X.A.in1.in1 X.stack s H E0) [] (L2.start N vs) H s1 := inv_start S hr.hd env hl r x
  refine wpAny_mono ((hb _ _ s H (hr.deeper _)).run [] s1 _ H Q (J.wish _) want) (fun u s' z => ?_) fun e s' z => z.elim
  obtain ⟨v, H', J', rv, q⟩ := z
  exact ⟨v, H', J'.os, J'.bare, J'.base, J'.hok, rv, q⟩
end
/-- sorted(l, key=lambda ..: ..) -/
def rSortL (K : PySem.W.Frag) {α : Type} (KR : Hp → V → α → Prop) (lt : α → α → Bool) (qual : Str) (params : Arguments) (body : Expr) (scope : Scope) (N : List Str) (tb : TE) : List V → List V → Hp → VK → Prop := fun vs zs H Q =>
  ∃ (l f c : Addr) (xs : List V) (ks : List α), vs = [.ref l] ∧ zs = [.ref f] ∧ H f = some (LamO f qual params body scope c) ∧ H c = some (CodeO c qual) ∧ SqL K H l xs ∧ ks.length = xs.length ∧
    (∀ (j : Nat) (x : V) (k : α) (H2 : Hp), xs[j]? = some x → ks[j]? = some k → Same H H2 → tb (L2.start N [x]) H2 fun y H3 => Same H2 H3 ∧ KR H3 y k) ∧
    ∀ H2 p, Same H H2 → H2 p = none → Q (.ref p) (upd H2 p (.lst (byKeys lt ks xs)))
theorem call_sortL {α : Type} {KR : Hp → V → α → Prop} {lt : α → α → Bool} (KO : KeyOk X KR lt) {qual : Str} {params : Arguments} {body : Expr} {scope : Scope} {N : List Str} {px : Str} {tb : TE} {k : Nat} (S : FnScope N [px] scope)
    (bind : ∀ (us : List Value) (pm cv ctv : Value), us.length = 1 → bindArgs (PySem.W.kla_fn "<lambda>" qual params body scope [] pm cv ctv) ⟨us, []⟩ = pure ([px].zip us)) (hr : Room (k + 3) X.A)
    (hb : ∀ (f c : Addr) (A : Around) (outer : List Env) (s : Shared) (H : Hp), Room k (A.deeper (envOfC qual scope s.heap.objs.size f (.ref c))) → PE (cxOf CX0 X.prog X.w X.K X.mg X.base N qual scope f (.ref c) A outer s H E0).nox body tb) :
    CallRK X (.builtin "sorted") ["key"] (rSortL X.K KR lt qual params body scope N tb) := by
  intro pins s σ H xs zs us ws Q I r rz h
  obtain ⟨l, f, c, ys, ks, rfl, rfl, hf, hc, hs, hk, turn, fin⟩ := h
  obtain ⟨ud, rfl, rd⟩ := Vals.one rz
  obtain rfl : ud = Value.ref f := rd
  rw [Vals.ref1 r]
  refine key_sorted KO I hs hk (fun j x ky H2 s2 u hx hky g s12 rx => ?_) fin
  have I2 := g.inv I
  refine wpAny_mono (run_lam3 (ps := [px]) (vs := [x]) (us := [u]) I2 (s12 _ _ hf) (s12 _ _ hc) S bind hr.in1.in1 (hb f c) (.cons rx .nil) rfl (turn j x ky H2 hx hky s12)) (fun v s3 z => ?_) fun _ _ z => z
  obtain ⟨y, H3, g3, ry, s23, hK⟩ := CE.gone z
  exact ⟨H3, g3, s23, y, ry, hK⟩
/-- sorted(l, key=f), f a def of the module -/
def rSortF (K : PySem.W.Frag) {α : Type} (KR : Hp → V → α → Prop) (lt : α → α → Bool) (f : Addr) (sp : Sp) : List V → List V → Hp → VK → Prop := fun vs zs H Q =>
  ∃ (l : Addr) (xs : List V) (ks : List α), vs = [.ref l] ∧ zs = [.ref f] ∧ SqL K H l xs ∧ ks.length = xs.length ∧
    (∀ (j : Nat) (x : V) (k : α) (H2 : Hp), xs[j]? = some x → ks[j]? = some k → Same H H2 → sp [x] H2 (fun y H3 => Same H2 H3 ∧ KR H3 y k) E0) ∧
    ∀ H2 p, Same H H2 → H2 p = none → Q (.ref p) (upd H2 p (.lst (byKeys lt ks xs)))
theorem call_sortF {α : Type} {KR : Hp → V → α → Prop} {lt : α → α → Bool} (KO : KeyOk X KR lt) {f : Addr} {fd : FuncData} {px : Str} {sp : Sp} {k : Nat} (F : FnOk X.prog X.w X.K X.mg X.base CX0 k f fd [px] sp) (hb : L2.Binds X.K fd [px] []) (hr : Room (k + 2) X.A) :
    CallRK X (.builtin "sorted") ["key"] (rSortF X.K KR lt f sp) := by
  intro pins s σ H xs zs us ws Q I r rz h
  obtain ⟨l, ys, ks, rfl, rfl, hs, hk, turn, fin⟩ := h
  obtain ⟨ud, rfl, rd⟩ := Vals.one rz
  obtain rfl : ud = Value.ref f := rd
  rw [Vals.ref1 r]
  refine key_sorted KO I hs hk (fun j x ky H2 s2 u hx hky g s12 rx => ?_) fin
  have I2 := g.inv I
  have bd := hb s2 [u] I2.kIn rfl
  rw [List.append_nil] at bd
  refine wpAny_call (codeAny_mono (F.run X.A.in1.in1 X.stack s2 H2 ⟨[u], []⟩ [u] [x] _ E0 hr.in1.in1 (inv_env1 I2) bd (.cons rx .nil) (turn j x ky H2 hx hky s12)) fun z s3 hz => ?_)
  match z, hz with
  | .error er, hz => exact (show False from hz).elim
  | .ok (.ret v), hz =>
    obtain ⟨y, H3, g3, ry, s23, hK⟩ := CE.gone hz
    exact ⟨H3, g3, s23, y, ry, hK⟩
  | .ok .next, hz => exact (show False from hz).elim
  | .ok .brk, hz => exact (show False from hz).elim
  | .ok .cont, hz => exact (show False from hz).elim
end
/-! ### calls by places and names, defaults -/
def nthL {α : Type} : List α → Nat → List α
  | [], _ => []
  | a :: _, 0 => [a]
  | _ :: l, n + 1 => nthL l n
def pickL {α : Type} (l : List α) : List Nat → List α
  | [] => []
  | i :: r => nthL l i ++ pickL l r
theorem nthL_vals : ∀ {vs : List V} {us : List Value} (i : Nat), Vals vs us → Vals (nthL vs i) (nthL us i)
  | _, _, _, .nil => .nil
  | _, _, 0, .cons r _ => .cons r .nil
  | _, _, i + 1, .cons _ t => nthL_vals i t
theorem pickL_vals {vs : List V} {us : List Value} (h : Vals vs us) : ∀ is : List Nat, Vals (pickL vs is) (pickL us is)
  | [] => .nil
  | i :: r => (nthL_vals i h).append (pickL_vals h r)
theorem kbD {K : PySem.W.Frag} {x qual : Str} {params : Arguments} {body : List Stmt} {scope : Scope} {dvs : List V} {kws : List (Str × V)} {f : Addr} {fd : FuncData} {ps : List Str} (F : FunD K x qual params body scope dvs kws f fd) (n : Nat) (ks : List Str) (is : List Nat) (hd : dvs ≠ [])
    (h : ∀ (T : Addr) (kV doc pm : Value) (an : Option Addr) (cdv ct : Value) (us its ws : List Value), us.length = n → its.length = dvs.length → ws.length = ks.length →
      ∃ k, bindArgs (PySem.W.fnOf x qual params body scope (.ref T) kV doc pm an cdv ct) ⟨us, ks.zip ws⟩ = seqItems? (.ref T) >>= k ∧ k (some its.toArray) = pure (ps.zip (pickL (us ++ its ++ ws) is))) :
    ∃ its : List Value, KBn K fd ps n ks (fun us ws => pickL (us ++ its ++ ws) is) (fun vs zs => pickL (vs ++ dvs ++ zs) is) :=
  FunD.kbindsD F n ks (fun us its ws => pickL (us ++ its ++ ws) is) hd (fun a b c => pickL_vals ((a.append b).append c) is) h
theorem kbF {K : PySem.W.Frag} {x qual : Str} {st : Stmt} {f : Addr} {fd : FuncData} {ps : List Str} (F : Fun K x qual st f fd) (n : Nat) (ks : List Str) (is : List Nat)
    (h : ∀ (kV doc pm : Value) (an : Option Addr) (cdv ct : Value) (us ws : List Value), us.length = n → ws.length = ks.length → bindArgs (PySem.W.fnOf x qual (defArgs st) (defBody st) (defScope st) .none kV doc pm an cdv ct) ⟨us, ks.zip ws⟩ = pure (ps.zip (pickL (us ++ ws) is))) :
    KBn K fd ps n ks (fun us ws => pickL (us ++ ws) is) (fun vs zs => pickL (vs ++ zs) is) := by
  obtain ⟨oc, od, kV, doc, pm, an, cdv, ct, osl, rfl, lk, hcd⟩ := F.ex
  exact ⟨fun s us ws _ h1 h2 => .of_eq (h kV doc pm an cdv ct us ws h1 h2), fun a b => pickL_vals (a.append b) is⟩
section
variable {X : Cx} {CX : CXT} {k : Nat} {f : Addr} {fd : FuncData} {ps ks : List Str} {sp : Sp} {E : XK} {x : Str} {p pos : Pos} {kws : List Keyword} {tk : TA} {g : List Value → List Value → List Value} {gV : List V → List V → List V}
/-- f(k = v, ..) -/
theorem pe_callN0 (F : FnOk X.prog X.w X.K X.mg X.base CX k f fd ps sp) (hr : Room k X.A) (hg : Gl X x) (hm : X.mg x = some (.ref f)) (hk : PySem.W.keepIn X.K (.ref f) = true) (hb : KBn X.K fd ps 0 ks g gV) (hx : Passes CX X E)
    (hkw : PK X kws tk) (hall : (backToKw pos (keywordEach kws X.env)).all (·.1.isSome) = true := by rfl) (hks : (backToKw pos (keywordEach kws X.env)).filterMap (·.1) = ks := by rfl)
    (hdb : (x == ("__debug__" : Str)) = false := by decide)
    (hpl : ((backTo pos (starEach [] X.env)).any (·.1) || (backToKw pos (keywordEach kws X.env)).any (·.1.isNone)) = false := by rfl) :
    PE X (.Call (.Name x p) [] kws pos) (tCallN 0 ks.length sp gV E tNil tk) := by
  refine ⟨fun pins s σ H Q I h => ?_⟩
  refine wpAny_Call_Name_kw (ld_glob I hg hm ?_ hdb)
  refine PySem.W.callWith_KW0 (h₀ := X.base) I.ok.mod.kin hk hall ?_ hpl
  refine thn (hkw.run pos pins s σ H _ I h) fun ws s2 ⟨zs, H2, I2, rz, _, l2, q2⟩ => ⟨I2.kIn, ?_⟩
  rw [hks]
  exact run_fnN F hr hb hx I2 .nil rz rfl l2 q2
end
/-! ### == and != of lists of own objects, whatever comes of it -/
set_option maxHeartbeats 8000000
section
open PySem.SeqAt GQ
open AutoSeq1 (wpAny_loadPart')
open MeetsSeq MeetsSeq2 MeetsSeq3 SeqRoads2
section
variable {prog : Program} {w : World} {A : Around} {R : Result → Shared → Prop}
/-- the lists at l and b are read anew at each turn, N items each; the first k are equal, and the k-th, where there is one, is not -/
def ListB (prog : Program) (w : World) (A : Around) (E : Value → Shared → Prop) (l b : Addr) (N k : Nat) (I : Nat → Shared → Prop) : Prop :=
  ∀ i s, I i s → ∃ (items items2 : Array Value) (n n2 : Nat), s.heap.get? l = some { cls := .type "list", data := .seq items n } ∧ s.heap.get? b = some { cls := .type "list", data := .seq items2 n2 } ∧ items.size = N ∧ items2.size = N ∧
    ∀ (h1 : i < items.size) (h2 : i < items2.size), i ≤ k → wpAny (model prog w) A.in1 (eqBool items[i] items2[i]) (fun r s' => r = decide (i < k) ∧ I (i + 1) s') E s
theorem b_loop (l b : Addr) (N k : Nat) (hk : k ≤ N) (I : Nat → Shared → Prop) (hl : ListB prog w A (fun e s' => R (.error e) s') l b N k I) (neg : Bool)
    (fin : ∀ i s, I i s → R (.ok (.ret (.bool (neg != decide (k = N))))) s) (m : Nat) :
    ∀ i : Nat, k - i = m → i ≤ k → ∀ s, I i s →
      wpAny (model prog w) A.in1 (Builtin.«list.__eq__.loop» ⟨[.ref l, .ref b, rawInt i, rawInt (if neg = true then 3 else 2)], []⟩) (FinOf prog w A R) (fun e s' => R (.error e) s') s := by
  induction m with
  | zero =>
    intro i hm hi s h
    obtain ⟨items, items2, n, n2, hl1, hb1, hs1, hs2, turn⟩ := hl _ _ h
    have hi' : i = k := by omega
    subst hi'
    by_cases c : i = N
    · have hR : R (.ok (.ret (.bool (neg != true)))) s := by have := fin _ s h; rw [decide_eq_true c] at this; exact this
      obtain ⟨hp, g, d, tk, os⟩ := s
      have hi1 : items[((i : Nat) : Int).toNat]? = none := by simp; omega
      have hi2 : items2[((i : Nat) : Int).toNat]? = none := by simp; omega
      cases neg with
      | true =>
        rw [if_pos rfl]
        wp_walk using wpAny_loadPart' hl1, wpAny_loadPart' hb1
        rw [hi1, hi2]
        wp_walk using wpAny_loadPart' hl1, wpAny_loadPart' hb1
        show R (.ok (.ret (.bool (items.size != items2.size)))) _
        rw [hs1, hs2]
        simpa using hR
      | false =>
        rw [if_neg (by decide)]
        wp_walk using wpAny_loadPart' hl1, wpAny_loadPart' hb1
        rw [hi1, hi2]
        wp_walk using wpAny_loadPart' hl1, wpAny_loadPart' hb1
        show R (.ok (.ret (.bool (items.size == items2.size)))) _
        rw [hs1, hs2]
        simpa using hR
    · have hlt : i < items.size := by omega
      have hlt2 : i < items2.size := by omega
      have ht := turn hlt hlt2 (Nat.le_refl _)
      rw [decide_eq_false (Nat.lt_irrefl i)] at ht
      have hi1 : items[((i : Nat) : Int).toNat]? = some items[i] := by simp [hlt]
      have hi2 : items2[((i : Nat) : Int).toNat]? = some items2[i] := by simp [hlt2]
      have after : ∀ s2, I (i + 1) s2 → ∃ (js js2 : Array Value) (n n2 : Nat) (x y : Value), s2.heap.get? l = some { cls := .type "list", data := .seq js n } ∧ s2.heap.get? b = some { cls := .type "list", data := .seq js2 n2 } ∧ js[((i : Nat) : Int).toNat]? = some x ∧ js2[((i : Nat) : Int).toNat]? = some y ∧ R (.ok (.ret (.bool (neg != false)))) s2 := by
        intro s2 h2
        obtain ⟨js, js2, n, n2, a1, a2, b1, b2, _⟩ := hl _ _ h2
        have hR := fin _ s2 h2
        rw [decide_eq_false c] at hR
        have z1 : i < js.size := by omega
        have z2 : i < js2.size := by omega
        exact ⟨js, js2, n, n2, js[i], js2[i], a1, a2, by simp [z1], by simp [z2], hR⟩
      obtain ⟨hp, g, d, tk, os⟩ := s
      cases neg with
      | true =>
        rw [if_pos rfl]
        wp_walk using wpAny_loadPart' hl1, wpAny_loadPart' hb1
        rw [hi1, hi2]
        refine wpAny_bind (wpAny_mono ht (fun r s2 h2 => ?_) fun _ _ x => x)
        obtain ⟨hr, h2⟩ := h2
        subst hr
        obtain ⟨js, js2, n, n2, x, y, a1, a2, e1, e2, hR⟩ := after _ h2
        obtain ⟨hp2, g2, d2, tk2, os2⟩ := s2
        wp_walk using wpAny_loadPart' a1, wpAny_loadPart' a2
        rw [e1, e2]
        wp_walk
        exact hR
      | false =>
        rw [if_neg (by decide)]
        wp_walk using wpAny_loadPart' hl1, wpAny_loadPart' hb1
        rw [hi1, hi2]
        refine wpAny_bind (wpAny_mono ht (fun r s2 h2 => ?_) fun _ _ x => x)
        obtain ⟨hr, h2⟩ := h2
        subst hr
        obtain ⟨js, js2, n, n2, x, y, a1, a2, e1, e2, hR⟩ := after _ h2
        obtain ⟨hp2, g2, d2, tk2, os2⟩ := s2
        wp_walk using wpAny_loadPart' a1, wpAny_loadPart' a2
        rw [e1, e2]
        wp_walk
        exact hR
  | succ m ih =>
    intro i hm hi s h
    obtain ⟨items, items2, n, n2, hl1, hb1, hs1, hs2, turn⟩ := hl _ _ h
    have hlt : i < items.size := by omega
    have hlt2 : i < items2.size := by omega
    have ht := turn hlt hlt2 hi
    rw [decide_eq_true (show i < k by omega)] at ht
    obtain ⟨hp, g, d, tk, os⟩ := s
    have hi1 : items[((i : Nat) : Int).toNat]? = some items[i] := by simp [hlt]
    have hi2 : items2[((i : Nat) : Int).toNat]? = some items2[i] := by simp [hlt2]
    have hc : ((i : Int) + 1) = ((i + 1 : Nat) : Int) := by omega
    cases neg with
    | true =>
      rw [if_pos rfl] at ih ⊢
      wp_walk using wpAny_loadPart' hl1, wpAny_loadPart' hb1
      rw [hi1, hi2]
      refine wpAny_bind (wpAny_mono ht (fun r s2 h2 => ?_) fun _ _ x => x)
      obtain ⟨hr, h2⟩ := h2
      subst hr
      have hrec := ih (i + 1) (by omega) (by omega) s2 h2
      obtain ⟨hp2, g2, d2, tk2, os2⟩ := s2
      wp_walk
      rw [hc]
      exact ⟨plainId_quiet plain_eq_loop _, codeAny_builtin entry_eq_loop (by
        rw [Around.under_plainId plain_eq_loop _]
        exact hrec)⟩
    | false =>
      rw [if_neg (by decide)] at ih ⊢
      wp_walk using wpAny_loadPart' hl1, wpAny_loadPart' hb1
      rw [hi1, hi2]
      refine wpAny_bind (wpAny_mono ht (fun r s2 h2 => ?_) fun _ _ x => x)
      obtain ⟨hr, h2⟩ := h2
      subst hr
      have hrec := ih (i + 1) (by omega) (by omega) s2 h2
      obtain ⟨hp2, g2, d2, tk2, os2⟩ := s2
      wp_walk
      rw [hc]
      exact ⟨plainId_quiet plain_eq_loop _, codeAny_builtin entry_eq_loop (by
        rw [Around.under_plainId plain_eq_loop _]
        exact hrec)⟩
end
section
variable {prog : Program} {w : World} {A : Around} {R : Result → Shared → Prop}
theorem list_eqB (neg : Bool) (l b : Addr) (N k : Nat) (hk : k ≤ N) (I : Nat → Shared → Prop) (hl : ListB prog w A (fun e s' => R (.error e) s') l b N k I)
    (fin : ∀ i s, I i s → R (.ok (.ret (.bool (neg != decide (k = N))))) s) {s : Shared} (h : I 0 s) :
    wpAny (model prog w) A.in1 ((if neg = true then Builtin.«list.__ne__» else Builtin.«list.__eq__») ⟨[.ref l, .ref b], []⟩) (FinOf prog w A R) (fun e s' => R (.error e) s') s := by
  obtain ⟨items, items2, n, n2, hl1, hb1, hs1, hs2, _⟩ := hl _ _ h
  have hrec := b_loop (A := A) (R := R) l b N k hk I hl neg fin _ 0 rfl (Nat.zero_le _) s h
  obtain ⟨hp, g, d, tk, os⟩ := s
  have f3 := AutoSeq1.sub_list_list
  have hne : ¬ (items.size != items2.size) = true := by simp [hs1, hs2]
  cases neg with
  | true =>
    rw [if_pos rfl] at hrec ⊢
    wp_walk using wpAny_loadPart' hl1, wpAny_loadPart' hb1
    exact ⟨plainId_quiet plain_eq_loop _, codeAny_builtin entry_eq_loop (by
      rw [Around.under_plainId plain_eq_loop _]
      exact hrec)⟩
  | false =>
    rw [if_neg (by decide)] at hrec ⊢
    wp_walk using wpAny_loadPart' hl1, wpAny_loadPart' hb1
    exact ⟨plainId_quiet plain_eq_loop _, codeAny_builtin entry_eq_loop (by
      rw [Around.under_plainId plain_eq_loop _]
      exact hrec)⟩
/-- lists of unlike lengths -/
theorem list_eqL (neg : Bool) (l b : Addr) {items items2 : Array Value} {n n2 : Nat} {s : Shared} (hl1 : s.heap.get? l = some { cls := .type "list", data := .seq items n }) (hb1 : s.heap.get? b = some { cls := .type "list", data := .seq items2 n2 }) (hne : (items.size != items2.size) = true)
    (fin : R (.ok (.ret (.bool neg))) s) :
    wpAny (model prog w) A.in1 ((if neg = true then Builtin.«list.__ne__» else Builtin.«list.__eq__») ⟨[.ref l, .ref b], []⟩) (FinOf prog w A R) (fun e s' => R (.error e) s') s := by
  obtain ⟨hp, g, d, tk, os⟩ := s
  have f3 := AutoSeq1.sub_list_list
  cases neg with
  | true =>
    rw [if_pos rfl]
    wp_walk using wpAny_loadPart' hl1, wpAny_loadPart' hb1
    exact fin
  | false =>
    rw [if_neg (by decide)]
    wp_walk using wpAny_loadPart' hl1, wpAny_loadPart' hb1
    exact fin
end
section
variable {prog : Program} {w : World} {A : Around} {E : Value → Shared → Prop} {s : Shared}
def opB (neg : Bool) : CmpOp := if neg = true then .NotEq else .Eq
theorem rc_listB (neg : Bool) {l b : Addr} {N k : Nat} {Q : Value → Shared → Prop} (hk : k ≤ N) (hu : A.units < cLine) (I : Nat → Shared → Prop) (hl : ListB prog w A E l b N k I)
    (fin : ∀ i s, I i s → Q (.bool (neg != decide (k = N))) s) (h : I 0 s) : wpAny (model prog w) A (richCompare (opB neg) (.ref l) (.ref b)) Q E s := by
  obtain ⟨items, items2, n, n2, hl1, hb1, _, _, _⟩ := hl _ _ h
  have z := list_eqB (prog := prog) (w := w) (A := A) (R := wants (fun v s' => v ≠ .notImplemented ∧ Q v s') E) neg l b N k hk I hl (fun i s' q => ⟨(fun x => nomatch x), fin i s' q⟩) h
  cases neg with
  | true => exact wpAny_richCompare_same_room (op := .NotEq) ⟨_, hl1, rfl⟩ ⟨_, hb1, rfl⟩ F.slot_list_ne (call_here F.slot_list_ne ⟨_, hl1, rfl⟩ F.entry_list_ne (F.args_list_ne_2 _ _) z) hu
  | false => exact wpAny_richCompare_same_room (op := .Eq) ⟨_, hl1, rfl⟩ ⟨_, hb1, rfl⟩ F.slot_list_eq (call_here F.slot_list_eq ⟨_, hl1, rfl⟩ F.entry_list_eq (F.args_list_eq_2 _ _) z) hu
theorem rc_listL (neg : Bool) {l b : Addr} {items items2 : Array Value} {n n2 : Nat} {Q : Value → Shared → Prop} (hu : A.units < cLine) (hl1 : s.heap.get? l = some { cls := .type "list", data := .seq items n }) (hb1 : s.heap.get? b = some { cls := .type "list", data := .seq items2 n2 }) (hne : (items.size != items2.size) = true)
    (fin : Q (.bool neg) s) : wpAny (model prog w) A (richCompare (opB neg) (.ref l) (.ref b)) Q E s := by
  have z := list_eqL (prog := prog) (w := w) (A := A) (R := wants (fun v s' => v ≠ .notImplemented ∧ Q v s') E) neg l b hl1 hb1 hne ⟨(fun x => nomatch x), fin⟩
  cases neg with
  | true => exact wpAny_richCompare_same_room (op := .NotEq) ⟨_, hl1, rfl⟩ ⟨_, hb1, rfl⟩ F.slot_list_ne (call_here F.slot_list_ne ⟨_, hl1, rfl⟩ F.entry_list_ne (F.args_list_ne_2 _ _) z) hu
  | false => exact wpAny_richCompare_same_room (op := .Eq) ⟨_, hl1, rfl⟩ ⟨_, hb1, rfl⟩ F.slot_list_eq (call_here F.slot_list_eq ⟨_, hl1, rfl⟩ F.entry_list_eq (F.args_list_eq_2 _ _) z) hu
end
end
section
open GQ
/-- how two values come out, by the abstract heap -/
abbrev EqvB := V → V → Bool → Hp → Prop
def MonB (D : EqvB) : Prop := ∀ x y b H H', Ext H H' → D x y b H → D x y b H'
def SelfB (D : EqvB) : Prop := ∀ x b H, D x x b H → b = true
def DqB (X : Cx) (n : Nat) (D : EqvB) : Prop :=
  ∀ (A : Around) (pins : List (Addr × Obj)) (s : Shared) (σ : L2.St) (H : Hp) (x y : V) (u v : Value) (b : Bool), Sub X n A → L2.Inv X pins σ H s → RelV x u → RelV y v → D x y b H →
    wpAny (model X.prog X.w) A (eqBool u v) (fun r s' => r = b ∧ ∃ H', L2.Inv X pins σ H' s' ∧ Ext H H') X.xe s
def DcB (X : Cx) (n : Nat) (op : CmpOp) (f : Bool → Bool) (D : EqvB) : Prop :=
  ∀ (A : Around) (pins : List (Addr × Obj)) (s : Shared) (σ : L2.St) (H : Hp) (x y : V) (u v : Value) (b : Bool), Sub X n A → L2.Inv X pins σ H s → RelV x u → RelV y v → D x y b H →
    wpAny (model X.prog X.w) A (richCompare op u v) (fun r s' => r = .bool (f b) ∧ ∃ H', L2.Inv X pins σ H' s' ∧ Ext H H') X.xe s
variable {X : Cx} {n m : Nat} {D D' : EqvB}
theorem DqB.mono (h : DqB X n D) (hn : n ≤ m) : DqB X m D := fun A pins s σ H x y u v b sb => h A pins s σ H x y u v b (sb.mono hn)
theorem DqB.or (h : DqB X n D) (h' : DqB X n D') : DqB X n (fun x y b H => D x y b H ∨ D' x y b H) := fun A pins s σ H x y u v b sb I rx ry d => by
  rcases d with d | d
  · exact h A pins s σ H x y u v b sb I rx ry d
  · exact h' A pins s σ H x y u v b sb I rx ry d
theorem DcB.dqB (h : DcB X n .Eq id D) (hr : ∀ x y b H, D x y b H → ∃ a c, x = .ref a ∧ y = .ref c) (hs : SelfB D) : DqB X n D := by
  intro A pins s σ H x y u v b sb I rx ry d
  obtain ⟨a, c, rfl, rfl⟩ := hr _ _ _ _ d
  cases rx
  cases ry
  by_cases hab : a = c
  · subst hab
    rw [hs _ _ _ d]
    exact SeqAt.EqAt.same (A := A) (s := s) (.ref a) X.prog X.w X.xe _ ⟨rfl, H, I, Ext.rfl'⟩
  · refine GQ.eqBool_refG hab (wpAny_mono (h A pins s σ H (.ref a) (.ref c) _ _ b sb I rfl rfl d) (fun r s' q => ?_) fun _ _ x => x)
    obtain ⟨hr', q⟩ := q
    exact ⟨b, hr', rfl, q⟩
/-- lists: of unlike lengths, or alike up to k, and unlike there -/
def PrsB (D : EqvB) (xs ys : List V) (b : Bool) (H : Hp) : Prop := (xs.length ≠ ys.length ∧ b = false) ∨
  (xs.length = ys.length ∧ ∃ k, k ≤ xs.length ∧ b = decide (k = xs.length) ∧ (∀ (i : Nat) x y, xs[i]? = some x → ys[i]? = some y → i ≤ k → D x y (decide (i < k)) H))
theorem PrsB.mon (hD : MonB D) {xs ys : List V} {b : Bool} {H H' : Hp} (e : Ext H H') (p : PrsB D xs ys b H) : PrsB D xs ys b H' := by
  rcases p with p | ⟨p, k, hk, hb, q⟩
  · exact .inl p
  · exact .inr ⟨p, k, hk, hb, fun i x y h1 h2 h3 => hD _ _ _ _ _ e (q i x y h1 h2 h3)⟩
def DListB (D : EqvB) : EqvB := fun x y b H => ∃ a c xs ys, x = .ref a ∧ y = .ref c ∧ H a = some (.lst xs) ∧ H c = some (.lst ys) ∧ PrsB D xs ys b H
theorem monB_list (hD : MonB D) : MonB (DListB D) := fun x y b H H' e d => by
  obtain ⟨a, c, xs, ys, hx, hy, h1, h2, p⟩ := d
  exact ⟨a, c, xs, ys, hx, hy, e _ _ h1, e _ _ h2, p.mon hD e⟩
theorem selfB_list (hs : SelfB D) : SelfB (DListB D) := fun x b H d => by
  obtain ⟨a, c, xs, ys, rfl, hy, h1, h2, p⟩ := d
  cases hy
  rw [h1] at h2
  cases h2
  rcases p with ⟨p, _⟩ | ⟨_, k, hk, hb, q⟩
  · exact absurd rfl p
  · rw [hb]
    by_cases c : k = xs.length
    · exact decide_eq_true c
    · have hlt : k < xs.length := by omega
      have := hs _ _ _ (q k _ _ (List.getElem?_eq_getElem hlt) (List.getElem?_eq_getElem hlt) (Nat.le_refl _))
      rw [decide_eq_false (Nat.lt_irrefl k)] at this
      cases this
theorem dcB_list (neg : Bool) (hD : MonB D) (h : DqB X n D) : DcB X (n + 1) (opB neg) (fun b => neg != b) (DListB D) := by
  intro A pins s σ H x y u v b sb I rx ry d
  obtain ⟨a, c, xs, ys, rfl, rfl, ha, hb, p⟩ := d
  cases rx
  cases ry
  rcases p with ⟨p, rfl⟩ | ⟨p, k, hk, rfl, q⟩
  · obtain ⟨z, its, k1, r, e⟩ := I.hok a _ ha
    obtain ⟨z2, its2, k2, r2, e2⟩ := I.hok c _ hb
    refine rc_listL neg sb.room.units0 e e2 ?_ ⟨by simp, H, I, Ext.rfl'⟩
    rw [List.size_toArray, List.size_toArray, ← r.length, ← r2.length]
    simpa using p
  · refine rc_listB neg (N := xs.length) (k := k) hk sb.room.units0 (fun _ s' => LoopI X pins σ H s') (fun i s' z => ?_) (fun i s' z => ⟨rfl, z⟩) ⟨H, I, Ext.rfl'⟩
    obtain ⟨H1, I1, e1⟩ := id z
    obtain ⟨z1, its, k1, r, e⟩ := I1.hok a _ (e1 _ _ ha)
    obtain ⟨z2, its2, k2, r2, e2⟩ := I1.hok c _ (e1 _ _ hb)
    refine ⟨its.toArray, its2.toArray, k1, k2, e, e2, by rw [List.size_toArray, ← r.length], by rw [List.size_toArray, ← r2.length, ← p], fun h1 h2 h3 => ?_⟩
    have g1 : its[i]? = some its.toArray[i] := by
      have h1' : i < its.length := by simpa using h1
      rw [List.getElem?_eq_getElem h1'] <;> simp
    have g2 : its2[i]? = some its2.toArray[i] := by
      have h2' : i < its2.length := by simpa using h2
      rw [List.getElem?_eq_getElem h2'] <;> simp
    have l1 : i < xs.length := by rw [r.length]; simpa using h1
    have l2 : i < ys.length := by rw [r2.length]; simpa using h2
    obtain ⟨u, hu, ru⟩ := r.get (List.getElem?_eq_getElem l1)
    obtain ⟨v, hv, rv⟩ := r2.get (List.getElem?_eq_getElem l2)
    rw [g1] at hu
    rw [g2] at hv
    rw [Option.some.inj hu, Option.some.inj hv]
    refine wpAny_mono (h A.in1 pins s' σ H1 _ _ u v _ sb.in1 I1 ru rv (hD _ _ _ _ _ e1 (q i _ _ (List.getElem?_eq_getElem l1) (List.getElem?_eq_getElem l2) h3))) (fun r s2 q => ?_) fun _ _ x => x
    obtain ⟨hr, H2, I2, e2⟩ := q
    exact ⟨hr, H2, I2, e1.trans e2⟩
theorem dqB_list (hD : MonB D) (hs : SelfB D) (h : DqB X n D) : DqB X (n + 1) (DListB D) := by
  have z := dcB_list false hD h
  refine DcB.dqB (D := DListB D) ?_ (fun _ _ _ _ d => let ⟨a, b, _, _, hx, hy, _⟩ := d; ⟨a, b, hx, hy⟩) (selfB_list hs)
  intro A pins s σ H x y u v b sb I rx ry d
  refine wpAny_mono (z A pins s σ H x y u v b sb I rx ry d) (fun r s' q => ?_) fun _ _ x => x
  obtain ⟨e, q⟩ := q
  refine ⟨e.trans ?_, q⟩
  cases b <;> rfl
/-- instances of the class at C with the text's own ==: what R says of the two -/
def DInsB (C : Addr) (R : Addr → Addr → Bool → Hp → Prop) : EqvB := fun x y b H => ∃ a c dx dy fs gs, x = .ref a ∧ y = .ref c ∧ H a = some (.ins C dx fs) ∧ H c = some (.ins C dy gs) ∧ R a c b H
theorem monB_ins {C : Addr} {R : Addr → Addr → Bool → Hp → Prop} (hR : ∀ a c b H H', Ext H H' → R a c b H → R a c b H') : MonB (DInsB C R) := fun x y b H H' e d => by
  obtain ⟨a, c, dx, dy, fs, gs, hx, hy, h1, h2, r⟩ := d
  exact ⟨a, c, dx, dy, fs, gs, hx, hy, e _ _ h1, e _ _ h2, hR a c b H H' e r⟩
/-- what the own == promises: sp tells, of two such, the truth b -/
theorem dcB_ins {CX : CXT} {C f : Addr} {fd : FuncData} {ps : List Str} {sp : Sp} {R : Addr → Addr → Bool → Hp → Prop} {E : XK} (F : FnOk X.prog X.w X.K X.mg X.base CX n f fd ps sp) (hsp : ∀ a c b H (Q : VK), R a c b H → (∀ H', Ext H H' → Q (.bl b) H') → sp [.ref a, .ref c] H Q E)
    (hs : PySem.W.findIn X.K (.ref C) "__eq__" = some (some (.ref f))) (hf : PySem.W.isFn X.K (.ref f) = true) (hb : L2.Binds X.K fd ps []) (hx : Passes CX X E) : DcB X n .Eq id (DInsB C R) := by
  intro A pins s σ H x y u v b sb I rx ry d
  obtain ⟨a, c, dx, dy, fs, gs, rfl, rfl, ha, hb', hr⟩ := d
  cases rx
  cases ry
  obtain ⟨mA, J, _⟩ := ins_get I.hok ha
  obtain ⟨mB, J', _⟩ := ins_get I.hok hb'
  obtain ⟨od, J, _⟩ := J.look
  obtain ⟨od', J', _⟩ := J'.look
  obtain ⟨m, hF⟩ := I.fr
  refine PySem.W.cmp_K (op := .Eq) (tb := .ref C) sb.room.units0 hF I.ok.mod.kin J J'.type (by simp [PySem.W.notFirst]) hs hf ?_
  have hsp2 : sp [.ref a, .ref c] H (fun v H' => v = .bl b ∧ Ext H H') E := hsp a c b H _ hr fun H' e => ⟨rfl, e⟩
  have e0 : Env0 X.prog X.w X.K X.mg X.base A X.stack s H := by
    have e := I.env0
    exact ⟨by rw [sb.fr]; exact e.frames, e.mod, e.bs, e.bsz, e.funs, e.frf, e.hok, e.bare⟩
  have hl := F.len _ _ _ _ hsp2
  have r2 : Vals [V.ref a, V.ref c] [Value.ref a, Value.ref c] := .cons rfl (.cons rfl .nil)
  refine wpAny_call (codeAny_mono (F.run A X.stack s H ⟨[.ref a, .ref c], []⟩ [.ref a, .ref c] [.ref a, .ref c] _ E sb.room e0 (by
    have := hb s [.ref a, .ref c] I.kIn (by simpa using hl)
    simpa using this) r2 hsp2) fun r s' hq => ?_)
  cases r with
  | error e => exact hx pins σ H s e s' I hq
  | ok fl =>
    cases fl with
    | ret w =>
      obtain ⟨z, H', I', rz, ez, ex⟩ := I.after hq
      subst ez
      cases rz
      exact ⟨rfl, H', I', ex⟩
    | next => exact False.elim hq
    | brk => exact False.elim hq
    | cont => exact False.elim hq
theorem dqB_ins {CX : CXT} {C f : Addr} {fd : FuncData} {ps : List Str} {sp : Sp} {R : Addr → Addr → Bool → Hp → Prop} {E : XK} (F : FnOk X.prog X.w X.K X.mg X.base CX n f fd ps sp) (hsp : ∀ a c b H (Q : VK), R a c b H → (∀ H', Ext H H' → Q (.bl b) H') → sp [.ref a, .ref c] H Q E)
    (hs : PySem.W.findIn X.K (.ref C) "__eq__" = some (some (.ref f))) (hf : PySem.W.isFn X.K (.ref f) = true) (hb : L2.Binds X.K fd ps []) (hx : Passes CX X E) (self : ∀ a b H, R a a b H → b = true) : DqB X n (DInsB C R) :=
  (dcB_ins F hsp hs hf hb hx).dqB (fun _ _ _ _ d => let ⟨a, b, _, _, _, _, hx, hy, _⟩ := d; ⟨a, b, hx, hy⟩) fun x b H d => by
    obtain ⟨a, c, _, _, _, _, rfl, hy, _, _, r⟩ := d
    cases hy
    exact self a b H r
/-- x == y, x != y as expressions -/
def rDqB (D : EqvB) (f : Bool → Bool) : R2 := fun x y H Q => ∃ b, D x y b H ∧ ∀ H', Ext H H' → Q (.bl (f b)) H'
theorem op_dqB (neg : Bool) (hD : MonB D) (h : DqB X n D) (hr : Room (n + 1) X.A) : OpR X (compareOp (opB neg)) (rDqB (DListB D) (fun b => neg != b)) := by
  intro pins s σ H x y v u Q I rx ry hq
  obtain ⟨b, d, q⟩ := hq
  have z := dcB_list neg hD h X.A pins s σ H x y v u b ⟨hr, rfl⟩ I rx ry d
  cases neg with
  | true =>
    show wpAny (model X.prog X.w) X.A (richCompare .NotEq v u) (EP X pins σ Q) X.xe s
    refine wpAny_mono z (fun r s' z => ?_) fun _ _ x => x
    obtain ⟨hr', H', I', e⟩ := z
    subst hr'
    exact ⟨.bl _, H', I', rfl, q H' e⟩
  | false =>
    show wpAny (model X.prog X.w) X.A (richCompare .Eq v u) (EP X pins σ Q) X.xe s
    refine wpAny_mono z (fun r s' z => ?_) fun _ _ x => x
    obtain ⟨hr', H', I', e⟩ := z
    subst hr'
    exact ⟨.bl _, H', I', rfl, q H' e⟩
end
/-! ### objects of an own class: their text, ==, !=, whatever stands at the right -/
section
variable {X : Cx} {CX : CXT} {C g : Addr} {n : Nat} {fd : FuncData} {ps : List Str} {sp : Sp} {E : XK}
/-- the callee runs, at whatever place below -/
theorem run_fnA {A : Around} {pins : List (Addr × Obj)} {σ : L2.St} {H : Hp} {s : Shared} {Q : VK} {us : List Value} {vs : List V} (F : FnOk X.prog X.w X.K X.mg X.base CX n g fd ps sp) (hr : Room n A) (e0 : A.frames = X.A.frames) (hb : L2.Binds X.K fd ps [])
    (hx : Passes CX X E) (I : L2.Inv X pins σ H s) (r : Vals vs us) (h : sp vs H Q E) : wpAny (model X.prog X.w) A (call (.ref g) us) (EP X pins σ Q) X.xe s := by
  have hl : (us ++ []).length = ps.length := by rw [List.append_nil, ← r.length]; exact F.len _ _ _ _ h
  have b := hb s us I.kIn hl
  rw [List.append_nil] at b
  have e := I.env0
  have e1 : Env0 X.prog X.w X.K X.mg X.base A X.stack s H := ⟨e0.trans e.frames, e.mod, e.bs, e.bsz, e.funs, e.frf, e.hok, e.bare⟩
  refine wpAny_call (codeAny_mono (F.run A X.stack s H ⟨us, []⟩ us vs Q E hr e1 b r h) fun r s' hq => ?_)
  cases r with
  | error e => exact hx pins σ H s e s' I hq
  | ok fl =>
    cases fl with
    | ret u => exact I.after hq
    | next => exact False.elim hq
    | brk => exact False.elim hq
    | cont => exact False.elim hq
theorem inst_of {pins : List (Addr × Obj)} {σ : L2.St} {H : Hp} {s : Shared} {a dx : Addr} {fs : List (Str × V)} (I : L2.Inv X pins σ H s) (h : H a = some (.ins C dx fs)) : ∃ od, PySem.W.InstAt s.heap a (instObj C dx) C (some od) := by
  obtain ⟨_, O1, _⟩ := ins_get I.hok h
  obtain ⟨od, J, _⟩ := O1.look
  exact ⟨od, J⟩
/-- one text comes back -/
def QStr (Q : VK) : VK := fun z H' => ∃ y : Str, z = .str y ∧ Q z H'
theorem strback {pins : List (Addr × Obj)} {σ : L2.St} {Q : VK} {v : Value} {s' : Shared} (h : EP X pins σ (QStr Q) v s') : StrBack (EP X pins σ Q) v s' := by
  obtain ⟨z, H', I', rz, y, rfl, q⟩ := h
  obtain ⟨t, rfl⟩ := (show ∃ t, v = Value.str y t from rz)
  exact ⟨.str y, H', I', ⟨t, rfl⟩, q⟩
def rOwn1 (C : Addr) (sp : Sp) (E : XK) (W : VK → VK) : List V → Hp → VK → Prop := fun xs H Q => ∃ a dx fs, xs = [V.ref a] ∧ H a = some (.ins C dx fs) ∧ sp [.ref a] H (W Q) E
/-- str(o), by o's own __str__ -/
theorem call_strOwn (hs : PySem.W.findIn X.K (.ref C) "__str__" = some (some (.ref g))) (hf : PySem.W.isFn X.K (.ref g) = true) (F : FnOk X.prog X.w X.K X.mg X.base CX n g fd ps sp) (hb : L2.Binds X.K fd ps [])
    (hr : Room (n + 2) X.A) (hx : Passes CX X E) : CallR X (.type "str") (rOwn1 C sp E QStr) := by
  intro pins s σ H vs us Q I r h
  obtain ⟨a, dx, fs, rfl, ha, q⟩ := h
  obtain ⟨u, rfl, ru⟩ := Vals.one r
  cases (show u = Value.ref a from ru)
  obtain ⟨od, J⟩ := inst_of I ha
  have hr2 : Room n X.A.in1.in1 := hr.in1.in1
  refine PySem.W.kso_call hr2.units0 I.kIn J hs hf ?_
  exact wpAny_mono (run_fnA (A := X.A.in1.in1) (us := [.ref a]) (vs := [.ref a]) F hr2 rfl hb hx I (.cons rfl .nil) q) (fun v s' z => strback z) fun _ _ x => x
/-- repr(o), by o's own __repr__ -/
theorem call_reprOwn (hs : PySem.W.findIn X.K (.ref C) "__repr__" = some (some (.ref g))) (hf : PySem.W.isFn X.K (.ref g) = true) (F : FnOk X.prog X.w X.K X.mg X.base CX n g fd ps sp) (hb : L2.Binds X.K fd ps [])
    (hr : Room (n + 1) X.A) (hx : Passes CX X E) : CallR X (.builtin "repr") (rOwn1 C sp E QStr) := by
  intro pins s σ H vs us Q I r h
  obtain ⟨a, dx, fs, rfl, ha, q⟩ := h
  obtain ⟨u, rfl, ru⟩ := Vals.one r
  cases (show u = Value.ref a from ru)
  obtain ⟨od, J⟩ := inst_of I ha
  have hr2 : Room n X.A.in1 := hr.in1
  obtain ⟨m, hF⟩ := I.fr
  refine PySem.W.repr_K hr2.units0 hF I.ok.mod.kin J hs hf ?_
  exact wpAny_mono (run_fnA (A := X.A.in1) (us := [.ref a]) (vs := [.ref a]) F hr2 rfl hb hx I (.cons rfl .nil) q) (fun v s' z => strback z) fun _ _ x => x
/-- o == y, by o's own __eq__, whatever y is -/
def rOwnY (K : PySem.W.Frag) (C : Addr) (sp : Sp) (E : XK) (W : VK → VK) : R2 := fun x y H Q => ∃ a dx fs t, x = .ref a ∧ H a = some (.ins C dx fs) ∧ TyX K H y t ∧ PySem.W.notFirst K C t = true ∧ sp [x, y] H (W Q) E
theorem op_eqY (hs : PySem.W.findIn X.K (.ref C) "__eq__" = some (some (.ref g))) (hf : PySem.W.isFn X.K (.ref g) = true) (F : FnOk X.prog X.w X.K X.mg X.base CX n g fd ps sp) (hb : L2.Binds X.K fd ps [])
    (hr : Room n X.A) (hx : Passes CX X E) : OpR X (compareOp .Eq) (rOwnY X.K C sp E id) := by
  intro pins s σ H x y v u Q I rx ry h
  obtain ⟨a, dx, fs, t, rfl, ha, ty, hn, q⟩ := h
  cases (show v = Value.ref a from rx)
  obtain ⟨od, J⟩ := inst_of I ha
  obtain ⟨P, Z, p, _⟩ := kit_of I ry ty
  obtain ⟨m, hF⟩ := I.fr
  show wpAny _ _ (richCompare .Eq _ _) _ _ _
  refine PySem.W.cmp_K (op := .Eq) (tb := t) hr.units0 hF I.ok.mod.kin J (Z.ty _ _ I.kIn p) hn hs hf ?_
  refine wpAny_mono (run_fnA (A := X.A) (us := [.ref a, u]) (vs := [.ref a, y]) F hr rfl hb hx I (.cons rfl (.cons ry .nil)) q) (fun w s' z => ?_) fun _ _ x => x
  obtain ⟨z', H', I', rz, qz⟩ := z
  exact SlX.cmpback rz ⟨z', H', I', rz, qz⟩
end
section
variable {prog : Program} {w : World} {A : Around} {E : Value → Shared → Prop} {s : Shared} {K : PySem.W.Frag} {x C f : Addr} {ox : Obj} {od : Option Obj} {b tb : Value}
open PySem.Builtin in
/-- a special method that is a built-in's, where it may be left unbound -/
theorem ifBoundB {name : Str} {id : String} {args : List Value} {Q : Option Value → Shared → Prop} (X : K.In s.heap) (I : PySem.W.InstAt s.heap x ox C od) (hs : PySem.W.findIn K (.ref C) name = some (some (.builtin id)))
    (hb : ∀ self, bindSpecial (.builtin id) self = pure (.builtin id, [self])) (h : wpAny (model prog w) A (call (.builtin id) (.ref x :: args)) (fun v => Q (some v)) E s) : wpAny (model prog w) A (callSpecialIfBound? (.ref x) name args) Q E s := by
  simp only [callSpecialIfBound?, bindSpecialIfBound?]
  refine wpAny_holding (wpAny_bind (wpAny_bind (wpAny_bind (I.type.here ((looks_findIn X hs).here ?_)))))
  refine wpAny_bind (wpAny_askSetting (wpAny_ite ?_))
  have fin : wpAny (model prog w) A (call (.builtin id) ([.ref x] ++ args) >>= fun v => pure (some v)) Q E s := wpAny_bind (wpAny_mono h (fun v s' h' => wpAny_pure h') fun _ _ h' => h')
  split
  · exact wpAny_bind ((Looks.of_pure (hb _)).here (wpAny_pure (by exact fin)))
  · exact wpAny_tryCatch (wpAny_bind ((Looks.of_pure (hb _)).here (wpAny_pure (by exact fin))))
open PySem.Builtin in
theorem objNe {Q : Value → Shared → Prop} (hu : A.in1.units < cLine) (X : K.In s.heap) (I : PySem.W.InstAt s.heap x ox C od) (hm : PySem.W.mroIn K C (.type "object") = some true) (hs : PySem.W.findIn K (.ref C) "__eq__" = some (some (.ref f))) (hf : PySem.W.isFn K (.ref f) = true)
    (h : wpAny (model prog w) A.in1 (call (.ref f) [.ref x, b]) (fun v s' => ∃ k, v = .bool k ∧ Q (.bool (!k)) s') E s) : wpAny (model prog w) A (call (.builtin "object.__ne__") [.ref x, b]) Q E s := by
  refine wpAny_call (codeAny_call_builtin (by decide +kernel) PySem.F.cmpEntry_ne (check_slot (i := "object.__ne__") (owner := "object") (n := "__ne__") (by decide +kernel) (by decide +kernel) (I.type.andThen (looks_mroIn X hm)) (PySem.F.cmpArgs_ne _ _) ?_))
  unfold Builtin.«object.__ne__»
  refine wpAny_bind (m := slotArgs "__ne__" 1 _) (wpAny_pure ?_)
  refine wpAny_bind (m := cRoomFor _ _) (wpAny_cRoomFor hu ?_)
  refine wpAny_bind (m := callSpecialIfBound? (.ref x) (Str.ofString "__eq__") _) (ifBound_K X I hs hf (wpAny_mono h (fun r s' hq => ?_) fun _ _ y => y))
  obtain ⟨k, rfl, hq⟩ := hq
  exact wpAny_bind (wpAny_truthy_bool (wpAny_pure hq))
/-- o != y, where the class says == alone -/
theorem ne_K {Q : Value → Shared → Prop} (hu : A.in1.units < cLine) (hu0 : A.units < cLine) (X : K.In s.heap) (I : PySem.W.InstAt s.heap x ox C od) (hb : Looks (model prog w) s.heap (typeOf b) tb) (hn : PySem.W.notFirst K C tb = true)
    (hm : PySem.W.mroIn K C (.type "object") = some true) (hne : PySem.W.findIn K (.ref C) "__ne__" = some (some (.builtin "object.__ne__"))) (hs : PySem.W.findIn K (.ref C) "__eq__" = some (some (.ref f))) (hf : PySem.W.isFn K (.ref f) = true)
    (h : wpAny (model prog w) A.in1 (call (.ref f) [.ref x, b]) (fun v s' => ∃ k, v = .bool k ∧ Q (.bool (!k)) s') E s) : wpAny (model prog w) A (richCompare .NotEq (.ref x) b) Q E s := by
  have one : wpAny (model prog w) A (tryCompare (.ref x) "__ne__" b) (fun r s' => ∃ v, r = some v ∧ Q v s') E s := by
    unfold tryCompare
    refine wpAny_bind (ifBoundB X I hne (by intro self; rfl) (objNe hu X I hm hs hf (wpAny_mono h (fun v s' hv => ?_) fun _ _ e => e)))
    obtain ⟨k, rfl, q⟩ := hv
    exact ⟨k, rfl, wpAny_pure ⟨_, rfl, q⟩⟩
  unfold richCompare
  simp only [oneThing_ref]
  refine wpAny_holding (wpAny_bind (wpAny_cRoomFor hu0 ?_))
  refine wpAny_bind (I.type.here (wpAny_bind (hb.here ?_)))
  split
  · rename_i q
    have e : PySem.W.subIn K tb (.ref C) = some false := by
      rcases Bool.or_eq_true_iff.mp hn with e | e
      · rw [beq_iff_eq.mp e] at q; simp at q
      · exact beq_iff_eq.mp e
    refine wpAny_bind ((looks_subIn X e).here ?_)
    simp only [Bool.false_eq_true, if_false]
    refine wpAny_bind (wpAny_mono one (fun r s' z => ?_) fun _ _ e => e)
    obtain ⟨v, rfl, hq⟩ := z
    exact wpAny_pure hq
  · refine wpAny_bind (wpAny_pure ?_)
    simp only [Bool.false_eq_true, if_false]
    refine wpAny_bind (wpAny_mono one (fun r s' z => ?_) fun _ _ e => e)
    obtain ⟨v, rfl, hq⟩ := z
    exact wpAny_pure hq
end
section
variable {X : Cx} {CX : CXT} {C g : Addr} {n : Nat} {fd : FuncData} {ps : List Str} {sp : Sp} {E : XK}
def QNot (Q : VK) : VK := fun z H' => ∃ k : Bool, z = .bl k ∧ Q (.bl (!k)) H'
theorem op_neY (hs : PySem.W.findIn X.K (.ref C) "__eq__" = some (some (.ref g))) (hf : PySem.W.isFn X.K (.ref g) = true) (hm : PySem.W.mroIn X.K C (.type "object") = some true) (hne : PySem.W.findIn X.K (.ref C) "__ne__" = some (some (.builtin "object.__ne__")))
    (F : FnOk X.prog X.w X.K X.mg X.base CX n g fd ps sp) (hb : L2.Binds X.K fd ps []) (hr : Room (n + 1) X.A) (hx : Passes CX X E) : OpR X (compareOp .NotEq) (rOwnY X.K C sp E QNot) := by
  intro pins s σ H x y v u Q I rx ry h
  obtain ⟨a, dx, fs, t, rfl, ha, ty, hn, q⟩ := h
  cases (show v = Value.ref a from rx)
  obtain ⟨od, J⟩ := inst_of I ha
  obtain ⟨P, Z, p, _⟩ := kit_of I ry ty
  show wpAny _ _ (richCompare .NotEq _ _) _ _ _
  have hr2 : Room n X.A.in1 := hr.in1
  refine ne_K (tb := t) hr2.units0 hr.units0 I.kIn J (Z.ty _ _ I.kIn p) hn hm hne hs hf ?_
  refine wpAny_mono (run_fnA (A := X.A.in1) (us := [.ref a, u]) (vs := [.ref a, y]) F hr2 rfl hb hx I (.cons rfl (.cons ry .nil)) q) (fun w s' z => ?_) fun _ _ x => x
  obtain ⟨z', H', I', rz, k, rfl, qz⟩ := z
  cases (show w = Value.bool k from rz)
  exact ⟨k, rfl, .bl (!k), H', I', rfl, qz⟩
end
/-! ### == with the object at the right: the left one's kind declines, the object's own is asked -/
section
variable {prog : Program} {w : World} {A : Around} {E : Value → Shared → Prop} {s : Shared} {K : PySem.W.Frag} {x C f : Addr} {dx : Addr} {od : Option Obj}
open PySem.Builtin
theorem int_decl (b : Int) (u : Tok) : Meets (Builtin.«int.__eq__» ⟨[.int b u, .ref x], []⟩) (fun _ R s => s.heap.get? x = some (instObj C dx) ∧ R (.ok (.ret .notImplemented)) s) :=
  .of_wp fun prog w A R s h => by obtain ⟨hp, g, d, tk, os⟩ := s; obtain ⟨hl, h⟩ := h; wp_walk using AutoSeq1.wpAny_loadPart' hl, wpAny_load hl; exact ⟨_, rfl, h⟩
theorem str_decl (b : Str) (u : Tok) : Meets (Builtin.«str.__eq__» ⟨[.str b u, .ref x], []⟩) (fun _ R s => s.heap.get? x = some (instObj C dx) ∧ R (.ok (.ret .notImplemented)) s) :=
  .of_wp fun prog w A R s h => by obtain ⟨hp, g, d, tk, os⟩ := s; obtain ⟨hl, h⟩ := h; wp_walk using AutoSeq1.wpAny_loadPart' hl, wpAny_load hl; exact ⟨_, rfl, h⟩
theorem none_decl : Meets (Builtin.«NoneType.__eq__» ⟨[.none, .ref x], []⟩) (fun _ R s => s.heap.get? x = some (instObj C dx) ∧ R (.ok (.ret .notImplemented)) s) :=
  .of_wp fun prog w A R s h => by obtain ⟨hp, g, d, tk, os⟩ := s; obtain ⟨hl, h⟩ := h; wp_walk; exact ⟨_, rfl, h⟩
theorem list_decl {l : Addr} {Q : Fin → Shared → Prop} (hi : Looks (model prog w) s.heap (isInstance (.ref x) (.type "list")) false) (h : Q (.done (.ret .notImplemented)) s) :
    wpAny (model prog w) A (Builtin.«list.__eq__» ⟨[.ref l, .ref x], []⟩) Q E s := by
  refine wpAny_bind (m := slotArgs "__eq__" 1 _) (wpAny_pure ?_)
  refine wpAny_bind (hi.here ?_)
  exact wpAny_pure h
theorem tuple_decl {l : Addr} {Q : Fin → Shared → Prop} (hi : Looks (model prog w) s.heap (isInstance (.ref x) (.type "tuple")) false) (h : Q (.done (.ret .notImplemented)) s) :
    wpAny (model prog w) A (Builtin.«tuple.__eq__» ⟨[.ref l, .ref x], []⟩) Q E s := by
  refine wpAny_bind (m := slotArgs "__eq__" 1 _) (wpAny_pure ?_)
  refine wpAny_bind (hi.here ?_)
  exact wpAny_pure h
/-- the left one declines -/
def Declines (prog : Program) (w : World) (A : Around) (E : Value → Shared → Prop) (a b : Value) (s : Shared) : Prop :=
  ∀ Q : Option Value → Shared → Prop, Q none s → wpAny (model prog w) A (tryCompare a "__eq__" b) Q E s
theorem decl_of {T id : String} {B : Builtin} {a b : Value} (hT : s.TypeIs a T) (slot : Slot T (cmpInfo .Eq).2.1 id) (entry : entryFor table id = some B) (args : argsOk id ⟨[a, b], []⟩)
    (h : ∀ Q : Fin → Shared → Prop, Q (.done (.ret .notImplemented)) s → wpAny (model prog w) A.in1 (B ⟨[a, b], []⟩) Q E s) : Declines prog w A E a b s := fun Q q =>
  wpAny_tryCompare_declines hT slot (GQ.call_here slot hT entry args (h _ ⟨rfl, q⟩))
theorem decl_ofM {T id : String} {B : Builtin} {a b : Value} {P : Shared → Prop} (hT : s.TypeIs a T) (slot : Slot T (cmpInfo .Eq).2.1 id) (entry : entryFor table id = some B) (args : argsOk id ⟨[a, b], []⟩)
    (m : Meets (B ⟨[a, b], []⟩) (fun _ R s => P s ∧ R (.ok (.ret .notImplemented)) s)) (hP : P s) : Declines prog w A E a b s := fun Q q =>
  wpAny_tryCompare_declines hT slot (GQ.call_here slot hT entry args (m prog w A (wants (fun v s' => v = .notImplemented ∧ Q none s') E) s ⟨hP, rfl, q⟩))
theorem refl_K {a ta : Value} {T : String} {Q : Value → Shared → Prop} (hu : A.units < cLine) (X : K.In s.heap) (I : PySem.W.InstAt s.heap x (instObj C dx) C od) (hT : s.TypeIs a T) (hsub : PySem.W.subIn K (.ref C) (.type T) = some false)
    (d : Declines prog w A E a (.ref x) s) (hs : PySem.W.findIn K (.ref C) "__eq__" = some (some (.ref f))) (hf : PySem.W.isFn K (.ref f) = true)
    (h : wpAny (model prog w) A (call (.ref f) [.ref x, a]) (PySem.W.CmpBack Q) E s) : wpAny (model prog w) A (richCompare .Eq a (.ref x)) Q E s := by
  have one : wpAny (model prog w) A (tryCompare (.ref x) "__eq__" a) (fun r s' => ∃ v, r = some v ∧ Q v s') E s := by
    unfold tryCompare
    refine wpAny_bind (ifBound_K X I hs hf (wpAny_mono h (fun v s' hv => ?_) fun _ _ e => e))
    cases v <;> first | exact hv.elim | exact wpAny_pure ⟨_, rfl, hv⟩
  simp only [richCompare, cmpInfo, hT.oneThing_none]
  try with_reducible refine wpAny_holding ?_
  refine wpAny_bind (wpAny_cRoomFor hu ?_)
  refine wpAny_bind (wpAny_typeOf hT (wpAny_bind (I.type.here ?_)))
  rw [show (Value.type T != Value.ref C) = true from rfl]
  simp only [if_true]
  refine wpAny_bind ((looks_subIn X hsub).here ?_)
  simp only [Bool.false_eq_true, if_false, Bool.not_false, if_true]
  refine wpAny_bind (m := tryCompare a _ _) (d _ ?_)
  refine wpAny_bind (m := tryCompare (.ref x) _ _) (wpAny_mono one (fun r s' z => ?_) fun _ _ e => e)
  obtain ⟨v, rfl, hq⟩ := z
  exact wpAny_pure hq
end
section
variable {prog : Program} {w : World} {A : Around} {E : Value → Shared → Prop} {s : Shared} {x : Addr}
open PySem.Builtin
theorem dict_decl {l : Addr} {Q : Fin → Shared → Prop} (hi : Looks (model prog w) s.heap (isInstance (.ref x) (.type "dict")) false) (h : Q (.done (.ret .notImplemented)) s) :
    wpAny (model prog w) A (Builtin.«dict.__eq__» ⟨[.ref l, .ref x], []⟩) Q E s := by
  refine wpAny_bind (m := Dict.dictSlotArgs "__eq__" _) (wpAny_pure ?_)
  refine wpAny_bind (hi.here ?_)
  exact wpAny_bind (wpAny_rule (wpAny_pure h))
end
section
variable {X : Cx} {CX : CXT} {C g : Addr} {n : Nat} {fd : FuncData} {ps : List Str} {sp : Sp} {E : XK}
/-- what may stand at the left of such an object -/
inductive LeftOk (H : Hp) : V → Prop where
  | non : LeftOk H .non
  | int (i : Int) : LeftOk H (.int i)
  | str (z : Str) : LeftOk H (.str z)
  | lst {p : Addr} {xs : List V} (h : H p = some (.lst xs)) : LeftOk H (.ref p)
  | tup {p : Addr} {xs : List V} (h : H p = some (.tup xs)) : LeftOk H (.ref p)
  | dK {p : Addr} {kvs : List (Key × V)} (h : H p = some (.dK kvs)) : LeftOk H (.ref p)
/-- the class is under none of Python's -/
structure NotSub (K : PySem.W.Frag) (C : Addr) : Prop where
  non : PySem.W.subIn K (.ref C) (.type "NoneType") = some false
  int : PySem.W.subIn K (.ref C) (.type "int") = some false
  str : PySem.W.subIn K (.ref C) (.type "str") = some false
  lst : PySem.W.subIn K (.ref C) (.type "list") = some false
  tup : PySem.W.subIn K (.ref C) (.type "tuple") = some false
  dct : PySem.W.subIn K (.ref C) (.type "dict") = some false
def rOwnR (C : Addr) (sp : Sp) (E : XK) : R2 := fun x y H Q => ∃ a dx fs, y = .ref a ∧ H a = some (.ins C dx fs) ∧ LeftOk H x ∧ sp [y, x] H Q E
theorem op_eqR (hs : PySem.W.findIn X.K (.ref C) "__eq__" = some (some (.ref g))) (hf : PySem.W.isFn X.K (.ref g) = true) (N : NotSub X.K C) (G : FnOk X.prog X.w X.K X.mg X.base CX n g fd ps sp) (hb : L2.Binds X.K fd ps [])
    (hr : Room n X.A) (hx : Passes CX X E) : OpR X (compareOp .Eq) (rOwnR C sp E) := by
  intro pins s σ H x y v u Q I rx ry h
  obtain ⟨a, dx, fs, rfl, ha, lo, q⟩ := h
  cases (show u = Value.ref a from ry)
  obtain ⟨od, J⟩ := inst_of I ha
  have hx0 : s.heap.get? a = some (instObj C dx) := J.at_
  show wpAny _ _ (richCompare .Eq _ _) _ _ _
  have fin : wpAny (model X.prog X.w) X.A (call (.ref g) [.ref a, v]) (PySem.W.CmpBack (EP X pins σ Q)) X.xe s :=
    wpAny_mono (run_fnA (A := X.A) (us := [.ref a, v]) (vs := [.ref a, x]) G hr rfl hb hx I (.cons rfl (.cons rx .nil)) q) (fun w s' z => by obtain ⟨z', H', I', rz, qz⟩ := z; exact SlX.cmpback rz ⟨z', H', I', rz, qz⟩) fun _ _ x => x
  have isI : ∀ T : String, PySem.W.subIn X.K (.ref C) (.type T) = some false → Looks (model X.prog X.w) s.heap (isInstance (.ref a) (.type T)) false := fun T e => J.type.andThen (looks_subIn I.kIn e)
  cases lo with
  | non =>
    cases (show v = Value.none from rx)
    exact refl_K (T := "NoneType") (ta := .none) hr.units0 I.kIn J rfl N.non (decl_ofM rfl F.slot_NoneType_eq F.entry_NoneType_eq (F.args_NoneType_eq_2 _ _) none_decl hx0) hs hf fin
  | int i =>
    obtain ⟨t, rfl⟩ := (show ∃ t, v = Value.int i t from rx)
    exact refl_K (T := "int") (ta := .none) hr.units0 I.kIn J (typeIs_int _ _ _) N.int (decl_ofM (typeIs_int _ _ _) F.slot_int_eq F.entry_int_eq (F.args_int_eq_2 _ _) (int_decl _ _) hx0) hs hf fin
  | str z =>
    obtain ⟨t, rfl⟩ := (show ∃ t, v = Value.str z t from rx)
    exact refl_K (T := "str") (ta := .none) hr.units0 I.kIn J (typeIs_str _ _ _) N.str (decl_ofM (typeIs_str _ _ _) F.slot_str_eq F.entry_str_eq (F.args_str_eq_2 _ _) (str_decl _ _) hx0) hs hf fin
  | @lst p xs h =>
    cases (show v = Value.ref p from rx)
    obtain ⟨_, its, k, _, hp⟩ := (show ObjOk X.prog X.w H s.heap p (.lst xs) from I.hok p _ h)
    have hT : s.TypeIs (.ref p) "list" := ⟨_, hp, rfl⟩
    exact refl_K (T := "list") (ta := .none) hr.units0 I.kIn J hT N.lst (decl_of hT F.slot_list_eq F.entry_list_eq (F.args_list_eq_2 _ _) fun Q' q' => list_decl (isI _ N.lst) q') hs hf fin
  | @tup p xs h =>
    cases (show v = Value.ref p from rx)
    obtain ⟨_, its, _, o, h1, h2, _⟩ := (show ObjOk X.prog X.w H s.heap p (.tup xs) from I.hok p _ h)
    have hT : s.TypeIs (.ref p) "tuple" := ⟨_, h1, h2⟩
    exact refl_K (T := "tuple") (ta := .none) hr.units0 I.kIn J hT N.tup (decl_of hT F.slot_tuple_eq F.entry_tuple_eq (F.args_tuple_eq_2 _ _) fun Q' q' => tuple_decl (isI _ N.tup) q') hs hf fin
  | @dK p kvs h =>
    cases (show v = Value.ref p from rx)
    obtain ⟨_, _, vs, _, o, es, ep, h1, h2, _⟩ := (show ObjOk X.prog X.w H s.heap p (.dK kvs) from I.hok p _ h)
    have hT : s.TypeIs (.ref p) "dict" := ⟨_, h1, h2.1⟩
    exact refl_K (T := "dict") (ta := .none) hr.units0 I.kIn J hT N.dct (decl_of hT F.slot_dict_eq F.entry_dict_eq (F.args_dict_eq_2 _ _) fun Q' q' => dict_decl (isI _ N.dct) q') hs hf fin
end
/-! ### in, count, index over a list, each == by the object's own -/
section
open SeqAt AutoSeq1 MeetsSeq MeetsSeq2 MeetsSeq3 SeqRoads2
open PySem.Builtin
variable {prog : Program} {w : World} {A : Around} {R : Result → Shared → Prop}
/-- at each turn the list is read anew, the turn's == gives bs i -/
def LoopB (prog : Program) (w : World) (A : Around) (E : Value → Shared → Prop) (l : Addr) (x : Value) (N : Nat) (bs : Nat → Bool) (I : Nat → Shared → Prop) : Prop :=
  ∀ i s, I i s → ∃ (items : Array Value) (n : Nat), s.heap.get? l = some { cls := .type "list", data := .seq items n } ∧ items.size = N ∧
    ∀ (h1 : i < items.size), wpAny (model prog w) A.in1 (eqBool items[i] x) (fun r s' => r = bs i ∧ I (i + 1) s') E s
def cntB (bs : Nat → Bool) : Nat → Nat → Int
  | 0, _ => 0
  | k + 1, i => (if bs i then 1 else 0) + cntB bs k (i + 1)
theorem count_loopG (l : Addr) (x : Value) (N : Nat) (bs : Nat → Bool) (I : Nat → Shared → Prop) (hl : LoopB prog w A (fun e s' => R (.error e) s') l x N bs I) (k : Nat) :
    ∀ (i : Nat) (found : Int), N - i = k → i ≤ N → ∀ s, I i s → (∀ s, I N s → R (.ok (.ret (.int (found + cntB bs k i) s.toks))) { s with toks := s.toks + 1 }) →
      wpAny (model prog w) A.in1 (Builtin.«list.count.loop» ⟨[.ref l, x, rawInt i, rawInt found], []⟩) (GQ.FinOf prog w A R) (fun e s' => R (.error e) s') s := by
  induction k with
  | zero =>
    intro i found hk hi s h fin
    obtain ⟨items, n, hl1, hs1, _⟩ := hl _ _ h
    have hi' : i = N := by omega
    have hR := fin s (hi' ▸ h)
    obtain ⟨hp, g, d, tk, os⟩ := s
    wp_walk using wpAny_loadPart' hl1
    have hi1 : items[((i : Nat) : Int).toNat]? = none := by simp; omega
    rw [hi1]
    wp_walk
    have e0 : found + cntB bs 0 i = found := by show found + 0 = found; omega
    rw [e0] at hR
    exact hR
  | succ k ih =>
    intro i found hk hi s h fin
    obtain ⟨items, n, hl1, hs1, turn⟩ := hl _ _ h
    have hlt : i < items.size := by omega
    have ht := turn hlt
    obtain ⟨hp, g, d, tk, os⟩ := s
    wp_walk using wpAny_loadPart' hl1
    have hi1 : items[((i : Nat) : Int).toNat]? = some items[i] := by simp [hlt]
    have hc : ((i : Int) + 1) = ((i + 1 : Nat) : Int) := by omega
    rw [hi1]
    refine wpAny_bind (wpAny_mono ht (fun r s2 h2 => ?_) fun _ _ x => x)
    obtain ⟨hr, h2⟩ := h2
    subst hr
    have e1 : (if bs i = true then found + 1 else found) + cntB bs k (i + 1) = found + cntB bs (k + 1) i := by
      show _ = found + ((if bs i then 1 else 0) + cntB bs k (i + 1))
      cases bs i <;> simp <;> omega
    have hrec := ih (i + 1) (if bs i = true then found + 1 else found) (by omega) (by omega) s2 h2 (fun s q => by rw [e1]; exact fin s q)
    obtain ⟨hp2, g2, d2, tk2, os2⟩ := s2
    wp_walk
    rw [hc]
    refine ⟨plainId_quiet plain_count_loop _, codeAny_builtin entry_count_loop (by
      rw [Around.under_plainId plain_count_loop _]

      exact hrec)⟩
end
section
open SeqAt AutoSeq1 MeetsSeq MeetsSeq2 MeetsSeq3 SeqRoads2
open PySem.Builtin
variable {prog : Program} {w : World} {A : Around} {R : Result → Shared → Prop}
theorem list_countG (l : Addr) (x : Value) (N : Nat) (bs : Nat → Bool) (I : Nat → Shared → Prop) (hl : LoopB prog w A (fun e s' => R (.error e) s') l x N bs I) {s : Shared} (h : I 0 s)
    (fin : ∀ s, I N s → R (.ok (.ret (.int (cntB bs N 0) s.toks))) { s with toks := s.toks + 1 }) :
    wpAny (model prog w) A.in1 (Builtin.«list.count» ⟨[.ref l, x], []⟩) (GQ.FinOf prog w A R) (fun e s' => R (.error e) s') s := by
  obtain ⟨items, n, hl1, hs1, _⟩ := hl _ _ h
  have hrec := count_loopG (A := A) (R := R) l x N bs I hl N 0 0 rfl (Nat.zero_le _) s h (fun s q => by rw [Int.zero_add]; exact fin s q)
  obtain ⟨hp, g, d, tk, os⟩ := s
  wp_walk using wpAny_loadPart' hl1
  exact ⟨plainId_quiet plain_count_loop _, codeAny_builtin entry_count_loop (by
    rw [Around.under_plainId plain_count_loop _]
    exact hrec)⟩
theorem index_loopG (l : Addr) (x : Value) (N : Nat) (bs : Nat → Bool) (I : Nat → Shared → Prop) (hl : LoopB prog w A (fun e s' => R (.error e) s') l x N bs I) (upto : Int) (j : Nat) (hj : j < N) (hupto : (j : Int) < upto) (hit : bs j = true)
    (fin : ∀ s, I (j + 1) s → R (.ok (.ret (.int j s.toks))) { s with toks := s.toks + 1 }) (k : Nat) :
    ∀ i : Nat, j - i = k → i ≤ j → (∀ m, i ≤ m → m < j → bs m = false) → ∀ s, I i s →
      wpAny (model prog w) A.in1 (Builtin.«list.index.loop» ⟨[.ref l, x, rawInt i, rawInt upto], []⟩) (GQ.FinOf prog w A R) (fun e s' => R (.error e) s') s := by
  induction k with
  | zero =>
    intro i hk hij hno s h
    have hij' : i = j := by omega
    subst hij'
    obtain ⟨items, n, hl1, hs1, turn⟩ := hl _ _ h
    have hlt : i < items.size := by omega
    have ht := turn hlt
    obtain ⟨hp, g, d, tk, os⟩ := s
    wp_walk using wpAny_loadPart' hl1
    have hi : (if (i : Int) < upto then items[((i : Nat) : Int).toNat]? else none) = some items[i] := by simp [hupto, hlt]
    rw [hi]
    refine wpAny_bind (wpAny_mono ht (fun r s2 h2 => ?_) fun _ _ x => x)
    obtain ⟨hr, h2⟩ := h2
    subst hr
    rw [hit]
    have hR := fin s2 h2
    obtain ⟨hp2, g2, d2, tk2, os2⟩ := s2
    wp_walk
    exact hR
  | succ k ih =>
    intro i hk hij hno s h
    obtain ⟨items, n, hl1, hs1, turn⟩ := hl _ _ h
    have hlt : i < items.size := by omega
    have hst : (i : Int) < upto := by omega
    have ht := turn hlt
    obtain ⟨hp, g, d, tk, os⟩ := s
    wp_walk using wpAny_loadPart' hl1
    have hi : (if (i : Int) < upto then items[((i : Nat) : Int).toNat]? else none) = some items[i] := by simp [hst, hlt]
    have hc : ((i : Int) + 1) = ((i + 1 : Nat) : Int) := by omega
    rw [hi]
    refine wpAny_bind (wpAny_mono ht (fun r s2 h2 => ?_) fun _ _ x => x)
    obtain ⟨hr, h2⟩ := h2
    subst hr
    rw [hno i (Nat.le_refl _) (by omega)]
    have hrec := ih (i + 1) (by omega) (by omega) (fun m h1 h2 => hno m (by omega) h2) s2 h2
    obtain ⟨hp2, g2, d2, tk2, os2⟩ := s2
    wp_walk
    rw [hc]
    exact ⟨plainId_quiet plain_index_loop _, codeAny_builtin entry_index_loop (by
      rw [Around.under_plainId plain_index_loop _]
      exact hrec)⟩
theorem list_indexG (l : Addr) (x : Value) (N : Nat) (bs : Nat → Bool) (I : Nat → Shared → Prop) (hl : LoopB prog w A (fun e s' => R (.error e) s') l x N bs I) (j : Nat) (hj : j < N) (hsmall : (j : Int) < 2 ^ 63 - 1) (hit : bs j = true) (hno : ∀ m, m < j → bs m = false)
    (fin : ∀ s, I (j + 1) s → R (.ok (.ret (.int j s.toks))) { s with toks := s.toks + 1 }) {s : Shared} (h : I 0 s) :
    wpAny (model prog w) A.in1 (Builtin.«list.index» ⟨[.ref l, x], []⟩) (GQ.FinOf prog w A R) (fun e s' => R (.error e) s') s := by
  obtain ⟨items, n, hl1, hs1, _⟩ := hl _ _ h
  have hrec := index_loopG (A := A) (R := R) l x N bs I hl (2 ^ 63 - 1) j hj hsmall hit fin j 0 (by omega) (Nat.zero_le _) (fun m _ h2 => hno m h2) s h
  obtain ⟨hp, g, d, tk, os⟩ := s
  wp_walk using wpAny_loadPart' hl1
  have a1 : ((fun i : Int => if i < 0 then max 0 (i + (items.size : Int)) else i) ((none : Option Int).getD 0)) = ((0 : Nat) : Int) := by simp
  have a2 : ((fun i : Int => if i < 0 then max 0 (i + (items.size : Int)) else i) ((none : Option Int).getD (2 ^ 63 - 1))) = 2 ^ 63 - 1 := by simp
  rw [a1, a2]
  exact ⟨plainId_quiet plain_index_loop _, codeAny_builtin entry_index_loop (by
    rw [Around.under_plainId plain_index_loop _]
    exact hrec)⟩
theorem contains_loopG (l : Addr) (x : Value) (N : Nat) (bs : Nat → Bool) (I : Nat → Shared → Prop) (hl : LoopB prog w A (fun e s' => R (.error e) s') l x N bs I) (j : Nat) (hj : j < N) (hit : bs j = true)
    (fin : ∀ s, I (j + 1) s → R (.ok (.ret (.bool true))) s) (k : Nat) :
    ∀ i : Nat, j - i = k → i ≤ j → (∀ m, i ≤ m → m < j → bs m = false) → ∀ s, I i s →
      wpAny (model prog w) A.in1 (Builtin.«list.__contains__.loop» ⟨[.ref l, x, rawInt i], []⟩) (GQ.FinOf prog w A R) (fun e s' => R (.error e) s') s := by
  induction k with
  | zero =>
    intro i hk hij hno s h
    have hij' : i = j := by omega
    subst hij'
    obtain ⟨items, n, hl1, hs1, turn⟩ := hl _ _ h
    have hlt : i < items.size := by omega
    have ht := turn hlt
    obtain ⟨hp, g, d, tk, os⟩ := s
    wp_walk using wpAny_loadPart' hl1
    have hi : items[((i : Nat) : Int).toNat]? = some items[i] := by simp [hlt]
    rw [hi]
    refine wpAny_bind (wpAny_mono ht (fun r s2 h2 => ?_) fun _ _ x => x)
    obtain ⟨hr, h2⟩ := h2
    subst hr
    rw [hit]
    have hR := fin s2 h2
    obtain ⟨hp2, g2, d2, tk2, os2⟩ := s2
    wp_walk
    exact hR
  | succ k ih =>
    intro i hk hij hno s h
    obtain ⟨items, n, hl1, hs1, turn⟩ := hl _ _ h
    have hlt : i < items.size := by omega
    have ht := turn hlt
    obtain ⟨hp, g, d, tk, os⟩ := s
    wp_walk using wpAny_loadPart' hl1
    have hi : items[((i : Nat) : Int).toNat]? = some items[i] := by simp [hlt]
    have hc : ((i : Int) + 1) = ((i + 1 : Nat) : Int) := by omega
    rw [hi]
    refine wpAny_bind (wpAny_mono ht (fun r s2 h2 => ?_) fun _ _ x => x)
    obtain ⟨hr, h2⟩ := h2
    subst hr
    rw [hno i (Nat.le_refl _) (by omega)]
    have hrec := ih (i + 1) (by omega) (by omega) (fun m h1 h2 => hno m (by omega) h2) s2 h2
    obtain ⟨hp2, g2, d2, tk2, os2⟩ := s2
    wp_walk
    rw [hc]
    exact ⟨plainId_quiet plain_contains_loop _, codeAny_builtin entry_contains_loop (by
      rw [Around.under_plainId plain_contains_loop _]
      exact hrec)⟩
theorem list_containsG (l : Addr) (x : Value) (N : Nat) (bs : Nat → Bool) (I : Nat → Shared → Prop) (hl : LoopB prog w A (fun e s' => R (.error e) s') l x N bs I) (j : Nat) (hj : j < N) (hit : bs j = true) (hno : ∀ m, m < j → bs m = false)
    (fin : ∀ s, I (j + 1) s → R (.ok (.ret (.bool true))) s) {s : Shared} (h : I 0 s) :
    wpAny (model prog w) A.in1 (Builtin.«list.__contains__» ⟨[.ref l, x], []⟩) (GQ.FinOf prog w A R) (fun e s' => R (.error e) s') s := by
  obtain ⟨items, n, hl1, hs1, _⟩ := hl _ _ h
  have hrec := contains_loopG (A := A) (R := R) l x N bs I hl j hj hit fin j 0 (by omega) (Nat.zero_le _) (fun m _ h2 => hno m h2) s h
  obtain ⟨hp, g, d, tk, os⟩ := s
  wp_walk using wpAny_loadPart' hl1
  exact ⟨plainId_quiet plain_contains_loop _, codeAny_builtin entry_contains_loop (by
    rw [Around.under_plainId plain_contains_loop _]
    exact hrec)⟩
end
section
open SeqAt
variable {X : Cx} {CX : CXT} {C g : Addr} {n : Nat} {fd : FuncData} {ps : List Str} {sp : Sp} {E : XK}
/-- what an own == tells: (x, y) are known, the answer is b, only new objects come -/
def EqB (X : Cx) (n : Nat) (D : V → V → Hp → Bool → Prop) : Prop :=
  ∀ (A : Around) (pins : List (Addr × Obj)) (s : Shared) (σ : L2.St) (H : Hp) (x y : V) (u v : Value) (b : Bool), L2.Sub X n A → L2.Inv X pins σ H s → RelV x u → RelV y v → D x y H b →
    wpAny (model X.prog X.w) A (eqBool u v) (fun r s' => r = b ∧ ∃ H', L2.Inv X pins σ H' s' ∧ Same H H') X.xe s
/-- the promise of such an __eq__ -/
def spEqB (D : V → V → Hp → Bool → Prop) : Sp := fun vs H Q _ => ∃ (x y : V) (b : Bool), vs = [x, y] ∧ D x y H b ∧ ∀ H', Same H H' → Q (.bl b) H'
/-- both are objects of the class; of one and itself the answer is True -/
structure DOk (C : Addr) (D : V → V → Hp → Bool → Prop) : Prop where
  ins : ∀ x y H b, D x y H b → ∃ a dx fs a' dx' fs', x = .ref a ∧ H a = some (.ins C dx fs) ∧ y = .ref a' ∧ H a' = some (.ins C dx' fs')
  self : ∀ x H b, D x x H b → b = true
  mono : ∀ x y H H' b, Same H H' → D x y H b → D x y H' b
theorem eqB_ins {D : V → V → Hp → Bool → Prop} (O : DOk C D) (hs : PySem.W.findIn X.K (.ref C) "__eq__" = some (some (.ref g))) (hf : PySem.W.isFn X.K (.ref g) = true) (hn : PySem.W.notFirst X.K C (.ref C) = true)
    (F : FnOk X.prog X.w X.K X.mg X.base CX n g fd ps (spEqB D)) (hb : L2.Binds X.K fd ps []) (hx : Passes CX X E0) : EqB X n D := by
  intro A pins s σ H x y u v b sb I rx ry d
  obtain ⟨a, dx, fs, a', dx', fs', rfl, ha, rfl, ha'⟩ := O.ins x y H b d
  cases (show u = Value.ref a from rx)
  cases (show v = Value.ref a' from ry)
  by_cases e : a = a'
  · subst e
    have e2 := O.self _ _ _ d
    subst e2
    unfold eqBool
    refine wpAny_holding ?_
    simp only [beq_self_eq_true, if_true]
    refine wpAny_bind (wpAny_rule (wpAny_pure ?_))
    exact ⟨rfl, H, I, fun _ _ e => e⟩
  · obtain ⟨od, J⟩ := inst_of I ha
    obtain ⟨od', J'⟩ := inst_of I ha'
    obtain ⟨m, hF⟩ := I.fr
    refine GQ.eqBool_refG e (PySem.W.cmp_K (op := .Eq) (tb := .ref C) sb.room.units0 hF I.ok.mod.kin J J'.type hn hs hf ?_)
    refine wpAny_mono (run_fnA (A := A) (us := [.ref a, .ref a']) (vs := [.ref a, .ref a']) (Q := fun z H' => z = .bl b ∧ Same H H') F sb.room sb.fr hb hx I (.cons rfl (.cons rfl .nil)) ⟨_, _, b, rfl, d, fun H' k => ⟨rfl, k⟩⟩) (fun w s' z => ?_) fun _ _ x => x
    obtain ⟨z', H', I', rz, rfl, k⟩ := z
    cases (show w = Value.bool b from rz)
    exact ⟨b, rfl, rfl, H', I', k⟩
theorem loopB_of {D : V → V → Hp → Bool → Prop} (O : DOk C D) (e : EqB X n D) {A : Around} (sb : L2.Sub X (n + 1) A) {pins : List (Addr × Obj)} {σ : L2.St} {H : Hp} {l : Addr} {xs : List V} {x : V} {u : Value} {bs : Nat → Bool} (hl : H l = some (.lst xs)) (ru : RelV x u)
    (hd : ∀ i y, xs[i]? = some y → D y x H (bs i)) : LoopB X.prog X.w A X.xe l u xs.length bs (fun _ s' => ∃ H', L2.Inv X pins σ H' s' ∧ Same H H') := by
  rintro i s ⟨H', I, k⟩
  obtain ⟨_, its, m, r, hp⟩ := (show ObjOk X.prog X.w H' s.heap l (.lst xs) from I.hok l _ (k _ _ hl))
  refine ⟨its.toArray, m, hp, by simpa using r.length.symm, fun h1 => ?_⟩
  have h1' : i < its.length := by simpa using h1
  have hix : i < xs.length := by rw [r.length]; exact h1'
  obtain ⟨v, hv, rv⟩ := r.get (List.getElem?_eq_getElem hix)
  have ev : its.toArray[i] = v := by
    rw [List.getElem?_eq_getElem h1'] at hv
    simpa using hv
  rw [ev]
  refine wpAny_mono (e A.in1 pins s σ H' _ _ _ _ (bs i) sb.in1 I rv ru (O.mono _ _ _ _ _ k (hd i _ (List.getElem?_eq_getElem hix)))) (fun r s' z => ?_) fun _ _ x => x
  obtain ⟨hr, H2, I2, k2⟩ := z
  exact ⟨hr, H2, I2, k.trans k2⟩
theorem sub_here (hr : Room n X.A) : L2.Sub X n X.A := ⟨hr, rfl⟩
def rCntB (D : V → V → Hp → Bool → Prop) : V → List V → Hp → VK → Prop := fun x xs H Q => ∃ (l : Addr) (ys : List V) (y : V) (bs : Nat → Bool), x = .ref l ∧ xs = [y] ∧ H l = some (.lst ys) ∧ (∀ i z, ys[i]? = some z → D z y H (bs i)) ∧ ∀ H', Same H H' → Q (.int (cntB bs ys.length 0)) H'
theorem mt_countB {D : V → V → Hp → Bool → Prop} (O : DOk C D) (e : EqB X n D) (hr : Room (n + 1) X.A) : MtR X "list.count" (rCntB D) := by
  intro pins s σ H x xs v us Q I rx rxs h
  obtain ⟨l, ys, y, bs, rfl, rfl, hl, hd, q⟩ := h
  cases (show v = Value.ref l from rx)
  obtain ⟨u, rfl, ru⟩ := rxs.one
  obtain ⟨_, its, m, _, hp⟩ := (show ObjOk X.prog X.w H s.heap l (.lst ys) from I.hok l _ hl)
  refine GQ.call_here F.slot_list_count ⟨_, hp, rfl⟩ F.entry_list_count (F.args_list_count_2 _ _) ?_
  refine list_countG l u ys.length bs (fun _ s' => ∃ H', L2.Inv X pins σ H' s' ∧ Same H H') (loopB_of O e (sub_here hr) (pins := pins) (σ := σ) hl ru hd) ⟨H, I, fun _ _ e => e⟩ fun s' z => ?_
  obtain ⟨H', I', k⟩ := z
  exact ⟨.int _, H', I'.tok _, ⟨_, rfl⟩, q H' k⟩
def rIdxB (D : V → V → Hp → Bool → Prop) : V → List V → Hp → VK → Prop := fun x xs H Q => ∃ (l : Addr) (ys : List V) (y : V) (bs : Nat → Bool) (j : Nat), x = .ref l ∧ xs = [y] ∧ H l = some (.lst ys) ∧ (∀ i z, ys[i]? = some z → D z y H (bs i)) ∧ j < ys.length ∧ j < 1000000 ∧ bs j = true ∧ (∀ m, m < j → bs m = false) ∧ ∀ H', Same H H' → Q (.int (j : Nat)) H'
theorem mt_indexB {D : V → V → Hp → Bool → Prop} (O : DOk C D) (e : EqB X n D) (hr : Room (n + 1) X.A) : MtR X "list.index" (rIdxB D) := by
  intro pins s σ H x xs v us Q I rx rxs h
  obtain ⟨l, ys, y, bs, j, rfl, rfl, hl, hd, hj, hj2, hit, hno, q⟩ := h
  cases (show v = Value.ref l from rx)
  obtain ⟨u, rfl, ru⟩ := rxs.one
  obtain ⟨_, its, m, _, hp⟩ := (show ObjOk X.prog X.w H s.heap l (.lst ys) from I.hok l _ hl)
  refine GQ.call_here F.slot_list_index ⟨_, hp, rfl⟩ F.entry_list_index (F.args_list_index_2 _ _) ?_
  refine list_indexG l u ys.length bs (fun _ s' => ∃ H', L2.Inv X pins σ H' s' ∧ Same H H') (loopB_of O e (sub_here hr) (pins := pins) (σ := σ) hl ru hd) j hj (by omega) hit hno (fun s' z => ?_) ⟨H, I, fun _ _ e => e⟩
  obtain ⟨H', I', k⟩ := z
  exact ⟨.int _, H', I'.tok _, ⟨_, rfl⟩, q H' k⟩
def rInB (D : V → V → Hp → Bool → Prop) : R2 := fun y x H Q => ∃ (l : Addr) (ys : List V) (bs : Nat → Bool) (j : Nat), x = .ref l ∧ H l = some (.lst ys) ∧ (∀ i z, ys[i]? = some z → D z y H (bs i)) ∧ j < ys.length ∧ bs j = true ∧ (∀ m, m < j → bs m = false) ∧ ∀ H', Same H H' → Q (.bl true) H'
/-- y in xs, where it is -/
theorem op_inB {D : V → V → Hp → Bool → Prop} (O : DOk C D) (e : EqB X n D) (hr : Room (n + 1) X.A) : OpR X (compareOp .In) (rInB D) := by
  intro pins s σ H y x u v Q I ru rx h
  obtain ⟨l, ys, bs, j, rfl, hl, hd, hj, hit, hno, q⟩ := h
  cases (show v = Value.ref l from rx)
  obtain ⟨_, its, m, _, hp⟩ := (show ObjOk X.prog X.w H s.heap l (.lst ys) from I.hok l _ hl)
  show wpAny _ X.A (do return Value.bool (← PySem.contains (.ref l) u)) _ _ s
  have hT : s.TypeIs (.ref l) "list" := ⟨_, hp, rfl⟩
  refine wpAny_bind (wpAny_contains_slot hT F.slot_list_contains (wpAny_mono (GQ.call_here (Q := fun v s' => v = .bool true ∧ ∃ H', L2.Inv X pins σ H' s' ∧ Same H H') (E := X.xe) F.slot_list_contains hT F.entry_list_contains (F.args_list_contains_2 _ _)
    (list_containsG l u ys.length bs (fun _ s' => ∃ H', L2.Inv X pins σ H' s' ∧ Same H H') (loopB_of O e (sub_here hr) (pins := pins) (σ := σ) hl ru hd) j hj hit hno (fun s' z => ⟨rfl, z⟩) ⟨H, I, fun _ _ e => e⟩)) (fun v s' hv => ?_) fun _ _ e => e))
  obtain ⟨rfl, H', I', k⟩ := hv
  exact wpAny_truthy_bool (wpAny_pure ⟨.bl true, H', I', rfl, q H' k⟩)
end
/-! ### objects of an own class: len and truth by an own __len__; the length of a range -/
section
variable {prog : Program} {w : World} {A : Around} {E : Value → Shared → Prop} {s : Shared} {K : PySem.W.Frag} {x C f : Addr} {ox : Obj} {od : Option Obj}
theorem len_bodyK {Q : Value → Shared → Prop} (X : K.In s.heap) (I : PySem.W.InstAt s.heap x ox C od) (hs : PySem.W.findIn K (.ref C) "__len__" = some (some (.ref f))) (hf : PySem.W.isFn K (.ref f) = true)
    (h : wpAny (model prog w) A (call (.ref f) [.ref x]) (PySem.W.LenBack Q) E s) : wpAny (model prog w) A (Builtin.«len» ⟨[.ref x], []⟩) (fun fin s' => ∃ v, fin = .done (.ret v) ∧ Q v s') E s := by
  unfold Builtin.«len»
  refine wpAny_bind (m := oneArg "len" _) (wpAny_pure ?_)
  refine wpAny_bind (m := callSpecial? (.ref x) (Str.ofString "__len__")) (PySem.W.special_fn X I hs (beq_iff_eq.mp hf) (wpAny_mono h ?_ fun _ _ y => y))
  intro r s' hr
  match r, hr with
  | .int n u, ⟨⟨h0, h1⟩, hq⟩ =>
    refine wpAny_bind (wpAny_holding (wpAny_pure ?_))
    refine wpAny_bind (wpAny_letGo ?_)
    show wpAny _ _ (if n < 0 then _ else _) _ _ _
    rw [if_neg (by omega)]
    show wpAny _ _ (if n ≥ 2 ^ 63 then _ else _) _ _ _
    rw [if_neg (by omega)]
    exact wpAny_bind (wpAny_mkInt (wpAny_pure ⟨_, rfl, hq⟩))
theorem truthy_len {Q : Bool → Shared → Prop} (X : K.In s.heap) (I : PySem.W.InstAt s.heap x ox C od) (hb : PySem.W.findIn K (.ref C) "__bool__" = some none) (hs : PySem.W.findIn K (.ref C) "__len__" = some (some (.ref f))) (hf : PySem.W.isFn K (.ref f) = true)
    (h : wpAny (model prog w) A.in1 (call (.ref f) [.ref x]) (PySem.W.LenBack fun v s' => ∃ n t, v = .int n t ∧ Q (n != 0) s') E s) : wpAny (model prog w) A (truthy (.ref x)) Q E s := by
  unfold truthy
  refine wpAny_bind (m := callSpecial? (.ref x) (Str.ofString "__bool__")) (wpAny_bind (wpAny_bind (I.type.here ((PySem.W.looks_findIn X hb).here (wpAny_pure ?_)))))
  refine wpAny_bind (wpAny_bind (I.type.here ((PySem.W.looks_findIn X hs).here ?_)))
  show wpAny _ _ (runValue (.builtin "len" ⟨[.ref x], []⟩) >>= _) _ _ _
  refine wpAny_bind (wpAny_runValue (codeAny_builtin PySem.entry_len ?_))
  rw [Around.under_plainId PySem.plain_len _]
  refine wpAny_mono (len_bodyK X I hs hf h) ?_ (fun _ _ y => y)
  rintro fin s' ⟨v, rfl, n, t, rfl, q⟩
  exact wpAny_pure q
theorem bool_own {Q : Value → Shared → Prop} (h : wpAny (model prog w) A.in1.in1 (truthy (.ref x)) (fun b s' => Q (.bool b) s') E s) : wpAny (model prog w) A (call (.type "bool") [.ref x]) Q E s := by
  have g : MeetsIn prog w (Builtin.«bool.__new__» ⟨[.type "bool", .ref x], []⟩) (fun A R s => wpAny (model prog w) A.in1 (truthy (.ref x)) (fun b s' => R (.ok (.ret (.bool b))) s') (fun e s' => R (.error e) s') s) := by
    intro A R s hs
    obtain ⟨hp, g, d, tk, os⟩ := s
    have f1 := F.conv_sub_bool
    have hs2 : wpAny (model prog w) A.in1 (truthy (.ref x)) (fun b s' => wpAny (model prog w) A.in1 (ret (.bool b) : Sem Fin) (fun fin s' => match fin with | .done f => R (.ok f) s' | .again c' => c'.quiet = true ∧ codeAny (model prog w) A c' R s') (fun e s' => R (.error e) s') s') (fun e s' => R (.error e) s') ⟨hp, g, d, tk, os⟩ :=
      wpAny_mono hs (fun b s' z => wpAny_pure z) fun _ _ z => z
    repeat (any_goals (first | assumption | exact hs2 | wp_step))
  exact callType_newIn F.called_bool F.newNe_bool (F.typeCall_bool_1 _) (F.newCall_bool_1 _) (fun obj => F.args_object_init_2 obj _) F.entry_bool_new g (wpAny_mono h (fun b s' z => ⟨rfl, z⟩) fun _ _ z => z)
end
section
variable {X : Cx} {CX : CXT} {C g : Addr} {n : Nat} {fd : FuncData} {ps : List Str} {sp : Sp} {E : XK}
def QLen (Q : VK) : VK := fun z H' => ∃ m : Int, z = .int m ∧ 0 ≤ m ∧ m < 2 ^ 62 ∧ Q (.int m) H'
def QTru (Q : VK) : VK := fun z H' => ∃ m : Int, z = .int m ∧ 0 ≤ m ∧ m < 2 ^ 62 ∧ Q (.bl (m != 0)) H'
/-- len(o), by o's own __len__ -/
theorem call_lenOwn (hs : PySem.W.findIn X.K (.ref C) "__len__" = some (some (.ref g))) (hf : PySem.W.isFn X.K (.ref g) = true) (F : FnOk X.prog X.w X.K X.mg X.base CX n g fd ps sp) (hb : L2.Binds X.K fd ps [])
    (hr : Room (n + 1) X.A) (hx : Passes CX X E) : CallR X (.builtin "len") (rOwn1 C sp E QLen) := by
  intro pins s σ H vs us Q I r h
  obtain ⟨a, dx, fs, rfl, ha, q⟩ := h
  obtain ⟨u, rfl, ru⟩ := Vals.one r
  cases (show u = Value.ref a from ru)
  obtain ⟨od, J⟩ := inst_of I ha
  obtain ⟨m, hF⟩ := I.fr
  refine PySem.W.len_K hF I.ok.mod.kin J hs hf ?_
  refine wpAny_mono (run_fnA (A := X.A.in1) (us := [.ref a]) (vs := [.ref a]) F hr.in1 rfl hb hx I (.cons rfl .nil) q) ?_ (fun _ _ x => x)
  rintro v s' ⟨z, H', I', rz, m, rfl, m0, m1, q'⟩
  obtain ⟨t, rfl⟩ := (show ∃ t, v = Value.int m t from rz)
  exact ⟨⟨m0, Int.lt_trans m1 (by decide)⟩, .int m, H', I'.tok _, ⟨_, rfl⟩, q'⟩
theorem truthyOwn (hbl : PySem.W.findIn X.K (.ref C) "__bool__" = some none) (hs : PySem.W.findIn X.K (.ref C) "__len__" = some (some (.ref g))) (hf : PySem.W.isFn X.K (.ref g) = true) (F : FnOk X.prog X.w X.K X.mg X.base CX n g fd ps sp) (hb : L2.Binds X.K fd ps [])
    {A : Around} (hr : Room (n + 1) A) (hA : A.frames = X.A.frames) (hx : Passes CX X E) {pins : List (Addr × Obj)} {σ : L2.St} {H : Hp} {s : Shared} {a dx : Addr} {fs : List (Str × V)} {Q : VK} (I : L2.Inv X pins σ H s) (ha : H a = some (.ins C dx fs))
    (q : sp [.ref a] H (QTru Q) E) : wpAny (model X.prog X.w) A (truthy (.ref a)) (fun b s' => ∃ H', L2.Inv X pins σ H' s' ∧ Q (.bl b) H') X.xe s := by
  obtain ⟨od, J⟩ := inst_of I ha
  refine truthy_len I.kIn J hbl hs hf ?_
  refine wpAny_mono (run_fnA (A := A.in1) (us := [.ref a]) (vs := [.ref a]) F hr.in1 hA hb hx I (.cons rfl .nil) q) ?_ (fun _ _ x => x)
  rintro v s' ⟨z, H', I', rz, m, rfl, m0, m1, q'⟩
  obtain ⟨t, rfl⟩ := (show ∃ t, v = Value.int m t from rz)
  exact ⟨⟨m0, Int.lt_trans m1 (by decide)⟩, m, _, rfl, H', I'.tok _, q'⟩
/-- bool(o), by o's own __len__ -/
theorem call_boolOwn (hbl : PySem.W.findIn X.K (.ref C) "__bool__" = some none) (hs : PySem.W.findIn X.K (.ref C) "__len__" = some (some (.ref g))) (hf : PySem.W.isFn X.K (.ref g) = true) (F : FnOk X.prog X.w X.K X.mg X.base CX n g fd ps sp) (hb : L2.Binds X.K fd ps [])
    (hr : Room (n + 3) X.A) (hx : Passes CX X E) : CallR X (.type "bool") (rOwn1 C sp E QTru) := by
  intro pins s σ H vs us Q I r h
  obtain ⟨a, dx, fs, rfl, ha, q⟩ := h
  obtain ⟨u, rfl, ru⟩ := Vals.one r
  cases (show u = Value.ref a from ru)
  refine bool_own (wpAny_mono (truthyOwn hbl hs hf F hb (A := X.A.in1.in1) hr.in1.in1 rfl hx I ha q) ?_ fun _ _ x => x)
  rintro b s' ⟨H', I', q'⟩
  exact ⟨.bl b, H', I', rfl, q'⟩
/-- len(range(..)) -/
def tLenRg (te : L2.St → Hp → (Int → Int → Hp → Prop) → Prop) : TE := fun σ H Q => te σ H fun a b H1 => (b - a).toNat < 2 ^ 62 ∧ Q (.int ((b - a).toNat : Nat)) H1
theorem pe_lenRg {e : Expr} {te : L2.St → Hp → (Int → Int → Hp → Prop) → Prop} {p pos : Pos} (hg : Gl X "len") (hm : X.mg "len" = none) (he : PRg X e te) (na : starEach [e] X.env = (false, eval e X.env) :: starEach [] X.env := by rfl) : PE X (.Call (.Name "len" p) [e] [] pos) (tLenRg te) := by
  constructor
  intro pins s σ H Q I h
  refine wpAny_Call_Name_kw (ld_blt I hg hm PySem.boot_len ?_ (by decide) (by decide))
  refine PyProof.Rows.callWith_builtin1 (PyProof.Rows.args_cons (thn (he pins s σ H _ I h) ?_) na) na rfl
  rintro x s1 ⟨r, a, b, t, u, v, H1, rfl, hr, I1, hz, q⟩
  refine PyProof.Rows.args_nil (call_len_range (n := (b - a).toNat) hr ?_ ?_ ⟨.int ((b - a).toNat : Nat), H1, I1.tok _, ⟨_, rfl⟩, q⟩)
  · unfold Builtin.Range.rangeSize
    rw [if_pos (by decide)]
    split
    · rw [Int.ediv_one]
      omega
    · omega
  · omega
end
section
variable {X : Cx}
theorem eqBool_bl {prog : Program} {w : World} {A : Around} {E : Value → Shared → Prop} {s : Shared} {i j : Bool} {Q : Bool → Shared → Prop} (h : Q (i == j) s) : wpAny (model prog w) A (eqBool (.bool i) (.bool j)) Q E s := by
  have key : wpAny (model prog w) A (compareOp .Eq (.bool i) (.bool j)) (fun v s' => v = .bool (i == j) ∧ s' = s) E s := PyProof.Rows.eq_bool ⟨rfl, rfl⟩
  have key2 : wpAny (model prog w) A (richCompare .Eq (.bool i) (.bool j)) (fun v s' => v = .bool (i == j) ∧ s' = s) E s := key
  unfold eqBool
  refine wpAny_holding (wpAny_ite_split (fun e => ?_) (fun _ => ?_))
  · have e2 : i = j := by
      have := eq_of_beq e
      injection this
    subst e2
    rw [beq_self_eq_true] at h
    exact wpAny_bind (wpAny_rule (wpAny_pure h))
  · refine wpAny_bind (wpAny_mono key2 ?_ fun _ _ z => z)
    rintro v s' ⟨rfl, rfl⟩
    exact wpAny_truthy_bool h
/-- xs.count(b) of truths -/
def rCntBl : V → List V → Hp → VK → Prop := fun x xs H Q => ∃ (l : Addr) (rs : List Bool) (b : Bool), x = .ref l ∧ xs = [.bl b] ∧ H l = some (.lst (rs.map V.bl)) ∧ Q (.int (cntB (fun i => rs.getD i false == b) rs.length 0)) H
theorem mt_countBl : MtR X "list.count" rCntBl := by
  intro pins s σ H x xs v us Q I rx rxs h
  obtain ⟨l, rs, b, rfl, rfl, hl, q⟩ := h
  cases (show v = Value.ref l from rx)
  obtain ⟨u, rfl, ru⟩ := rxs.one
  cases (show u = Value.bool b from ru)
  obtain ⟨_, its, m, _, hp⟩ := (show ObjOk X.prog X.w H s.heap l (.lst (rs.map V.bl)) from I.hok l _ hl)
  refine GQ.call_here F.slot_list_count ⟨_, hp, rfl⟩ F.entry_list_count (F.args_list_count_2 _ _) ?_
  refine list_countG l (.bool b) rs.length (fun i => rs.getD i false == b) (fun _ s' => L2.Inv X pins σ H s') ?_ I (fun s' I' => ⟨.int _, H, I'.tok _, ⟨_, rfl⟩, q⟩)
  intro i s' I'
  obtain ⟨_, its, m, r, hp⟩ := (show ObjOk X.prog X.w H s'.heap l (.lst (rs.map V.bl)) from I'.hok l _ hl)
  have hlen : its.length = rs.length := by rw [← r.length, List.length_map]
  refine ⟨its.toArray, m, hp, by simpa using hlen, fun h1 => ?_⟩
  have h1' : i < its.length := by simpa using h1
  have hix : i < rs.length := by omega
  obtain ⟨v, hv, rv⟩ := r.get (show (rs.map V.bl)[i]? = some (.bl rs[i]) by rw [List.getElem?_map, List.getElem?_eq_getElem hix]; rfl)
  have ev : its.toArray[i] = v := by
    rw [List.getElem?_eq_getElem h1'] at hv
    simpa using hv
  cases (show v = Value.bool rs[i] from rv)
  rw [ev]
  refine eqBool_bl ⟨?_, I'⟩
  show (rs[i] == b) = (rs.getD i false == b)
  rw [List.getD_eq_getElem?_getD, List.getElem?_eq_getElem hix]
  rfl
end
/-! ### walks by enumerate; counts of texts; calls that may raise, where nothing is raised -/
theorem for_enum {K : PySem.W.Frag} {a : Addr} {xs : List V} {g : TG} {tb : TS} {D : L2.Ends} {σ : L2.St} {H : Hp} (Pv : Nat → L2.St → Hp → Prop) (h0 : Pv 0 σ H) (hl : ∀ i σ H, i ≤ xs.length → Pv i σ H → SqL K H a xs)
    (hs : ∀ i x T σ H, xs[i]? = some x → Pv i σ H → H T = none → g (.ref T) σ (upd H T (.tup [.int (i : Nat), x])) fun σ2 H2 => tb { D with nx := Pv (i + 1), ct := Pv (i + 1), bk := D.nx } σ2 H2) (hd : ∀ σ H, Pv xs.length σ H → D.nx σ H) :
    ∃ W : Nat → Nat → L2.St → Hp → Prop, (∃ m, W 0 m σ H) ∧ ∀ i m σ H, W i m σ H →
      ((Ite K a).stop i H ∧ D.nx σ H) ∨ ((Ite K a).go i H ∧ ∃ N : L2.St → Hp → Prop, (∀ σ' H', N σ' H' → ∃ m', m' < m ∧ W (i + 1) m' σ' H') ∧ ∀ x H', (Ite K a).yld i H x H' → g x σ H' fun σ2 H2 => tb { D with nx := N, ct := N, bk := D.nx } σ2 H2) := by
  refine ⟨fun i m σ H => m = xs.length - i ∧ i ≤ xs.length ∧ Pv i σ H, ⟨xs.length, by simp, Nat.zero_le _, h0⟩, ?_⟩
  rintro i m σ H ⟨rfl, hi, p⟩
  have q := hl i σ H hi p
  by_cases hlt : i < xs.length
  · refine .inr ⟨⟨xs, xs[i], q, by simp [hlt]⟩, Pv (i + 1), fun σ' H' p' => ⟨xs.length - (i + 1), by omega, rfl, hlt, p'⟩, ?_⟩
    rintro x H' ⟨T, y, rfl, hT, rfl, hy⟩
    exact hs i y T σ H (hy xs q) p hT
  · have e : i = xs.length := by omega
    subst e
    exact .inl ⟨⟨xs, q, Nat.le_refl _⟩, hd σ H p⟩
abbrev rLenQ (K : PySem.W.Frag) : List V → Hp → VK → Prop := fun xs H Q => ∃ p ys, xs = [V.ref p] ∧ (SqL K H p ys ∨ SqT K H p ys) ∧ Q (.int ((ys.length : Nat) : Int)) H
section
variable {X : Cx}
theorem eqBool_tx {prog : Program} {w : World} {A : Around} {E : Value → Shared → Prop} {s : Shared} {i j : Str} {t u : Tok} {Q : Bool → Shared → Prop} (h : Q (decide (i = j)) s) : wpAny (model prog w) A (eqBool (.str i t) (.str j u)) Q E s := wpAny_eqBool_str h
/-- xs.count(t) of texts -/
def rCntTx : V → List V → Hp → VK → Prop := fun x xs H Q => ∃ (l : Addr) (rs : List Str) (b : Str), x = .ref l ∧ xs = [.str b] ∧ H l = some (.lst (rs.map V.str)) ∧ Q (.int (cntB (fun i => decide (rs.getD i "" = b)) rs.length 0)) H
theorem mt_countTx : MtR X "list.count" rCntTx := by
  intro pins s σ H x xs v us Q I rx rxs h
  obtain ⟨l, rs, b, rfl, rfl, hl, q⟩ := h
  cases (show v = Value.ref l from rx)
  obtain ⟨u, rfl, ru⟩ := rxs.one
  obtain ⟨tb, rfl⟩ := (show ∃ t, u = Value.str b t from ru)
  obtain ⟨_, its, m, _, hp⟩ := (show ObjOk X.prog X.w H s.heap l (.lst (rs.map V.str)) from I.hok l _ hl)
  refine GQ.call_here F.slot_list_count ⟨_, hp, rfl⟩ F.entry_list_count (F.args_list_count_2 _ _) ?_
  refine list_countG l (.str b tb) rs.length (fun i => decide (rs.getD i "" = b)) (fun _ s' => L2.Inv X pins σ H s') ?_ I (fun s' I' => ⟨.int _, H, I'.tok _, ⟨_, rfl⟩, q⟩)
  intro i s' I'
  obtain ⟨_, its, m, r, hp⟩ := (show ObjOk X.prog X.w H s'.heap l (.lst (rs.map V.str)) from I'.hok l _ hl)
  have hlen : its.length = rs.length := by rw [← r.length, List.length_map]
  refine ⟨its.toArray, m, hp, by simpa using hlen, fun h1 => ?_⟩
  have h1' : i < its.length := by simpa using h1
  have hix : i < rs.length := by omega
  obtain ⟨v, hv, rv⟩ := r.get (show (rs.map V.str)[i]? = some (.str rs[i]) by rw [List.getElem?_map, List.getElem?_eq_getElem hix]; rfl)
  have ev : its.toArray[i] = v := by
    rw [List.getElem?_eq_getElem h1'] at hv
    simpa using hv
  obtain ⟨tv, e2⟩ := (show ∃ t, v = Value.str rs[i] t from rv)
  rw [ev, e2]
  refine eqBool_tx ⟨?_, I'⟩
  show decide (rs[i] = b) = decide (rs.getD i "" = b)
  rw [List.getD_eq_getElem?_getD, List.getElem?_eq_getElem hix]
  rfl
theorem passF {P : Program} {w : World} (hP : X.prog = P) (hw : X.w = w) : Passes (L2.CX P w) X E0 := fun pins σ H s e s' I h => passNo (σ := σ) hP hw pins H s e s' I h
end
theorem cntB_count {rs : List Str} {b : Str} : ∀ (k i : Nat), i + k ≤ rs.length → cntB (fun i => decide (rs.getD i "" = b)) k i = ((((rs.drop i).take k).count b : Nat) : Int)
  | 0, i, _ => by simp [cntB]
  | k + 1, i, h => by
    have hi : i < rs.length := by omega
    have ih := cntB_count (rs := rs) (b := b) k (i + 1) (by omega)
    rw [List.drop_eq_getElem_cons hi, List.take_succ_cons, List.count_cons]
    show (if decide (rs.getD i "" = b) = true then (1 : Int) else 0) + cntB _ k (i + 1) = _
    rw [ih]
    have e : rs.getD i "" = rs[i] := by rw [List.getD_eq_getElem?_getD, List.getElem?_eq_getElem hi]; rfl
    rw [e]
    by_cases c : rs[i] = b
    · simp [c]; omega
    · simp [c]
theorem cnt_all {rs : List Str} {b : Str} : cntB (fun i => decide (rs.getD i "" = b)) rs.length 0 = ((rs.count b : Nat) : Int) := by
  have := cntB_count (rs := rs) (b := b) rs.length 0 (by omega)
  rw [this, List.drop_zero, List.take_length]
theorem nodup_count {rs : List Str} : (∀ z ∈ rs, ((rs.count z : Nat) : Int) = 1) ↔ rs.Nodup := by
  rw [List.nodup_iff_count]
  constructor
  · intro h z
    by_cases c : z ∈ rs
    · have := h z c; omega
    · rw [List.count_eq_zero_of_not_mem c]; omega
  · intro h z hz
    have h1 := h z
    have h2 := List.count_pos_iff.mpr hz
    omega
/-- an exception that is made, not raised: a value, and it stays -/
theorem pe_ofMk {X : Cx} {e : Expr} {t : L2.St → Hp → XK → Prop} (h : PMk X e t) : PE X e (fun σ H Q => t σ H fun cls d H' => ∀ a, H' a = none → Q (.ref a) (upd H' a (keptX cls d a))) := by
  constructor
  intro pins s σ H Q I q
  refine wpAny_mono (h pins s σ H _ I q) ?_ (fun _ _ x => x)
  rintro u s1 ⟨a, oe, vs, sI, H', cls, d, rfl, J, k, ne, ha, hz, hd, _, na, os, ag, _, q2⟩
  have J2 := J.laidN (t' := s1.toks) k ne na (keptX_ok ha hz hd)
  exact ⟨.ref a, upd H' a (keptX cls d a), ⟨J2.ok, os.trans J.os, ag, J2.base, J2.loc, J2.cell, J2.free, J2.freeC, J2.pin, J2.hok, J2.len⟩, rfl, q2 a na⟩
def topS (i : Nat) : Stmt := PySem.Challenge.pw_boatbridge_k07_whole_stretches_part_the.main.body.getD i (.Pass ⟨0, 0, 0, 0⟩)
abbrev sShow : Stmt := topS 5
abbrev NShow : List Str := ["minute", "day", "clock", "hours", "minutes", "text"]
theorem scShow : FnScope NShow ["minute"] (defScope sShow) := ⟨rfl, rfl, rfl, by decide +kernel, rfl, by decide +kernel, by decide +kernel⟩
abbrev sMeet : Stmt := topS 8
abbrev NMeet : List Str := ["one", "other", "first", "behind"]
theorem scMeet : FnScope NMeet ["one", "other"] (defScope sMeet) := ⟨rfl, rfl, rfl, by decide +kernel, rfl, by decide +kernel, by decide +kernel⟩
abbrev sJoined : Stmt := topS 9
abbrev NJoined : List Str := ["some", "apart", "stretch", "full", "told"]
theorem scJoined : FnScope NJoined ["some", "apart"] (defScope sJoined) := ⟨rfl, rfl, rfl, by decide +kernel, rfl, by decide +kernel, by decide +kernel⟩
def xSt (l : List Stmt) (i : Nat) : Stmt := l.getD i (.Pass ⟨0, 0, 0, 0⟩)
def xEx (l : List Expr) (i : Nat) : Expr := l.getD i (.Name "" ⟨0, 0, 0, 0⟩)
def xBd : Stmt → List Stmt | .If _ b _ _ => b | .For _ _ b _ _ => b | .While _ b _ _ => b | .Try b _ _ _ _ => b | _ => []
def xEl : Stmt → List Stmt | .If _ _ o _ => o | _ => []
def xVl : Stmt → Expr | .Assign _ v _ => v | .Expr v _ => v | .Return (some v) _ => v | .For _ i _ _ _ => i | .If t _ _ _ => t | _ => .Name "" ⟨0, 0, 0, 0⟩
def xAr (i : Nat) : Expr → Expr | .Call _ a _ _ => xEx a i | .Compare l _ a _ => xEx (l :: a) i | .List a _ => xEx a i | .Tuple a _ _ => xEx a i | .BoolOp _ a _ => xEx a i | _ => .Name "" ⟨0, 0, 0, 0⟩
def xKw (i : Nat) : Expr → Expr | .Call _ _ k _ => ((k[i]?).map (·.value)).getD (.Name "" ⟨0, 0, 0, 0⟩) | _ => .Name "" ⟨0, 0, 0, 0⟩
def xSb : Expr → Expr | .Subscript v _ _ => v | .Attribute v _ _ => v | .ListComp e _ _ _ => e | .UnaryOp _ e _ => e | .Call f _ _ _ => f | .BinOp l _ _ _ => l | e => e
def xRt : Expr → Expr | .BinOp _ _ r _ => r | .ListComp _ (g :: _) _ _ => g.iter | e => e
def cmpSc : Expr → Scope | .ListComp _ _ c _ => c | _ => { kind := .function, names := [], isGenerator := false, isCoroutine := false }
def lamPa : Expr → Arguments | .Lambda a _ _ _ => a | _ => ⟨[], [], none, [], [], none, []⟩
def lamBo : Expr → Expr | .Lambda _ b _ _ => b | e => e
def lamSc : Expr → Scope | .Lambda _ _ c _ => c | _ => { kind := .function, names := [], isGenerator := false, isCoroutine := false }
abbrev lJoined_0 : Expr := xKw 0 (xVl (xSt (defBody sJoined) 2))
abbrev NlJoined_0 : List Str := ["row"]
theorem sclJoined_0 : FnScope NlJoined_0 ["row"] (lamSc lJoined_0) := ⟨rfl, rfl, rfl, by decide +kernel, rfl, by decide +kernel, by decide +kernel⟩
theorem blJoined_0 : ∀ (us : List Value) (pm cv ctv : Value), us.length = 1 → bindArgs (PySem.W.kla_fn "<lambda>" ("joined" ++ ".<locals>." ++ "<lambda>") (lamPa lJoined_0) (lamBo lJoined_0) (lamSc lJoined_0) [] pm cv ctv) ⟨us, []⟩ = pure ((["row"] : List Str).zip us) := fun us _ _ _ hl => match us, hl with | [_], _ => rfl
abbrev sGaps : Stmt := topS 10
abbrev NGaps : List Str := ["some", "within", "told", "first", "stretch", "behind"]
theorem scGaps : FnScope NGaps ["some", "within"] (defScope sGaps) := ⟨rfl, rfl, rfl, by decide +kernel, rfl, by decide +kernel, by decide +kernel⟩
abbrev sMinutesIn : Stmt := topS 11
abbrev NMinutesIn : List Str := ["some", "stretch"]
theorem scMinutesIn : FnScope NMinutesIn ["some"] (defScope sMinutesIn) := ⟨rfl, rfl, rfl, by decide +kernel, rfl, by decide +kernel, by decide +kernel⟩
abbrev sTape : Stmt := topS 13
abbrev NTape : List Str := ["_law_script"]
theorem scTape : FnScope NTape ["_law_script"] (defScope sTape) := ⟨rfl, rfl, rfl, by decide +kernel, rfl, by decide +kernel, by decide +kernel⟩
abbrev sDraw : Stmt := topS 14
abbrev NDraw : List Str := ["_law_tape_here", "_law_many", "_law_digit", "_law_turn", "_law_cell", "_law_primes", "_law_prime", "_law_mixed"]
theorem scDraw : FnScope NDraw ["_law_tape_here", "_law_many"] (defScope sDraw) := ⟨rfl, rfl, rfl, by decide +kernel, rfl, by decide +kernel, by decide +kernel⟩
abbrev sPick : Stmt := topS 15
abbrev NPick : List Str := ["_law_tape_here", "_law_some"]
theorem scPick : FnScope NPick ["_law_tape_here", "_law_some"] (defScope sPick) := ⟨rfl, rfl, rfl, by decide +kernel, rfl, by decide +kernel, by decide +kernel⟩
abbrev sMade : Stmt := topS 16
abbrev NMade : List Str := ["_law_tape_here", "_law_found", "_law_k", "_law_first"]
theorem scMade : FnScope NMade ["_law_tape_here"] (defScope sMade) := ⟨rfl, rfl, rfl, by decide +kernel, rfl, by decide +kernel, by decide +kernel⟩
abbrev sBeside : Stmt := topS 17
abbrev NBeside : List Str := ["_law_some", "_law_whole", "_law_here", "_law_one"]
theorem scBeside : FnScope NBeside ["_law_some", "_law_whole"] (defScope sBeside) := ⟨rfl, rfl, rfl, by decide +kernel, rfl, by decide +kernel, by decide +kernel⟩
abbrev sInside : Stmt := topS 18
abbrev NInside : List Str := ["_law_one", "_law_other"]
theorem scInside : FnScope NInside ["_law_one", "_law_other"] (defScope sInside) := ⟨rfl, rfl, rfl, by decide +kernel, rfl, by decide +kernel, by decide +kernel⟩
abbrev sLaw : Stmt := topS 19
abbrev NLaw : List Str := ["_law_script", "_law_tape_here", "_law_turn", "_law_some", "_law_first", "_law_whole", "_law_parts", "_law_one", "_law_cut", "_law_kept", "_law_free", "_law_rows", "_law_apart", "_law_wide", "_law_other"]
theorem scLaw : FnScope NLaw ["_law_script"] (defScope sLaw) := ⟨rfl, rfl, rfl, by decide +kernel, rfl, by decide +kernel, by decide +kernel⟩
abbrev lLaw_0 : Expr := xKw 0 (xVl (xSt (xBd (xSt (defBody sLaw) 1)) 8))
abbrev NlLaw_0 : List Str := ["_law_one"]
theorem sclLaw_0 : FnScope NlLaw_0 ["_law_one"] (lamSc lLaw_0) := ⟨rfl, rfl, rfl, by decide +kernel, rfl, by decide +kernel, by decide +kernel⟩
theorem blLaw_0 : ∀ (us : List Value) (pm cv ctv : Value), us.length = 1 → bindArgs (PySem.W.kla_fn "<lambda>" ("law" ++ ".<locals>." ++ "<lambda>") (lamPa lLaw_0) (lamBo lLaw_0) (lamSc lLaw_0) [] pm cv ctv) ⟨us, []⟩ = pure ((["_law_one"] : List Str).zip us) := fun us _ _ _ hl => match us, hl with | [_], _ => rfl
abbrev sSInit : Stmt := inClass (topS 7) 0
abbrev NSInit : List Str := ["self", "first", "behind"]
theorem scSInit : FnScope NSInit ["self", "first", "behind"] (defScope sSInit) := ⟨rfl, rfl, rfl, by decide +kernel, rfl, by decide +kernel, by decide +kernel⟩
abbrev sSEq : Stmt := inClass (topS 7) 1
abbrev NSEq : List Str := ["self", "other"]
theorem scSEq : FnScope NSEq ["self", "other"] (defScope sSEq) := ⟨rfl, rfl, rfl, by decide +kernel, rfl, by decide +kernel, by decide +kernel⟩
abbrev sSLen : Stmt := inClass (topS 7) 2
abbrev NSLen : List Str := ["self"]
theorem scSLen : FnScope NSLen ["self"] (defScope sSLen) := ⟨rfl, rfl, rfl, by decide +kernel, rfl, by decide +kernel, by decide +kernel⟩
abbrev sSStr : Stmt := inClass (topS 7) 3
abbrev NSStr : List Str := ["self"]
theorem scSStr : FnScope NSStr ["self"] (defScope sSStr) := ⟨rfl, rfl, rfl, by decide +kernel, rfl, by decide +kernel, by decide +kernel⟩
abbrev sSRepr : Stmt := inClass (topS 7) 4
abbrev NSRepr : List Str := ["self"]
theorem scSRepr : FnScope NSRepr ["self"] (defScope sSRepr) := ⟨rfl, rfl, rfl, by decide +kernel, rfl, by decide +kernel, by decide +kernel⟩
abbrev sNInit : Stmt := inClass (topS 1) 0
abbrev NNInit : List Str := ["self", "first", "behind"]
theorem scNInit : FnScope NNInit ["self", "first", "behind"] (defScope sNInit) := ⟨rfl, rfl, rfl, by decide +kernel, rfl, by decide +kernel, by decide +kernel⟩

/-- the tape at T: the cells' list, the draws done (at most n), the rest of a great cell -/
structure Tape (H : Hp) (T c : Addr) (n : Nat) : Prop where
  ex : ∃ (t r : Int) (ns : List Int), H T = some (.lst [.ref c, .int t, .int r]) ∧ H c = some (.lst (ns.map V.int)) ∧ c ≠ T ∧ 0 ≤ t ∧ t ≤ n ∧ ns.length ≤ 63
/-- all but the tape stands as it stood -/
def Keep (T : Addr) (H H' : Hp) : Prop := ∀ a o, a ≠ T → H a = some o → H' a = some o
theorem Keep.refl {T : Addr} {H : Hp} : Keep T H H := fun _ _ _ e => e
theorem Keep.trans {T : Addr} {H H1 H2 : Hp} (a : Keep T H H1) (b : Keep T H1 H2) : Keep T H H2 := fun x o n e => b x o n (a x o n e)
theorem Keep.updT {T : Addr} {H H1 : Hp} {o : HO} (a : Keep T H H1) : Keep T H (upd H1 T o) := fun x o n e => by
  rw [upd_ne n]; exact a x o n e
theorem Keep.new {T : Addr} {H H1 : Hp} {p : Addr} {o : HO} (a : Keep T H H1) (h : H1 p = none) : Keep T H (upd H1 p o) := fun x o n e => by
  have z := a x o n e
  rw [upd_ne (ne_of_none z h)]; exact z
theorem Tape.mono {H : Hp} {T c : Addr} {n m : Nat} (h : Tape H T c n) (l : n ≤ m) : Tape H T c m := by
  obtain ⟨t, r, ns, h1, h2, h3, h4, h5, h6⟩ := h.ex
  exact ⟨t, r, ns, h1, h2, h3, h4, by omega, h6⟩
theorem Tape.upd {H : Hp} {T c : Addr} {n : Nat} {p : Addr} {o : HO} (h : Tape H T c n) (n1 : p ≠ T) (n2 : p ≠ c) : Tape (upd H p o) T c n := by
  obtain ⟨t, r, ns, h1, h2, h3, h4, h5, h6⟩ := h.ex
  exact ⟨t, r, ns, by rw [upd_ne n1.symm]; exact h1, by rw [upd_ne n2.symm]; exact h2, h3, h4, h5, h6⟩
theorem Tape.new {H : Hp} {T c : Addr} {n : Nat} {p : Addr} {o : HO} (h : Tape H T c n) (hp : H p = none) : Tape (L2.upd H p o) T c n := by
  obtain ⟨t, r, ns, h1, h2, h3, h4, h5, h6⟩ := h.ex
  exact ⟨t, r, ns, by rw [upd_ne (ne_of_none h1 hp)]; exact h1, by rw [upd_ne (ne_of_none h2 hp)]; exact h2, h3, h4, h5, h6⟩
theorem Tape.nec {H : Hp} {T c : Addr} {n : Nat} {p : Addr} (h : Tape H T c n) (hp : H p = none) : p ≠ c := by
  obtain ⟨t, r, ns, _, h2, _⟩ := h.ex
  exact (ne_of_none h2 hp).symm
theorem Tape.ne {H : Hp} {T c : Addr} {n : Nat} {p : Addr} (h : Tape H T c n) (hp : H p = none) : p ≠ T := by
  obtain ⟨t, r, ns, h1, _⟩ := h.ex
  exact (ne_of_none h1 hp).symm
theorem upd_at {H : Hp} {p a : Addr} {o z : HO} (hp : H p = none) (h : H a = some z) : (upd H p o) a = some z := by
  rw [upd_ne (ne_of_none h hp)]; exact h
def spTape (K : PySem.W.Frag) : Sp := fun vs H Q _ => ∃ (a : Addr) (ns : List Int), vs = [.ref a] ∧ SqL K H a (ns.map V.int) ∧ ns.length ≤ 63 ∧
  ∀ T c H', H T = none → H c = none → Same H H' → Tape H' T c 0 → Q (.ref T) H'
def spDraw : Sp := fun vs H Q _ => ∃ (T c : Addr) (b : Int) (n : Nat), vs = [.ref T, .int b] ∧ 0 < b ∧ b < 1073741824 ∧ n < 1000000 ∧ Tape H T c n ∧
  ∀ d H', 0 ≤ d → d < b → Tape H' T c (n + 1) → Keep T H H' → Q (.int d) H'
/-- an item of a list, any one -/
def spPick : Sp := fun vs H Q _ => ∃ (T c p : Addr) (xs : List V) (n : Nat), vs = [.ref T, .ref p] ∧ H p = some (.lst xs) ∧ p ≠ T ∧ 0 < xs.length ∧ xs.length < 1000000 ∧ n < 1000000 ∧ Tape H T c n ∧
  ∀ (j : Nat) (x : V) H', xs[j]? = some x → Tape H' T c (n + 1) → Keep T H H' → Q x H'
theorem dp_ints {K : PySem.W.Frag} {H : Hp} : ∀ ns : List Int, DpAll K H (ns.map V.int) (ns.map PyData.int)
  | [] => .nil
  | _ :: r => .cons (.int _) (dp_ints r)
theorem cut63 {ns : List Int} (h : ns.length ≤ 63) : cutV (ns.map V.int) none (some 63) = ns.map V.int := by
  unfold cutV
  rw [HT.sIx_none, show HT.sIx (ns.map V.int).length (ns.map V.int).length (some 63) = min 63 (ns.map V.int).length from HT.sIx_nat _ _ 63, List.length_map, Nat.min_eq_right h]
  show ((ns.map V.int).take (ns.length - 0)) = _
  rw [Nat.sub_zero]
  exact List.take_of_length_le (by rw [List.length_map]; exact Nat.le_refl _)
theorem fmod_in {a b : Int} (h : 0 < b) : 0 ≤ a.fmod b ∧ a.fmod b < b := by
  rw [Int.fmod_eq_emod_of_nonneg a (Int.le_of_lt h)]; exact ⟨Int.emod_nonneg a (by omega), Int.emod_lt_of_pos a h⟩
theorem prime_at (t : Int) : ∃ (j : Nat) (p : Int), t.fmod 5 = (j : Int) ∧ ([.int 2147483647, .int 2147483629, .int 2147483587, .int 2147483579, .int 2147483563] : List V)[j]? = some (.int p) ∧ 0 < p ∧ p < 2147483648 := by
  obtain ⟨h1, h2⟩ := fmod_in (a := t) (b := 5) (by decide)
  generalize t.fmod 5 = z at h1 h2
  have : z = 0 ∨ z = 1 ∨ z = 2 ∨ z = 3 ∨ z = 4 := by omega
  rcases this with rfl | rfl | rfl | rfl | rfl
  · exact ⟨0, _, rfl, rfl, by decide, by decide⟩
  · exact ⟨1, _, rfl, rfl, by decide, by decide⟩
  · exact ⟨2, _, rfl, rfl, by decide, by decide⟩
  · exact ⟨3, _, rfl, rfl, by decide, by decide⟩
  · exact ⟨4, _, rfl, rfl, by decide, by decide⟩
/-- what the law's helpers ask of the module's names -/
structure Txt0 (mg : Str → Option Value) : Prop where
  mlen : mg "len" = none
section
variable {P : Program} {w : World} {K : PySem.W.Frag} {mg : Str → Option Value} {base : Heap}
theorem ok_draw {f : Addr} {fd : FuncData} {k : Nat} (F : Fun K "_law_draw" "_law_draw" sDraw f fd) (T : Txt0 mg) : FnOk P w K mg base CX0 (k + 1) f fd ["_law_tape_here", "_law_many"] spDraw := by
  refine F.ok scDraw (fun vs H Q E h => ?_) (fun cdv A outer s H vs Q E hr h => ?_)
  · obtain ⟨T, c, b, n, rfl, _⟩ := h
    rfl
  · obtain ⟨a, c, b, n, rfl, hb0, hb1, hn, hT, q⟩ := h
    obtain ⟨t, r, ns, h1, h2, h3, h4, h5, h6⟩ := hT.ex
    refine ⟨_,
      (pss_cons (ps_if (pt_cmpR op_gt (pe_ix ix_list (pv 0) pe_int (fun _ _ => rfl)) pe_int (nomark _))
      (pss_cons (ps_set (i := 2) scDraw.nd rfl (.inl rfl) (pe_op op_modN (pe_ix ix_list (pv 0) pe_int (fun _ _ => rfl)) (pv 1)))
      (pss_cons (ps_asg (pe_op op_fdivN (pe_ix ix_list (pv 0) pe_int (fun _ _ => rfl)) (pv 1)) (pg_sub (pv 0) pe_int set_list))
      (pss_one (ps_ret (pv 2)))))
      pss_nil)
      (pss_cons (ps_set (i := 3) scDraw.nd rfl (.inl rfl) (pe_ix ix_list (pv 0) pe_int (fun _ _ => rfl)))
      (pss_cut (ps_asg (pe_op op_add (pv 3) pe_int) (pg_sub (pv 0) pe_int set_list))
      (pss_cons (ps_set (i := 4) scDraw.nd rfl (.inl rfl) pe_int)
      (pss_cut (ps_if (pt_cmpR (op_neD hr.units) (pe_ix ix_list (pv 0) pe_int (fun _ _ => rfl)) (pe_lst pa_nil) (nomark _))
      (pss_one (ps_set (i := 4) scDraw.nd rfl (.inl rfl) (pe_ix ix_list (pe_ix ix_list (pv 0) pe_int (fun _ _ => rfl)) (pe_op op_modN (pv 3) (pe_callB call_len_seq (by rfl) T.mlen PySem.boot_len (pa_cons (pe_ix ix_list (pv 0) pe_int (fun _ _ => rfl)) pa_nil))) (fun _ _ => rfl))))
      pss_nil)
      (pss_cut (ps_if (PW.pt (pw_and (pt_cmpR op_ge (pv 4) (pe_op op_pow pe_int pe_int) (nomark _)) (pw_and1 (pt_cmpR op_lt (pv 3) (pe_callB call_len_seq (by rfl) T.mlen PySem.boot_len (pa_cons (pe_ix ix_list (pv 0) pe_int (fun _ _ => rfl)) pa_nil)) (nomark _)))))
      (pss_cons (ps_asg (pe_op op_fdivN (pe_op op_sub (pv 4) (pe_op op_pow pe_int pe_int)) (pv 1)) (pg_sub (pv 0) pe_int set_list))
      (pss_one (ps_ret (pe_op op_modN (pe_op op_sub (pv 4) (pe_op op_pow pe_int pe_int)) (pv 1)))))
      pss_nil)
      (pss_cons (ps_set (i := 5) scDraw.nd rfl (.inl rfl) (pe_lst (pa_cons pe_int (pa_cons pe_int (pa_cons pe_int (pa_cons pe_int (pa_cons pe_int pa_nil)))))))
      (pss_cons (ps_set (i := 6) scDraw.nd rfl (.inl rfl) (pe_ix ix_list (pv 5) (pe_op op_modN (pv 3) pe_int) (fun _ _ => rfl)))
      (pss_cut (ps_set (i := 7) scDraw.nd rfl (.inl rfl) (pe_op op_modN (pe_op op_add (pe_op op_add (pe_op op_add (pe_op op_mul (pe_op op_modN (pv 4) (pv 6)) pe_int) (pe_op op_mul (pe_op op_mul pe_int (pv 3)) (pv 3))) (pe_op op_mul pe_int (pv 3))) pe_int) (pv 6)))
      (pss_cut (ps_set (i := 7) scDraw.nd rfl (.inl rfl) (pe_op op_modN (pe_op op_mul (pv 7) (pe_op op_add (pv 7) pe_int)) (pe_ix ix_list (pv 5) (pe_op op_modN (pe_op op_add (pv 3) pe_int) pe_int) (fun _ _ => rfl))))
      (pss_one (ps_ret (pe_op op_modN (pe_op op_fdivN (pe_op op_modN (pe_op op_mul (pv 7) (pv 7)) pe_int) pe_int) (pv 1))))))))))))))
      , ?_⟩
    -- if tape[2] > 0
    refine ⟨_, rfl, a, _, 2, _, rfl, rfl, SqL.of h1, atI_nat (j := 2) rfl, _, _, rfl, rfl, _, rfl, ite2 (fun _ => ?_) (fun _ => ?_)⟩
    · obtain ⟨e1, e2⟩ := fmod_in (a := r) hb0
      refine ⟨_, rfl, a, _, 2, _, rfl, rfl, SqL.of h1, atI_nat (j := 2) rfl, _, rfl, _, _, rfl, rfl, by omega, ?_⟩
      refine ⟨_, rfl, a, _, 2, _, rfl, rfl, SqL.of h1, atI_nat (j := 2) rfl, _, rfl, _, _, rfl, rfl, ⟨by omega, by omega⟩, ?_⟩
      refine ⟨_, rfl, a, _, 2, 2, rfl, rfl, h1, rfl, ?_⟩
      refine ⟨_, rfl, q _ _ e1 e2 ⟨t, _, ns, upd_same, ?_, h3, h4, by omega, h6⟩ Keep.refl.updT⟩
      rw [upd_ne h3]; exact h2
    · refine ⟨_, rfl, a, _, 1, _, rfl, rfl, SqL.of h1, atI_nat (j := 1) rfl, ?_⟩
      refine ⟨fun σ H2 => σ = [some (.ref a), some (.int b), none, some (.int t), none, none, none, none] ∧ H2 a = some (.lst [.ref c, .int (t + 1), .int r]) ∧ H2 c = some (.lst (ns.map V.int)) ∧ Keep a H H2, ?_, ?_⟩
      · refine ⟨_, rfl, _, _, rfl, rfl, _, rfl, a, _, 1, 1, rfl, rfl, h1, rfl, rfl, upd_same, ?_, Keep.refl.updT⟩
        rw [upd_ne h3]; exact h2
      rintro σ H1 ⟨rfl, g1, g2, k0⟩
      -- if tape[0] != []: the two ways meet at a cell, any one
      refine ⟨fun σ H2 => ∃ cell : Int, σ = [some (.ref a), some (.int b), none, some (.int t), some (.int cell), none, none, none] ∧ H2 a = some (.lst [.ref c, .int (t + 1), .int r]) ∧ H2 c = some (.lst (ns.map V.int)) ∧ Keep a H H2, ?_, ?_⟩
      · refine ⟨_, rfl, a, _, 0, _, rfl, rfl, SqL.of g1, atI_nat (j := 0) rfl, Nat.zero_le _, fun l hl => ?_⟩
        have u1 := upd_at (o := .lst []) hl g1
        have u2 := upd_at (o := .lst []) hl g2
        refine ⟨_, .list [], .lst (SqL.of u2) (dp_ints _), .lst (SqL.of upd_same) .nil, ke_shaped_ints ns, ke_shaped_ints [], _, rfl, ?_⟩
        cases hns : ns with
        | nil => exact iteF ⟨0, rfl, u1, by rw [← hns]; exact u2, k0.new hl⟩
        | cons z zs =>
          refine iteT ?_
          rw [← hns]
          have hpos : 0 < (ns.length : Int) := by rw [hns]; simp
          refine ⟨_, rfl, a, _, 0, _, rfl, rfl, SqL.of u1, atI_nat (j := 0) rfl, _, rfl, _, rfl, a, _, 0, _, rfl, rfl, SqL.of u1, atI_nat (j := 0) rfl, c, _, rfl, .inl (SqL.of u2), _, _, rfl, rfl, ?_, ?_⟩
          · rw [List.length_map]; omega
          · obtain ⟨e1, e2⟩ := fmod_in (a := t) hpos
            obtain ⟨j, hj⟩ := Int.eq_ofNat_of_zero_le e1
            have hj2 : j < ns.length := by omega
            refine ⟨c, _, (j : Int), .int ns[j], rfl, ?_, SqL.of u2, atI_nat ?_, _, rfl, u1, u2, k0.new hl⟩
            · exact congrArg V.int (by rw [List.length_map]; exact hj)
            · rw [List.getElem?_map, List.getElem?_eq_getElem hj2]; rfl
      · rintro σ H2 ⟨cell, rfl, u1, u2, k2⟩
        -- if cell >= 10 ** 18 and turn < len(tape[0])
        have tp : ∀ (r' : Int) (H3 : Hp), H3 a = some (.lst [.ref c, .int (t + 1), .int r']) → H3 c = some (.lst (ns.map V.int)) → Tape H3 a c (n + 1) := fun r' H3 x1 x2 => ⟨t + 1, r', ns, x1, x2, h3, by omega, by omega, h6⟩
        refine ⟨fun σ H3 => σ = [some (.ref a), some (.int b), none, some (.int t), some (.int cell), none, none, none] ∧ H3 = H2, ?_, ?_⟩
        · refine ⟨_, rfl, _, _, rfl, rfl, ⟨by decide, by decide, by decide⟩, _, _, rfl, rfl, _, rfl, ite2 (fun _ => ?_) (fun _ => iteF ⟨rfl, rfl⟩)⟩
          refine ⟨_, rfl, _, rfl, a, _, 0, _, rfl, rfl, SqL.of u1, atI_nat (j := 0) rfl, c, _, rfl, .inl (SqL.of u2), _, _, rfl, rfl, _, rfl, ite2 (fun _ => ?_) (fun _ => ⟨rfl, rfl⟩)⟩
          refine ⟨_, rfl, _, _, rfl, rfl, ⟨by decide, by decide, by decide⟩, _, _, rfl, rfl, _, rfl, _, _, rfl, rfl, ⟨by omega, by omega⟩, _, rfl, a, _, 2, 2, rfl, rfl, u1, rfl, ?_⟩
          refine ⟨_, rfl, _, _, rfl, rfl, ⟨by decide, by decide, by decide⟩, _, _, rfl, rfl, _, rfl, _, _, rfl, rfl, by omega, ?_⟩
          exact q _ _ (fmod_in hb0).1 (fmod_in hb0).2 (tp _ _ upd_same (by rw [upd_ne h3]; exact u2)) k2.updT
        · rintro σ H3 ⟨rfl, rfl⟩
          -- the five primes, the mixing
          refine ⟨by show 5 ≤ sizeLine; decide, fun l hl => ?_⟩
          have w1 := upd_at (o := .lst [.int 2147483647, .int 2147483629, .int 2147483587, .int 2147483579, .int 2147483563]) hl u1
          have w2 := upd_at (o := .lst [.int 2147483647, .int 2147483629, .int 2147483587, .int 2147483579, .int 2147483563]) hl u2
          have w3 := upd_same (H := H3) (a := l) (o := .lst [.int 2147483647, .int 2147483629, .int 2147483587, .int 2147483579, .int 2147483563])
          obtain ⟨j1, p1, ej1, ep1, hp1, hq1⟩ := prime_at t
          obtain ⟨j2, p2, ej2, ep2, hp2, hq2⟩ := prime_at (t + 2)
          refine ⟨_, rfl, _, rfl, _, _, rfl, rfl, (by show (5 : Int) ≠ 0; decide), l, _, (j1 : Int), _, rfl, congrArg V.int ej1, SqL.of w3, atI_nat ep1, ?_⟩
          have late : ∀ {A B : Prop}, A → A := fun h => h
          refine ⟨fun σ H4 => ∃ m1 : Int, 0 ≤ m1 ∧ m1 < p1 ∧ σ = [some (.ref a), some (.int b), none, some (.int t), some (.int cell), some (.ref l), some (.int p1), some (.int m1)] ∧ H4 = upd H3 l (.lst [.int 2147483647, .int 2147483629, .int 2147483587, .int 2147483579, .int 2147483563]), ?_, ?_⟩
          · refine ⟨_, rfl, _, rfl, _, _, rfl, rfl, by omega, _, _, rfl, rfl, .inr ⟨by decide, by decide⟩, _, rfl, _, _, rfl, rfl, .inl ⟨by decide, by decide⟩, _, rfl, _, _, rfl, rfl, .inr ⟨by omega, by omega⟩, _, _, rfl, rfl, _, rfl, _, _, rfl, rfl, .inl ⟨by decide, by decide⟩, _, _, rfl, rfl, _, _, rfl, rfl, _, rfl, _, _, rfl, rfl, by omega, ?_⟩
            exact ⟨_, (fmod_in hp1).1, (fmod_in hp1).2, rfl, rfl⟩
          rintro σ H4 ⟨m1, m10, m11, rfl, rfl⟩
          refine ⟨fun σ H4 => ∃ m2 : Int, 0 ≤ m2 ∧ m2 < p2 ∧ σ = [some (.ref a), some (.int b), none, some (.int t), some (.int cell), some (.ref l), some (.int p1), some (.int m2)] ∧ H4 = upd H3 l (.lst [.int 2147483647, .int 2147483629, .int 2147483587, .int 2147483579, .int 2147483563]), ?_, ?_⟩
          · refine ⟨_, rfl, _, rfl, _, _, rfl, rfl, _, _, rfl, rfl, .inl ⟨by omega, by omega⟩, _, rfl, _, rfl, _, _, rfl, rfl, _, _, rfl, rfl, (by show (5 : Int) ≠ 0; decide), l, _, (j2 : Int), _, rfl, congrArg V.int ej2, SqL.of w3, atI_nat ep2, _, _, rfl, rfl, by omega, ?_⟩
            exact ⟨_, (fmod_in hp2).1, (fmod_in hp2).2, rfl, rfl⟩
          rintro σ H4 ⟨m2, m20, m21, rfl, rfl⟩
          refine ⟨_, rfl, _, rfl, _, _, rfl, rfl, .inl ⟨by omega, by omega⟩, _, _, rfl, rfl, (by show (2147483549 : Int) ≠ 0; decide), _, _, rfl, rfl, ⟨by decide, by decide⟩, _, rfl, _, _, rfl, rfl, by omega, ?_⟩
          exact q _ _ (fmod_in hb0).1 (fmod_in hb0).2 (tp _ _ w1 w2) (k2.new hl)
/-- an item of a list by a draw -/
theorem ok_pick {f fD : Addr} {fd fdD : FuncData} {k : Nat} (F : Fun K "_law_pick" "_law_pick" sPick f fd) (T : Txt0 mg) (F_law_draw : Fun K "_law_draw" "_law_draw" sDraw fD fdD) (g_law_draw : mg "_law_draw" = some (.ref fD)) (b_law_draw : Binds K fdD ["_law_tape_here", "_law_many"] []) :
    FnOk P w K mg base CX0 (k + 2) f fd ["_law_tape_here", "_law_some"] spPick := by
  have G_law_draw : FnOk P w K mg base CX0 (k + 1) fD fdD ["_law_tape_here", "_law_many"] spDraw := ok_draw F_law_draw T
  refine F.ok scPick (fun vs H Q E h => ?_) (fun cdv A outer s H vs Q E hr h => ?_)
  · obtain ⟨T, c, p, xs, n, rfl, _⟩ := h
    rfl
  · obtain ⟨a, c, p, xs, n, rfl, hS, hpa, hx0, hx1, hn, hT, q⟩ := h
    have hr_law_draw := hr
    refine ⟨_,
      (pss_one (ps_ret (pe_ix ix_list (pv 1) (pe_call G_law_draw hr_law_draw (by rfl) g_law_draw F_law_draw.kp b_law_draw .nil pass0 (pa_cons (pv 0) (pa_cons (pe_callB call_len_seq (by rfl) T.mlen PySem.boot_len (pa_cons (pv 1) pa_nil)) pa_nil))) (fun _ _ => rfl))))
      , ?_⟩
    refine ⟨_, rfl, _, rfl, _, rfl, p, xs, rfl, .inl (SqL.of hS), a, c, xs.length, n, rfl, by omega, by omega, hn, hT, fun d H' d0 d1 T' k' => ?_⟩
    obtain ⟨j, rfl⟩ := Int.eq_ofNat_of_zero_le d0
    have hj : j < xs.length := by omega
    exact ⟨p, xs, (j : Int), xs[j], rfl, rfl, SqL.of (k' p _ hpa hS), atI_nat (List.getElem?_eq_getElem hj), q j _ _ (List.getElem?_eq_getElem hj) T' k'⟩
/-- the tape's making: the cells in a list of their own -/
theorem ok_tape {f : Addr} {fd : FuncData} {k : Nat} (F : Fun K "_law_tape" "_law_tape" sTape f fd) (T : Txt0 mg) : FnOk P w K mg base CX0 (k + 1) f fd ["_law_script"] (spTape K) := by
  refine F.ok scTape (fun vs H Q E h => ?_) (fun cdv A outer s H vs Q E hr h => ?_)
  · obtain ⟨a, ns, rfl, _⟩ := h
    rfl
  · obtain ⟨a, ns, rfl, hS, hlen, q⟩ := h
    refine ⟨_,
      (pss_one (ps_ret (pe_lst (pa_cons (pe_slice sl_list (pv 0) po_none (po_some pe_int)) (pa_cons pe_int (pa_cons pe_int pa_nil))))))
      , ?_⟩
    refine ⟨_, rfl, _, rfl, a, _, rfl, hS, fun p hp => ?_⟩
    refine ⟨by show 3 ≤ sizeLine; decide, fun l hl => ?_⟩
    have nlp : p ≠ l := fun e => by rw [e, upd_same] at hl; cases hl
    have hl0 : H l = none := by rw [upd_ne nlp.symm] at hl; exact hl
    refine q l p _ hl0 hp (fun b o e => upd_at hl (upd_at hp e)) ⟨0, 0, ns, upd_same, ?_, nlp, by omega, by omega, hlen⟩
    rw [upd_ne nlp, upd_same, cut63 hlen]
end
/-! ### heaps that grow -/
theorem Tape.same {H H' : Hp} {T c : Addr} {n : Nat} (h : Tape H T c n) (s : Same H H') : Tape H' T c n := by
  obtain ⟨t, r, ns, h1, h2, h3, h4, h5, h6⟩ := h.ex
  exact ⟨t, r, ns, s _ _ h1, s _ _ h2, h3, h4, h5, h6⟩
theorem Keep.same {T : Addr} {H H1 H2 : Hp} (a : Keep T H H1) (b : Same H1 H2) : Keep T H H2 := fun x o n e => b x o (a x o n e)
theorem same_upd {H : Hp} {p : Addr} {o : HO} (h : H p = none) : Same H (upd H p o) := fun b x e => by
  rw [upd_ne (ne_of_none e h)]; exact e
theorem same_refl {H : Hp} : Same H H := fun _ _ e => e
theorem small_line {n : Nat} (h : n ≤ 100) : n ≤ sizeLine := Nat.le_trans h (by decide)
/-! ### data over heaps that change -/
mutual
/-- data without lists -/
def noL : PyData → Bool
  | .list _ => false
  | .tuple ds => noLs ds
  | .dict _ => false
  | _ => true
def noLs : List PyData → Bool
  | [] => true
  | d :: ds => noL d && noLs ds
end
theorem sqT_same {K : PySem.W.Frag} {H H' : Hp} {a : Addr} {xs : List V} (h : SqT K H a xs) (s : Same H H') : SqT K H' a xs := by
  rcases h with (h | ⟨o, h⟩) | h
  · exact .inl (.inl (s _ _ h))
  · exact .inl (.inr ⟨o, s _ _ h⟩)
  · exact .inr h
theorem sqL_same {K : PySem.W.Frag} {H H' : Hp} {a : Addr} {xs : List V} (h : SqL K H a xs) (s : Same H H') : SqL K H' a xs := by
  rcases h with (h | ⟨o, h⟩) | h
  · exact .inl (.inl (s _ _ h))
  · exact .inl (.inr ⟨o, s _ _ h⟩)
  · exact .inr h
theorem sqT_keep {K : PySem.W.Frag} {T : Addr} {H H' : Hp} {ys : List V} {a : Addr} {xs : List V} (hT : H T = some (.lst ys)) (h : SqT K H a xs) (s : Keep T H H') : SqT K H' a xs := by
  rcases h with (h | ⟨o, h⟩) | h
  · exact .inl (.inl (s _ _ (ne_of h hT (by intro z; cases z)) h))
  · exact .inl (.inr ⟨o, s _ _ (ne_of h hT (by intro z; cases z)) h⟩)
  · exact .inr h
mutual
theorem dp_same {K : PySem.W.Frag} {H H' : Hp} (s : Same H H') : ∀ (d : PyData) (v : V), Dp K H v d → Dp K H' v d
  | .none, _, h => by cases h; exact .non
  | .bool b, _, h => by cases h; exact .bl b
  | .int i, _, h => by cases h; exact .int i
  | .str x, _, h => by cases h; exact .str x
  | .list ds, _, h => by cases h with | lst a b => exact .lst (sqL_same a s) (dps_same s ds _ b)
  | .tuple ds, _, h => by cases h with | tup a b => exact .tup (sqT_same a s) (dps_same s ds _ b)
  | .dict _, _, h => by cases h
theorem dps_same {K : PySem.W.Frag} {H H' : Hp} (s : Same H H') : ∀ (ds : List PyData) (vs : List V), DpAll K H vs ds → DpAll K H' vs ds
  | [], _, h => by cases h; exact .nil
  | d :: ds, _, h => by cases h with | cons a b => exact .cons (dp_same s d _ a) (dps_same s ds _ b)
end
mutual
theorem dp_tups {K : PySem.W.Frag} {H H' : Hp} (s : ∀ a xs, SqT K H a xs → SqT K H' a xs) : ∀ (d : PyData) (v : V), noL d = true → Dp K H v d → Dp K H' v d
  | .none, _, _, h => by cases h; exact .non
  | .bool b, _, _, h => by cases h; exact .bl b
  | .int i, _, _, h => by cases h; exact .int i
  | .str x, _, _, h => by cases h; exact .str x
  | .list ds, _, n, h => by simp [noL] at n
  | .tuple ds, _, n, h => by cases h with | tup a b => exact .tup (s _ _ a) (dps_tups s ds _ (by simpa [noL] using n) b)
  | .dict _, _, _, h => by cases h
theorem dps_tups {K : PySem.W.Frag} {H H' : Hp} (s : ∀ a xs, SqT K H a xs → SqT K H' a xs) : ∀ (ds : List PyData) (vs : List V), noLs ds = true → DpAll K H vs ds → DpAll K H' vs ds
  | [], _, _, h => by cases h; exact .nil
  | d :: ds, _, n, h => by
    have n' : noL d = true ∧ noLs ds = true := by simpa [noLs] using n
    cases h with | cons a b => exact .cons (dp_tups s d _ n'.1 a) (dps_tups s ds _ n'.2 b)
end
theorem dps_keep {K : PySem.W.Frag} {T : Addr} {H H' : Hp} {ys : List V} {ds : List PyData} {vs : List V} (h : DpAll K H vs ds) (hT : H T = some (.lst ys)) (s : Keep T H H') (n : noLs ds = true) : DpAll K H' vs ds := dps_tups (fun _ _ z => sqT_keep hT z s) ds vs n h
theorem dp_keep {K : PySem.W.Frag} {T : Addr} {H H' : Hp} {ys : List V} {d : PyData} {v : V} (h : Dp K H v d) (hT : H T = some (.lst ys)) (s : Keep T H H') (n : noL d = true) : Dp K H' v d := dp_tups (fun _ _ z => sqT_keep hT z s) d v n h
theorem dps_len {K : PySem.W.Frag} {H : Hp} : ∀ {vs : List V} {ds : List PyData}, DpAll K H vs ds → vs.length = ds.length
  | _, _, .nil => rfl
  | _, _, .cons _ r => congrArg (· + 1) (dps_len r)
theorem dps_at {K : PySem.W.Frag} {H : Hp} : ∀ {vs : List V} {ds : List PyData} {i : Nat} {x : V}, DpAll K H vs ds → vs[i]? = some x → ∃ d, ds[i]? = some d ∧ Dp K H x d
  | _, _, _, _, .nil, e => by cases e
  | _, _, 0, _, .cons h _, e => by cases e; exact ⟨_, rfl, h⟩
  | _, _, i + 1, _, .cons _ r, e => dps_at (i := i) r e
theorem dps_app {K : PySem.W.Frag} {H : Hp} : ∀ {vs ws : List V} {ds es : List PyData}, DpAll K H vs ds → DpAll K H ws es → DpAll K H (vs ++ ws) (ds ++ es)
  | _, _, _, _, .nil, h => h
  | _, _, _, _, .cons a r, h => .cons a (dps_app r h)
theorem dp_tup {K : PySem.W.Frag} {H : Hp} {v : V} {ds : List PyData} (h : Dp K H v (.tuple ds)) : ∃ a xs, v = .ref a ∧ SqT K H a xs ∧ DpAll K H xs ds := by cases h with | tup a b => exact ⟨_, _, rfl, a, b⟩
theorem dp_lst {K : PySem.W.Frag} {H : Hp} {v : V} {ds : List PyData} (h : Dp K H v (.list ds)) : ∃ a xs, v = .ref a ∧ SqL K H a xs ∧ DpAll K H xs ds := by cases h with | lst a b => exact ⟨_, _, rfl, a, b⟩
theorem noLs_map {α : Type} (f : α → PyData) (h : ∀ x, noL (f x) = true) : ∀ l : List α, noLs (l.map f) = true
  | [] => rfl
  | x :: l => by rw [List.map_cons, noLs, h x, noLs_map f h l]; rfl
/-! ### defs that make lambdas; what stays but the tables -/
section
open LamX (Tabs ExtN)
variable {P : Program} {w : World} {K : PySem.W.Frag} {mg : Str → Option Value} {base : Heap} {x qual : Str} {params : Arguments} {body : List Stmt} {scope : Scope} {dvs : List V} {kws : List (Str × V)} {f c : Addr} {fd : FuncData} {N ps : List Str} {k : Nat} {sp : Sp}
theorem _root_.L2.FunD.okN (F : FunD K x qual params body scope dvs kws f fd) (S : FnScope N ps scope) (len : ∀ vs H Q E, sp vs H Q E → vs.length = ps.length)
    (hbody : ∀ (cdv : Value) (A : Around) (outer : List Env) (s : Shared) (H : Hp) (vs : List V) (Q : VK) (E : XK), Room k (A.deeper (envOfC qual scope s.heap.objs.size f cdv)) → sp vs H Q E →
      ∃ t, PSs (cxOf CX0 P w K mg base N qual scope f cdv A outer s H E).nox body t ∧ t { nx := fun _ H' => Q .non H', rt := Q } (start N vs) H) : FnOk P w K mg base CX0 (k + 1) f fd ps sp :=
  F.ok S len fun cdv A outer s H vs Q E hr h => by
    obtain ⟨t, h1, q⟩ := hbody cdv A outer s H vs Q E hr h
    exact ⟨t, h1.nox, q⟩
theorem _root_.L2.FunD.okC (F : FunD K x qual params body scope dvs kws f fd) (hc : fd.code = .ref c) (S : FnScope N ps scope) (len : ∀ vs H Q E, sp vs H Q E → vs.length = ps.length)
    (hbody : ∀ (A : Around) (outer : List Env) (s : Shared) (H : Hp) (vs : List V) (Q : VK) (E : XK), Room k (A.deeper (envOfC qual scope s.heap.objs.size f (.ref c))) → sp vs H Q E →
      ∃ t, PSs (cxOf CX0 P w K mg base N qual scope f (.ref c) A outer s H E).nox body t ∧ t { nx := fun _ H' => Q .non H', rt := Q } (start N vs) H) : FnOk P w K mg base CX0 (k + 1) f fd ps sp := by
  obtain ⟨oc, od, dV, kV, doc, pm, an, cdv, ct, osl, rfl, lk, hcd, _, _⟩ := F.ex
  obtain rfl : cdv = .ref c := hc
  refine fn_of lk hcd S len fun A outer s H vs Q E hr h => ?_
  obtain ⟨t, h1, q⟩ := hbody A outer s H vs Q E hr h
  exact ⟨t, h1.nox, q⟩
theorem _root_.L2.Fun.okC {st : Stmt} (F : Fun K x qual st f fd) (hc : fd.code = .ref c) (S : FnScope N ps (defScope st)) (len : ∀ vs H Q E, sp vs H Q E → vs.length = ps.length)
    (hbody : ∀ (A : Around) (outer : List Env) (s : Shared) (H : Hp) (vs : List V) (Q : VK) (E : XK), Room k (A.deeper (envOfC qual (defScope st) s.heap.objs.size f (.ref c))) → sp vs H Q E →
      ∃ t, PSs (cxOf CX0 P w K mg base N qual (defScope st) f (.ref c) A outer s H E).nox (defBody st) t ∧ t { nx := fun _ H' => Q .non H', rt := Q } (start N vs) H) : FnOk P w K mg base CX0 (k + 1) f fd ps sp := by
  obtain ⟨oc, od, kV, doc, pm, an, cdv, ct, osl, rfl, lk, hcd⟩ := F.ex
  obtain rfl : cdv = .ref c := hc
  refine fn_of lk hcd S len fun A outer s H vs Q E hr h => ?_
  obtain ⟨t, h1, q⟩ := hbody A outer s H vs Q E hr h
  exact ⟨t, h1.nox, q⟩
/-- all but the tables stays, and the tables are ones still -/
def Sm (TT : List (Addr × Str)) (H H' : Hp) : Prop := ExtN H H' ∧ (Tabs TT H → Tabs TT H') ∧ ∀ b, H' b = none → H b = none
variable {TT : List (Addr × Str)} {H H' H1 H2 : Hp}
theorem Sm.refl : Sm TT H H := ⟨ExtN.refl H, id, fun _ => id⟩
theorem Sm.trans (a : Sm TT H H1) (b : Sm TT H1 H2) : Sm TT H H2 := ⟨a.1.trans b.1, fun t => b.2.1 (a.2.1 t), fun x h => a.2.2 x (b.2.2 x h)⟩
theorem _root_.L2.Same.sm (s : Same H H') : Sm TT H H' := ⟨ExtN.of s, fun t => t.ext s, fun b h => by
  cases e : H b with
  | none => rfl
  | some u => rw [s _ _ e] at h; cases h⟩
theorem sm_upd {p : Addr} {o : HO} (h : H p = none) : Sm TT H (upd H p o) := (same_upd h).sm
theorem Sm.at {b : Addr} {u : HO} (s : Sm TT H H') (e : H b = some u) (n : ∀ ps, u ≠ .tbl ps := by intro ps z; cases z) : H' b = some u := s.1 b u e n
theorem Sm.none {b : Addr} (s : Sm TT H H') (h : H' b = none) : H b = none := s.2.2 b h
/-- a list that changes is neither a table nor a code object -/
theorem tabs_lst {F : Addr} {xs : List V} (hF : H F = some (.lst xs)) (h : ∀ b o, b ≠ F → H b = some o → H' b = some o) (t : Tabs TT H) : Tabs TT H' := by
  intro p hp
  obtain ⟨ps, h1, h2, h3⟩ := t p hp
  refine ⟨ps, h _ _ (ne_of h1 hF (by intro z; cases z)) h1, h2, fun pos cv hc => ?_⟩
  obtain ⟨c, e1, e2⟩ := h3 pos cv hc
  exact ⟨c, e1, h _ _ (ne_of e2 hF (by intro z; cases z)) e2⟩
/-- a list of one's own, changed -/
theorem Sm.lst {H0 : Hp} {p : Addr} {xs : List V} {o : HO} (s : Sm TT H0 H) (h0 : H0 p = Option.none) (e : H p = some (.lst xs)) : Sm TT H0 (upd H p o) := by
  refine ⟨fun b u hb n => ?_, fun t => ?_, fun b h => s.none (upd_none h)⟩
  · rw [upd_ne (ne_of_none hb h0)]; exact s.1 b u hb n
  · exact tabs_lst e (fun b o n e => by rw [upd_ne n]; exact e) (s.2.1 t)
theorem sqT_sm {a : Addr} {xs : List V} (h : SqT K H a xs) (s : Sm TT H H') : SqT K H' a xs := by
  rcases h with (h | ⟨o, h⟩) | h
  · exact .inl (.inl (s.at h))
  · exact .inl (.inr ⟨o, s.at h⟩)
  · exact .inr h
theorem sqL_sm {a : Addr} {xs : List V} (h : SqL K H a xs) (s : Sm TT H H') : SqL K H' a xs := by
  rcases h with (h | ⟨o, h⟩) | h
  · exact .inl (.inl (s.at h))
  · exact .inl (.inr ⟨o, s.at h⟩)
  · exact .inr h
mutual
theorem dp_sm (s : Sm TT H H') : ∀ (d : PyData) (v : V), Dp K H v d → Dp K H' v d
  | .none, _, h => by cases h; exact .non
  | .bool b, _, h => by cases h; exact .bl b
  | .int i, _, h => by cases h; exact .int i
  | .str x, _, h => by cases h; exact .str x
  | .list ds, _, h => by cases h with | lst a b => exact .lst (sqL_sm a s) (dps_sm s ds _ b)
  | .tuple ds, _, h => by cases h with | tup a b => exact .tup (sqT_sm a s) (dps_sm s ds _ b)
  | .dict _, _, h => by cases h
theorem dps_sm (s : Sm TT H H') : ∀ (ds : List PyData) (vs : List V), DpAll K H vs ds → DpAll K H' vs ds
  | [], _, h => by cases h; exact .nil
  | d :: ds, _, h => by cases h with | cons a b => exact .cons (dp_sm s d _ a) (dps_sm s ds _ b)
end
end
section
open LamX (Tabs TabS)
def spLawT (K : PySem.W.Frag) (TT : List (Addr × Str)) : Sp := fun vs H Q _ => ∃ (a : Addr) (ns : List Int), vs = [.ref a] ∧ SqL K H a (ns.map V.int) ∧ ns.length ≤ 63 ∧ Tabs TT H ∧ ∀ H', Q (.bl true) H'
theorem tabs0 {TT : List (Addr × Str)} {H : Hp} (h : ∀ p ∈ TT, H p.1 = some (.tbl #[])) : Tabs TT H := fun p hp => ⟨#[], h p hp, trivial, fun pos cv hc => by cases hc⟩
end
/-! ### stretches put together: what covers what -/
section
abbrev Pr := Int × Int
/-- one more stretch, behind those told (the last one first) -/
def mrg (ap : Int) (acc : List Pr) (p : Pr) : List Pr := match acc with
  | [] => [p]
  | q :: r => if p.1 - q.2 ≤ ap then (q.1, max q.2 p.2) :: r else p :: q :: r
def mrgs (ap : Int) (l : List Pr) : List Pr := l.foldl (mrg ap) []
/-- acc (the last one first) tells just what shares P or lies at most ap apart -/
def CovR (ap : Int) : (Int → Prop) → List Pr → Prop
  | P, [] => ∀ x, ¬ P x
  | P, (f, t) :: r => f < t ∧ P f ∧ P (t - 1) ∧ (∀ x, t ≤ x → ¬ P x) ∧ (∀ m, f ≤ m → m + ap < t → ∃ x, m ≤ x ∧ x ≤ m + ap ∧ P x) ∧ (∀ x, f - ap - 1 ≤ x → x < f → ¬ P x) ∧ CovR ap (fun x => P x ∧ x < f) r
theorem CovR.congr {ap : Int} : ∀ {l : List Pr} {P P' : Int → Prop}, (∀ x, P x ↔ P' x) → CovR ap P l → CovR ap P' l
  | [], P, P', h, c => fun x z => c x ((h x).mpr z)
  | (f, t) :: r, P, P', h, ⟨a, b, c, d, e, g, k⟩ => ⟨a, (h _).mp b, (h _).mp c, fun x q z => d x q ((h x).mpr z), fun m h1 h2 => by
      obtain ⟨x, x1, x2, x3⟩ := e m h1 h2
      exact ⟨x, x1, x2, (h x).mp x3⟩, fun x h1 h2 z => g x h1 h2 ((h x).mpr z), k.congr fun x => by rw [h x]⟩
theorem CovR.one {ap : Int} (h0 : 0 ≤ ap) : ∀ {l m : List Pr} {P : Int → Prop}, CovR ap P l → CovR ap P m → l = m
  | [], [], _, _, _ => rfl
  | [], (f, t) :: r, P, h, ⟨_, b, _⟩ => absurd b (h f)
  | (f, t) :: r, [], P, ⟨_, b, _⟩, h => absurd b (h f)
  | (f, t) :: r, (f', t') :: r', P, ⟨a, b, c, d, e, g, k⟩, ⟨a', b', c', d', e', g', k'⟩ => by
    have ht : t = t' := by
      have h1 : ¬ t ≤ t' - 1 := fun z => d _ z c'
      have h2 : ¬ t' ≤ t - 1 := fun z => d' _ z c
      omega
    have lo : ∀ {f f' t : Int}, P f → f < t → f' < t → (∀ m, f ≤ m → m + ap < t → ∃ x, m ≤ x ∧ x ≤ m + ap ∧ P x) → (∀ x, f' - ap - 1 ≤ x → x < f' → ¬ P x) → ¬ f < f' := by
      intro f f' t b a a' e g' z
      by_cases c1 : f' - ap - 1 ≤ f
      · exact g' f c1 z b
      · obtain ⟨x, x1, x2, x3⟩ := e (f' - ap - 1) (by omega) (by omega)
        exact g' x x1 (by omega) x3
    subst ht
    have hf : f = f' := by
      have h1 := lo b a a' e g'
      have h2 := lo b' a' a e' g
      omega
    subst hf
    rw [CovR.one h0 k k']
theorem covR_mrg {ap : Int} (h0 : 0 ≤ ap) {acc : List Pr} {P : Int → Prop} {p : Pr} (h : CovR ap P acc) (hp : p.1 < p.2) (hs : ∀ q ∈ acc.head?, q.1 ≤ p.1) : CovR ap (fun x => P x ∨ (p.1 ≤ x ∧ x < p.2)) (mrg ap acc p) := by
  obtain ⟨a, b⟩ := p
  cases acc with
  | nil =>
    have h : ∀ x, ¬ P x := h
    refine ⟨hp, .inr ⟨Int.le_refl _, hp⟩, .inr ⟨by show a ≤ b - 1; have : a < b := hp; omega, by show b - 1 < b; omega⟩, fun x hx => ?_, fun m h1 h2 => ⟨m, Int.le_refl _, by omega, .inr ⟨h1, by show m < b; omega⟩⟩, fun x _ hx => ?_, fun x ⟨hx, hx2⟩ => ?_⟩
    · rintro (z | ⟨_, z⟩)
      · exact h x z
      · exact absurd z (by show ¬ x < b; omega)
    · rintro (z | ⟨z, _⟩)
      · exact h x z
      · exact absurd z (by show ¬ a ≤ x; omega)
    · rcases hx with z | ⟨z, _⟩
      · exact h x z
      · exact absurd z (by show ¬ a ≤ x; omega)
  | cons q r =>
    obtain ⟨f, t⟩ := q
    obtain ⟨c1, c2, c3, c4, c5, c6, c7⟩ := h
    have hfa : f ≤ a := hs (f, t) rfl
    have hab : a < b := hp
    by_cases c : a - t ≤ ap
    · rw [show mrg ap ((f, t) :: r) (a, b) = (f, max t b) :: r from if_pos c]
      have hm1 : t ≤ max t b := Int.le_max_left _ _
      have hm2 : b ≤ max t b := Int.le_max_right _ _
      have hm3 : max t b = t ∨ max t b = b := by rw [Int.max_def]; split <;> simp
      refine ⟨by omega, .inl c2, ?_, fun x hx => ?_, fun m h1 h2 => ?_, fun x h1 h2 => ?_, c7.congr fun x => ⟨fun ⟨z, y⟩ => ⟨.inl z, y⟩, fun ⟨z, y⟩ => ?_⟩⟩
      · rcases hm3 with e | e
        · rw [e]; exact .inl c3
        · rw [e]; exact .inr ⟨by show a ≤ b - 1; omega, by show b - 1 < b; omega⟩
      · rintro (z | ⟨_, z⟩)
        · exact c4 x (by omega) z
        · exact absurd z (by show ¬ x < b; omega)
      · by_cases d : m + ap < t
        · obtain ⟨x, x1, x2, x3⟩ := c5 m h1 d
          exact ⟨x, x1, x2, .inl x3⟩
        · by_cases d2 : m ≤ t - 1
          · exact ⟨t - 1, d2, by omega, .inl c3⟩
          · refine ⟨max m a, Int.le_max_left _ _, ?_, .inr ⟨Int.le_max_right _ _, ?_⟩⟩
            · rw [Int.max_def]; split <;> omega
            · show max m a < b
              rcases hm3 with e | e
              · omega
              · rw [Int.max_def]; split <;> omega
      · rintro (z | ⟨z, _⟩)
        · exact c6 x h1 h2 z
        · exact absurd z (by show ¬ a ≤ x; omega)
      · rcases z with z | ⟨z, _⟩
        · exact ⟨z, y⟩
        · exact absurd z (by show ¬ a ≤ x; omega)
    · rw [show mrg ap ((f, t) :: r) (a, b) = (a, b) :: (f, t) :: r from if_neg c]
      have old : ∀ x, P x → x < t := fun x z => by
        have : ¬ t ≤ x := fun y => c4 x y z
        omega
      refine ⟨hab, .inr ⟨Int.le_refl _, hab⟩, .inr ⟨by show a ≤ b - 1; omega, by show b - 1 < b; omega⟩, fun x hx => ?_, fun m h1 h2 => ⟨m, Int.le_refl _, by omega, .inr ⟨h1, by show m < b; omega⟩⟩, fun x h1 h2 => ?_, ?_⟩
      · rintro (z | ⟨_, z⟩)
        · have := old x z; omega
        · exact absurd z (by show ¬ x < b; omega)
      · rintro (z | ⟨z, _⟩)
        · have := old x z; omega
        · exact absurd z (by show ¬ a ≤ x; omega)
      · refine CovR.congr (P := P) (fun x => ⟨fun z => ⟨.inl z, by have := old x z; omega⟩, fun ⟨z, y⟩ => ?_⟩) ⟨c1, c2, c3, c4, c5, c6, c7⟩
        rcases z with z | ⟨z, _⟩
        · exact z
        · exact absurd z (by show ¬ a ≤ x; omega)
/-- what a list of stretches holds -/
def Cov (l : List Pr) (x : Int) : Prop := ∃ p ∈ l, p.1 ≤ x ∧ x < p.2
theorem head_mrg {ap : Int} {acc : List Pr} {p : Pr} (hs : ∀ q ∈ acc.head?, q.1 ≤ p.1) : ∀ q ∈ (mrg ap acc p).head?, q.1 ≤ p.1 := by
  cases acc with
  | nil => intro q hq; cases hq; exact Int.le_refl _
  | cons a r =>
    intro q hq
    by_cases c : p.1 - a.2 ≤ ap
    · rw [show mrg ap (a :: r) p = (a.1, max a.2 p.2) :: r from if_pos c] at hq
      cases hq; exact hs a rfl
    · rw [show mrg ap (a :: r) p = p :: a :: r from if_neg c] at hq
      cases hq; exact Int.le_refl _
theorem covR_mrgs {ap : Int} (h0 : 0 ≤ ap) {l : List Pr} (hl : ∀ p ∈ l, p.1 < p.2) (hs : l.Pairwise fun p q => p.1 ≤ q.1) : CovR ap (Cov l) (mrgs ap l) := by
  have go : ∀ (l done : List Pr) (acc : List Pr), (∀ p ∈ l, p.1 < p.2) → (l.Pairwise fun p q => p.1 ≤ q.1) → (∀ p ∈ l, ∀ q ∈ acc.head?, q.1 ≤ p.1) → CovR ap (Cov done) acc → CovR ap (Cov (done ++ l)) (l.foldl (mrg ap) acc) := by
    intro l
    induction l with
    | nil => intro done acc _ _ _ h; rw [List.append_nil]; exact h
    | cons p r ih =>
      intro done acc hl hs hh h
      rw [List.foldl_cons]
      have hs' := List.pairwise_cons.mp hs
      have z := ih (done ++ [p]) (mrg ap acc p) (fun q hq => hl q (List.mem_cons_of_mem _ hq)) hs'.2 (fun q hq s hsq => ?_) ?_
      · rw [List.append_assoc] at z; exact z
      · exact Int.le_trans (head_mrg (hh p List.mem_cons_self) s hsq) (hs'.1 q hq)
      · refine (covR_mrg h0 h (hl p List.mem_cons_self) (hh p List.mem_cons_self)).congr fun x => ⟨fun z => ?_, fun ⟨q, hq, h1⟩ => ?_⟩
        · rcases z with ⟨q, hq, h1⟩ | h1
          · exact ⟨q, List.mem_append_left _ hq, h1⟩
          · exact ⟨p, List.mem_append_right _ (List.mem_singleton.mpr rfl), h1⟩
        · rcases List.mem_append.mp hq with hq | hq
          · exact .inl ⟨q, hq, h1⟩
          · rw [List.mem_singleton.mp hq] at h1; exact .inr h1
  have z := go l [] [] hl hs (fun _ _ q hq => by cases hq) (fun x ⟨q, hq, _⟩ => by cases hq)
  rw [List.nil_append] at z
  exact z
/-- what they share alone counts -/
theorem mrgs_one {ap : Int} (h0 : 0 ≤ ap) {l m : List Pr} (hl : ∀ p ∈ l, p.1 < p.2) (hsl : l.Pairwise fun p q => p.1 ≤ q.1) (hm : ∀ p ∈ m, p.1 < p.2) (hsm : m.Pairwise fun p q => p.1 ≤ q.1) (e : ∀ x, Cov l x ↔ Cov m x) : mrgs ap l = mrgs ap m :=
  CovR.one h0 (covR_mrgs h0 hl hsl) ((covR_mrgs h0 hm hsm).congr fun x => (e x).symm)
/-- those told are rising, none empty, and hold the same -/
theorem CovR.list {ap : Int} (h0 : 0 ≤ ap) : ∀ {acc : List Pr} {P : Int → Prop}, CovR ap P acc → (∀ p ∈ acc, p.1 < p.2 ∧ P p.1 ∧ P (p.2 - 1)) ∧ acc.Pairwise (fun p q => q.2 + ap < p.1) ∧ (∀ x, P x → Cov acc x)
  | [], P, h => ⟨fun p hp => (by cases hp), List.Pairwise.nil, fun x z => absurd z (h x)⟩
  | (f, t) :: r, P, ⟨a, b, c, d, e, g, k⟩ => by
    obtain ⟨h1, h2, h3⟩ := CovR.list h0 k
    refine ⟨fun p hp => ?_, List.pairwise_cons.mpr ⟨fun q hq => ?_, h2⟩, fun x z => ?_⟩
    · rcases List.mem_cons.mp hp with rfl | hp
      · exact ⟨a, b, c⟩
      · obtain ⟨x1, x2, x3⟩ := h1 p hp
        exact ⟨x1, x2.1, x3.1⟩
    · obtain ⟨x1, x2, x3⟩ := h1 q hq
      have : ¬ f - ap - 1 ≤ q.2 - 1 := fun y => g (q.2 - 1) y x3.2 x3.1
      have : q.2 - 1 < f := x3.2
      show q.2 + ap < f
      omega
    · by_cases hx : x < f
      · obtain ⟨p, hp, z2⟩ := h3 x ⟨z, hx⟩
        exact ⟨p, List.mem_cons_of_mem _ hp, z2⟩
      · refine ⟨(f, t), List.mem_cons_self, by show f ≤ x; omega, ?_⟩
        have : ¬ t ≤ x := fun y => d x y z
        show x < t
        omega
/-- with ap = 0 nothing more is told than what they hold -/
theorem CovR.just : ∀ {acc : List Pr} {P : Int → Prop}, CovR 0 P acc → ∀ x, Cov acc x → P x
  | [], P, h, x, ⟨p, hp, _⟩ => by cases hp
  | (f, t) :: r, P, ⟨a, b, c, d, e, g, k⟩, x, ⟨p, hp, h1, h2⟩ => by
    rcases List.mem_cons.mp hp with rfl | hp
    · obtain ⟨y, y1, y2, y3⟩ := e x h1 (by rw [Int.add_zero]; exact h2)
      have : y = x := by omega
      rw [← this]; exact y3
    · exact (CovR.just k x ⟨p, hp, h1, h2⟩).1
end
/-! ### what none of them has -/
section
theorem CovR.shift {k : Int} : ∀ {l : List Pr} {P : Int → Prop}, CovR 0 P l → CovR 0 (fun x => P (x - k)) (l.map fun p => (p.1 + k, p.2 + k))
  | [], P, h => fun x => h (x - k)
  | (f, t) :: r, P, ⟨a, b, c, d, e, g, q⟩ => by
    refine ⟨by omega, by show P (f + k - k); rw [Int.add_sub_cancel]; exact b, ?_, fun x hx => d (x - k) (by omega), fun m h1 h2 => ?_, fun x h1 h2 => g (x - k) (by omega) (by omega), ?_⟩
    · show P (t + k - 1 - k)
      rw [show t + k - 1 - k = t - 1 by omega]; exact c
    · obtain ⟨x, x1, x2, x3⟩ := e (m - k) (by omega) (by omega)
      exact ⟨x + k, by omega, by omega, by show P (x + k - k); rw [Int.add_sub_cancel]; exact x3⟩
    · refine CovR.congr (P := fun x => P (x - k) ∧ x - k < f) (fun x => ⟨fun z => ⟨z.1, by have := z.2; omega⟩, fun z => ⟨z.1, by have := z.2; omega⟩⟩) ?_
      exact CovR.shift (P := fun x => P x ∧ x < f) q
def shf (k : Int) (l : List Pr) : List Pr := l.map fun p => (p.1 + k, p.2 + k)
theorem cov_shf {k : Int} {l : List Pr} (x : Int) : Cov (shf k l) x ↔ Cov l (x - k) := by
  unfold Cov shf
  constructor
  · rintro ⟨p, hp, h1, h2⟩
    obtain ⟨q, hq, rfl⟩ := List.mem_map.mp hp
    exact ⟨q, hq, by dsimp only at h1; omega, by dsimp only at h2; omega⟩
  · rintro ⟨q, hq, h1, h2⟩
    exact ⟨_, List.mem_map_of_mem hq, by dsimp only; omega, by dsimp only; omega⟩
/-- one more of those put together -/
def gstep (b : Int) (s : Int × List Pr) (p : Pr) : Int × List Pr := (max s.1 p.2, if s.1 < min p.1 b then (s.1, min p.1 b) :: s.2 else s.2)
def gfold (b : Int) (a : Int) (J : List Pr) : Int × List Pr := J.foldl (gstep b) (a, [])
def gend (b : Int) (s : Int × List Pr) : List Pr := if s.1 < b then (s.1, b) :: s.2 else s.2
theorem gfold_snoc {b a : Int} (J : List Pr) (p : Pr) : gfold b a (J ++ [p]) = gstep b (gfold b a J) p := by unfold gfold; rw [List.foldl_append]; rfl
structure GInv (a b : Int) (J : List Pr) (s : Int × List Pr) : Prop where
  cov : CovR 0 (fun x => a ≤ x ∧ x < b ∧ x < s.1 ∧ ¬ Cov J x) s.2
  fst : s.1 = a ∨ Cov J (s.1 - 1)
  low : a ≤ s.1
  top : ∀ p ∈ J, p.2 ≤ s.1
  len : s.2.length ≤ J.length
theorem cov_snoc {J : List Pr} {p : Pr} (x : Int) : Cov (J ++ [p]) x ↔ Cov J x ∨ (p.1 ≤ x ∧ x < p.2) := by
  unfold Cov
  constructor
  · rintro ⟨q, hq, h⟩
    rcases List.mem_append.mp hq with hq | hq
    · exact .inl ⟨q, hq, h⟩
    · rw [List.mem_singleton.mp hq] at h; exact .inr h
  · rintro (⟨q, hq, h⟩ | h)
    · exact ⟨q, List.mem_append_left _ hq, h⟩
    · exact ⟨p, List.mem_append_right _ (List.mem_singleton.mpr rfl), h⟩
theorem ginv_step {a b : Int} {J : List Pr} {s : Int × List Pr} {p : Pr} (g : GInv a b J s) (hp : p.1 < p.2) (hJ : ∀ q ∈ J, q.1 < q.2 ∧ q.2 < p.1) : GInv a b (J ++ [p]) (gstep b s p) := by
  obtain ⟨f, t⟩ := p
  obtain ⟨h, r⟩ := s
  obtain ⟨cov, fst, low, top, len⟩ := g
  dsimp only at hp cov fst low top len
  have hfs : h = a ∨ h < f ∧ Cov J (h - 1) := by
    rcases fst with e | ⟨q, hq, e1, e2⟩
    · exact .inl e
    · have := hJ q hq
      have := top q hq
      exact .inr ⟨by omega, q, hq, e1, e2⟩
  have free : ∀ x, h ≤ x → ¬ Cov J x := fun x hx ⟨q, hq, h1, h2⟩ => by
    have := top q hq
    omega
  have hm1 : h ≤ max h t := Int.le_max_left _ _
  have hm2 : t ≤ max h t := Int.le_max_right _ _
  have hm3 : max h t = h ∨ max h t = t := by rw [Int.max_def]; split <;> simp
  have hn1 : min f b ≤ f := Int.min_le_left _ _
  have hn2 : min f b ≤ b := Int.min_le_right _ _
  have hn3 : min f b = f ∨ min f b = b := by rw [Int.min_def]; split <;> simp
  have base : ∀ x, (a ≤ x ∧ x < b ∧ x < h ∧ ¬ Cov J x) → (a ≤ x ∧ x < b ∧ x < max h t ∧ ¬ Cov (J ++ [(f, t)]) x) := by
    rintro x ⟨h1, h2, h3, h4⟩
    refine ⟨h1, h2, by omega, fun z => ?_⟩
    rcases (cov_snoc x).mp z with z | ⟨z1, z2⟩
    · exact h4 z
    · dsimp only at z1
      rcases hfs with e | ⟨e, _⟩ <;> omega
  have back : ∀ x, x < h → (a ≤ x ∧ x < b ∧ x < max h t ∧ ¬ Cov (J ++ [(f, t)]) x) → (a ≤ x ∧ x < b ∧ x < h ∧ ¬ Cov J x) := fun x hx ⟨h1, h2, _, h4⟩ => ⟨h1, h2, hx, fun z => h4 ((cov_snoc x).mpr (.inl z))⟩
  have newc : ∀ x, h ≤ x → ((a ≤ x ∧ x < b ∧ x < max h t ∧ ¬ Cov (J ++ [(f, t)]) x) ↔ x < min f b) := by
    intro x hx
    constructor
    · rintro ⟨h1, h2, h3, h4⟩
      have : ¬ (f ≤ x ∧ x < t) := fun z => h4 ((cov_snoc x).mpr (.inr z))
      omega
    · intro z
      refine ⟨by omega, by omega, by omega, fun y => ?_⟩
      rcases (cov_snoc x).mp y with y | ⟨y1, y2⟩
      · exact free x hx y
      · dsimp only at y1; omega
  refine ⟨?_, ?_, by show a ≤ max h t; omega, fun q hq => ?_, ?_⟩
  · show CovR 0 _ (if h < min f b then (h, min f b) :: r else r)
    by_cases c : h < min f b
    · rw [if_pos c]
      refine ⟨c, (newc h (Int.le_refl _)).mpr c, (newc _ (by omega)).mpr (by omega), fun x hx z => ?_, fun m m1 m2 => ⟨m, Int.le_refl _, by omega, (newc m m1).mpr (by omega)⟩, fun x h1 h2 => ?_, cov.congr fun x => ⟨fun z => ⟨base x z, z.2.2.1⟩, fun z => back x z.2 z.1⟩⟩
      · have := (newc x (by omega)).mp z; omega
      · have ex : x = h - 1 := by omega
        subst ex
        rintro ⟨z1, _, _, z4⟩
        rcases hfs with e | ⟨_, e⟩
        · omega
        · exact z4 ((cov_snoc _).mpr (.inl e))
    · rw [if_neg c]
      refine cov.congr fun x => ⟨base x, fun z => ?_⟩
      by_cases hx : x < h
      · exact back x hx z
      · have := (newc x (by omega)).mp z; omega
  · show max h t = a ∨ Cov (J ++ [(f, t)]) (max h t - 1)
    rcases hm3 with e | e
    · rw [e]
      rcases fst with e2 | e2
      · exact .inl e2
      · exact .inr ((cov_snoc _).mpr (.inl e2))
    · rw [e]; exact .inr ((cov_snoc _).mpr (.inr ⟨by dsimp only; omega, by dsimp only; omega⟩))
  · show q.2 ≤ max h t
    rcases List.mem_append.mp hq with hq | hq
    · have := top q hq; omega
    · rw [List.mem_singleton.mp hq]; exact hm2
  · show (if h < min f b then (h, min f b) :: r else r).length ≤ _
    rw [List.length_append, List.length_singleton]
    split
    · rw [List.length_cons]; omega
    · omega
theorem ginv {a b : Int} {J : List Pr} (h1 : ∀ p ∈ J, p.1 < p.2) (h2 : J.Pairwise fun p q => p.2 < q.1) : ∀ i, i ≤ J.length → GInv a b (J.take i) (gfold b a (J.take i)) := by
  intro i
  induction i with
  | zero =>
    intro _
    refine ⟨fun x z => ?_, .inl rfl, Int.le_refl _, fun p hp => (by cases hp), Nat.le_refl _⟩
    have z1 := z.1
    have z3 : x < a := z.2.2.1
    omega
  | succ i ih =>
    intro hi
    have g := ih (by omega)
    have e : J[i]? = some J[i] := List.getElem?_eq_getElem (by omega)
    rw [List.take_succ, e]
    show GInv a b (J.take i ++ [J[i]]) (gfold b a (J.take i ++ [J[i]]))
    rw [gfold_snoc]
    refine ginv_step g (h1 _ (List.getElem_mem _)) fun q hq => ⟨h1 q (List.mem_of_mem_take hq), ?_⟩
    obtain ⟨j, hj, rfl⟩ := List.mem_iff_getElem.mp hq
    rw [List.length_take] at hj
    rw [List.getElem_take]
    exact List.pairwise_iff_getElem.mp h2 j i _ _ (by omega)
theorem gend_ok {a b : Int} {J : List Pr} {s : Int × List Pr} (g : GInv a b J s) : CovR 0 (fun x => a ≤ x ∧ x < b ∧ ¬ Cov J x) (gend b s) := by
  obtain ⟨h, r⟩ := s
  obtain ⟨cov, fst, low, top, _⟩ := g
  dsimp only at cov fst low top
  have free : ∀ x, h ≤ x → ¬ Cov J x := fun x hx ⟨q, hq, h1, h2⟩ => by
    have := top q hq
    omega
  show CovR 0 _ (if h < b then (h, b) :: r else r)
  by_cases c : h < b
  · rw [if_pos c]
    refine ⟨c, ⟨low, c, free h (Int.le_refl _)⟩, ⟨by omega, by omega, free _ (by omega)⟩, fun x hx z => by have := z.2.1; omega, fun m m1 m2 => ⟨m, Int.le_refl _, by omega, by omega, by omega, free m m1⟩, fun x h1 h2 z => ?_, cov.congr fun x => ⟨fun z => ⟨⟨z.1, z.2.1, z.2.2.2⟩, z.2.2.1⟩, fun z => ⟨z.1.1, z.1.2.1, z.2, z.1.2.2⟩⟩⟩
    have ex : x = h - 1 := by omega
    subst ex
    rcases fst with e | e
    · have := z.1; omega
    · exact z.2.2 e
  · rw [if_neg c]
    exact cov.congr fun x => ⟨fun z => ⟨z.1, z.2.1, z.2.2.2⟩, fun z => ⟨z.1, z.2.1, by have := z.2.1; omega, z.2.2⟩⟩
end
/-! ### readings, a step at a time -/
section
variable {σ : L2.St} {H : Hp} {Q : VK} {D : Ends} {ta tb te : TE} {tr t : TA} {E : XK} {sp : Sp} {dvs : List V}
theorem i_var {i : Nat} {v : V} (e : σ[i]? = some (some v)) (h : Q v H) : tVar i σ H Q := ⟨v, e, h⟩
theorem i_c {v : V} (h : Q v H) : tC v σ H Q := h
theorem i_nil {Q : List V → Hp → Prop} (h : Q [] H) : tNil σ H Q := h
theorem i_cons {Q : List V → Hp → Prop} (h : ta σ H fun x H1 => tr σ H1 fun xs H2 => Q (x :: xs) H2) : tCons ta tr σ H Q := h
theorem i_op {r : R2} (h : ta σ H fun x H1 => tb σ H1 fun y H2 => r x y H2 Q) : tOp r ta tb σ H Q := h
theorem i_un {r : V → Hp → VK → Prop} (h : ta σ H fun x H1 => r x H1 Q) : tUn r ta σ H Q := h
theorem i_call (h : t σ H fun vs H1 => sp (vs ++ dvs) H1 Q E) : tCall sp dvs E t σ H Q := h
theorem i_cb {r : List V → Hp → VK → Prop} (h : t σ H fun vs H1 => r vs H1 Q) : tCB r t σ H Q := h
theorem i_asg {g : TG} (h : te σ H fun x H1 => g x σ H1 D.nx) : tAsg te g D σ H := h
theorem i_name {i : Nat} {v : V} {Q : L2.St → Hp → Prop} (h : Q (σ.set i (some v)) H) : gName i v σ H Q := h
theorem i_seq {u v : TS} (h : u { D with nx := v D } σ H) : tSeq u v D σ H := h
theorem i_next (h : D.nx σ H) : tNext D σ H := h
theorem i_ret (h : te σ H D.rt) : tRet te D σ H := h
theorem i_drop (h : te σ H fun _ H1 => D.nx σ H1) : tDrop te D σ H := h
theorem i_if {c : TT} {u v : TS} (h : c σ H fun b H1 => if b = true then u D σ H1 else v D σ H1) : tIfS c u v D σ H := h
theorem i_and {u v : TT} {Q : Bool → Hp → Prop} (h : u σ H fun c H1 => if c = true then v σ H1 Q else Q false H1) : tAnd u v σ H Q := h
theorem i_or {u v : TT} {Q : Bool → Hp → Prop} (h : u σ H fun c H1 => if c = true then Q true H1 else v σ H1 Q) : tOr u v σ H Q := h
theorem i_not {u : TT} {Q : Bool → Hp → Prop} (h : u σ H fun c H1 => Q (!c) H1) : tNot u σ H Q := h
theorem i_test {Q : Bool → Hp → Prop} (h : te σ H fun x H1 => ∃ k, x = .bl k ∧ Q k H1) : tTest te σ H Q := h
theorem i_ite {c : TT} (h : c σ H fun b H1 => if b = true then ta σ H1 Q else tb σ H1 Q) : tIf c ta tb σ H Q := h
theorem i_lst (h : t σ H fun xs H1 => xs.length ≤ sizeLine ∧ ∀ p, H1 p = none → Q (.ref p) (upd H1 p (.lst xs))) : tLst t σ H Q := h
theorem i_tup (h : t σ H fun xs H1 => xs.length ≤ sizeLine ∧ ∀ p, H1 p = none → Q (.ref p) (upd H1 p (.tup xs))) : tTup t σ H Q := h
theorem i_bm {K : PySem.W.Frag} {S : String} {r : V → List V → Hp → VK → Prop} (h : ta σ H fun x H1 => tyV K S x H1 ∧ t σ H1 fun xs H2 => r x xs H2 Q) : tBM K S r ta t σ H Q := h
theorem i_aug {i : Nat} {ti : TIp} {x : V} (e : σ[i]? = some (some x)) (h : te σ H fun y H1 => ti x y H1 fun z H2 => D.nx (σ.set i (some z)) H2) : tAug i te ti D σ H := ⟨x, e, h⟩
theorem i_par {i j : Nat} {v w : V} (h : t σ H fun vs H1 => ∃ v w, vs = [v, w] ∧ D.nx ((σ.set i (some v)).set j (some w)) H1) : tPar i j t D σ H := h
theorem i_gsub {to ti : TE} {ts : TSet} {v : V} {Q : L2.St → Hp → Prop} (h : to σ H fun o H1 => ti σ H1 fun i H2 => ts o i v H2 fun H3 => Q σ H3) : gSub to ti ts v σ H Q := h
theorem i_chain {r r' : R2} {tc : TE} (h : ta σ H fun x H1 => tb σ H1 fun y H2 => r x y H2 fun z H3 => ∃ k, z = .bl k ∧ if k = true then tc σ H3 fun v H4 => r' y v H4 Q else Q (.bl false) H3) : tChain r r' ta tb tc σ H Q := h
theorem i_sl {r : V → Option Int → Option Int → Hp → VK → Prop} {tl th : TO} (h : te σ H fun x H1 => tl σ H1 fun l H2 => th σ H2 fun u H3 => r x l u H3 Q) : tSl r te tl th σ H Q := h
theorem i_nopart {Q : Option Int → Hp → Prop} (h : Q none H) : tNoPart σ H Q := h
theorem i_part {Q : Option Int → Hp → Prop} (h : te σ H fun x H1 => ∃ i, x = .int i ∧ Q (some i) H1) : tPart te σ H Q := h
end
section
variable {σ : L2.St} {H : Hp} {Q : VK} {ta te : TE} {t : TA}
theorem i_m1 {r : V → List V → Hp → VK → Prop} (h : ta σ H fun x H1 => (∃ a, x = .str a) ∧ te σ H1 fun y H2 => r x [y] H2 Q) : tM1 r ta te σ H Q := h
theorem i_m0 {r : V → List V → Hp → VK → Prop} (h : ta σ H fun x H1 => (∃ a, x = .str a) ∧ r x [] H1 Q) : tM0 r ta σ H Q := h
theorem i_iList {K : PySem.W.Frag} {R : It → Hp → Prop} (h : ta σ H fun x H1 => ∃ a, x = .ref a ∧ (∃ xs, SqL K H1 a xs) ∧ R (Itl K a) H1) : iList K ta σ H R := h
theorem i_iTup {K : PySem.W.Frag} {R : It → Hp → Prop} (h : ta σ H fun x H1 => ∃ a, x = .ref a ∧ (∃ xs, SqT K H1 a xs) ∧ R (Itt K a) H1) : iTup K ta σ H R := h
theorem i_iStr {R : It → Hp → Prop} (h : ta σ H fun v H1 => ∃ x, v = .str x ∧ R (Its x) H1) : iStr ta σ H R := h
theorem i_r1 {R : It → Hp → Prop} (h : t σ H fun vs H1 => ∃ j : Int, vs = [.int j] ∧ -(2 ^ 62) ≤ j ∧ j < 2 ^ 62 ∧ R (Itr 0 j.toNat) H1) : iRng1 t σ H R := h
theorem i_lc {wi : TI} {g : TG} {tt : TT} {vs : List Nat} (h : wi σ H fun J H1 => ∀ D, H1 D = none → ∃ W : Nat → Nat → Hp → Prop, (∃ m, W 0 m (upd H1 D (.lst []))) ∧ ∀ i m H, W i m H →
  (J.stop i H ∧ Q (.ref D) H) ∨ (J.go i H ∧ ∃ Nx : Hp → Prop, (∀ H', Nx H' → ∃ m', m' < m ∧ W (i + 1) m' H') ∧ ∀ x H', J.yld i H x H' → g x (wipe σ vs) H' fun σ2 H2 => wipe σ2 vs = wipe σ vs ∧ tt σ2 H2 fun b H3 =>
    if b = true then te σ2 H3 fun y H4 => ∃ acc, H4 D = some (.lst acc) ∧ acc.length < sizeLine ∧ Nx (upd H4 D (.lst (acc ++ [y]))) else Nx H3)) : tLc wi g tt te vs σ H Q := h
end
theorem app_same {H1 H4 : Hp} {D : Addr} {o : HO} (hD : H1 D = none) (s : Same H1 H4) : Same H1 (upd H4 D o) := fun y u e => by rw [upd_ne (ne_of_none e hD)]; exact s _ _ e
theorem app_keep {F : Addr} {H1 H4 : Hp} {D : Addr} {o : HO} (hD : H1 D = none) (s : Keep F H1 H4) : Keep F H1 (upd H4 D o) := fun y u n e => by rw [upd_ne (ne_of_none e hD)]; exact s _ _ n e
theorem lt_line {n : Nat} (h : n < 100000) : n < sizeLine := Nat.lt_of_lt_of_le h (by decide)
theorem le_line {n : Nat} (h : n ≤ 100000) : n ≤ sizeLine := Nat.le_trans h (by decide)
theorem ixN_nat {n j : Nat} (h : j < n) : ixN n (j : Int) = some j := by
  unfold ixN
  rw [if_pos (by omega), if_pos (by omega)]
  simp
theorem i_callk {σ : L2.St} {H : Hp} {Q : VK} {sp : Sp} {gV : List V → List V → List V} {E : XK} {t tk : TA} (h : t σ H fun vs H1 => tk σ H1 fun zs H2 => sp (gV vs zs) H2 Q E) : tCallK sp gV E t tk σ H Q := h
theorem i_callN {σ : L2.St} {H : Hp} {Q : VK} {n m : Nat} {sp : Sp} {gV : List V → List V → List V} {E : XK} {t tk : TA} (h : t σ H fun vs H1 => tk σ H1 fun zs H2 => vs.length = n ∧ zs.length = m ∧ sp (gV vs zs) H2 Q E) : tCallN n m sp gV E t tk σ H Q := h
theorem i_ckw {σ : L2.St} {H : Hp} {Q : VK} {r : List V → List V → Hp → VK → Prop} {t tk : TA} (h : t σ H fun vs H1 => tk σ H1 fun zs H2 => r vs zs H2 Q) : tCKw r t tk σ H Q := h
theorem i_revL {K : PySem.W.Frag} {σ : L2.St} {H : Hp} {Q : VK} {te : TE} (h : te σ H fun x H1 => ∃ a xs, x = .ref a ∧ SqL K H1 a xs ∧ ∀ p, H1 p = none → Q (.ref p) (upd H1 p (.lst xs.reverse))) : tRevL K te σ H Q := h
theorem ite_str {a b : Str} {A B : Prop} (h1 : a = b → A) (h2 : ¬ a = b → B) : if decide (V.str a = V.str b) = true then A else B := by
  by_cases c : a = b
  · rw [if_pos (decide_eq_true (congrArg V.str c))]; exact h1 c
  · rw [if_neg (fun z => c (V.str.inj (of_decide_eq_true z)))]; exact h2 c
theorem ite_nstr {a b : Str} {A B : Prop} (h1 : ¬ a = b → A) (h2 : a = b → B) : if (!decide (V.str a = V.str b)) = true then A else B := by
  by_cases c : a = b
  · rw [decide_eq_true (congrArg V.str c)]; exact iteF (h2 c)
  · rw [decide_eq_false (fun z => c (V.str.inj z))]; exact iteT (h1 c)
theorem i_tB {te : TE} {σ : L2.St} {H : Hp} {Q : Bool → Hp → Prop} (h : te σ H fun x H1 => ∃ c, x = .bl c ∧ Q c H1) : tB te σ H Q := h
theorem i_kw {K : PySem.W.Frag} {n : Nat} {gs : TGs} {a : Addr} {xs : List V} {σ : L2.St} {H : Hp} {Q : L2.St → Hp → Prop} (h : SqT K H a xs) (e : xs.length = n) (q : gs xs σ H Q) : gTup K n gs (.ref a) σ H Q := ⟨a, xs, rfl, h, e, q⟩
theorem i_andV {ta tb : TE} {σ : L2.St} {H : Hp} {Q : VK} (h : ta σ H fun x H1 => ∃ c, x = .bl c ∧ if c = true then tb σ H1 Q else Q (.bl false) H1) : tAndV ta tb σ H Q := h
theorem i_orV {ta tb : TE} {σ : L2.St} {H : Hp} {Q : VK} (h : ta σ H fun x H1 => ∃ c, x = .bl c ∧ if c = true then Q (.bl true) H1 else tb σ H1 Q) : tOrV ta tb σ H Q := h
theorem i_notV {ta : TE} {σ : L2.St} {H : Hp} {Q : VK} (h : ta σ H fun x H1 => ∃ c, x = .bl c ∧ Q (.bl (!c)) H1) : tNotV ta σ H Q := h
theorem i_ixT {K : PySem.W.Frag} {H : Hp} {p : Addr} {xs : List V} {j : Nat} {v : V} {Q : VK} (h : SqT K H p xs) (e : xs[j]? = some v) (q : Q v H) : rIxT K (.ref p) (.int (j : Int)) H Q := ⟨p, xs, _, v, rfl, rfl, h, atI_nat e, q⟩
theorem i_ixL {K : PySem.W.Frag} {H : Hp} {p : Addr} {xs : List V} {j : Nat} {v : V} {Q : VK} (h : SqL K H p xs) (e : xs[j]? = some v) (q : Q v H) : rIxL K (.ref p) (.int (j : Int)) H Q := ⟨p, xs, _, v, rfl, rfl, h, atI_nat e, q⟩
theorem i_ixT0 {K : PySem.W.Frag} {H : Hp} {p : Addr} {x : V} {xs : List V} {Q : VK} (h : SqT K H p (x :: xs)) (q : Q x H) : rIxT K (.ref p) (.int 0) H Q := ⟨p, _, 0, x, rfl, rfl, h, atI_nat (j := 0) rfl, q⟩
theorem i_ixT1 {K : PySem.W.Frag} {H : Hp} {p : Addr} {x y : V} {xs : List V} {Q : VK} (h : SqT K H p (x :: y :: xs)) (q : Q y H) : rIxT K (.ref p) (.int 1) H Q := ⟨p, _, 1, y, rfl, rfl, h, atI_nat (j := 1) rfl, q⟩
theorem i_ixT2 {K : PySem.W.Frag} {H : Hp} {p : Addr} {x y z : V} {xs : List V} {Q : VK} (h : SqT K H p (x :: y :: z :: xs)) (q : Q z H) : rIxT K (.ref p) (.int 2) H Q := ⟨p, _, 2, z, rfl, rfl, h, atI_nat (j := 2) rfl, q⟩
theorem i_ixT3 {K : PySem.W.Frag} {H : Hp} {p : Addr} {x y z w : V} {xs : List V} {Q : VK} (h : SqT K H p (x :: y :: z :: w :: xs)) (q : Q w H) : rIxT K (.ref p) (.int 3) H Q := ⟨p, _, 3, w, rfl, rfl, h, atI_nat (j := 3) rfl, q⟩
theorem i_ixLe {K : PySem.W.Frag} {H : Hp} {p : Addr} {xs : List V} {i : Int} (j : Nat) {v : V} {Q : VK} (h : SqL K H p xs) (ei : i = (j : Int)) (e : xs[j]? = some v) (q : Q v H) : rIxL K (.ref p) (.int i) H Q := by subst ei; exact i_ixL h e q
theorem i_ixTe {K : PySem.W.Frag} {H : Hp} {p : Addr} {xs : List V} {i : Int} (j : Nat) {v : V} {Q : VK} (h : SqT K H p xs) (ei : i = (j : Int)) (e : xs[j]? = some v) (q : Q v H) : rIxT K (.ref p) (.int i) H Q := by subst ei; exact i_ixT h e q
def rFld (K : PySem.W.Frag) (f : Str) : V → Hp → VK → Prop := fun x H Q => ∃ a C dx fs v, x = .ref a ∧ H a = some (.ins C dx fs) ∧ Cls K C ∧ NoAttr K C f ∧ fs.lookup f = some v ∧ Q v H
theorem i_fld {K : PySem.W.Frag} {ta : TE} {f : Str} {σ : L2.St} {H : Hp} {Q : VK} (h : ta σ H fun x H1 => rFld K f x H1 Q) : tFld K ta f σ H Q := h
theorem i_sfld {K : PySem.W.Frag} {ta tv : TE} {f : Str} {D : Ends} {σ : L2.St} {H : Hp} (h : tv σ H fun y H1 => ta σ H1 fun x H2 => ∃ a C dx fs, x = .ref a ∧ H2 a = some (.ins C dx fs) ∧ Cls K C ∧ NoAttr K C f ∧ fs.length < 1000 ∧ D.nx σ (upd H2 a (.ins C dx (putF f y fs)))) : sFld K ta tv f D σ H := h
/-- a new object, to be made by its __init__ -/
def rMkN (C : Addr) (sp : Sp) (gV : List V → List V → List V) (E : XK) (vs zs : List V) (H : Hp) (Q : VK) : Prop := ∀ x dx, H x = none → H dx = none → dx ≠ x → sp (gV (.ref x :: vs) zs) (upd (upd H dx (.own x)) x (.ins C dx [])) (fun v H3 => v = .non ∧ Q (.ref x) H3) E
def rMk (C : Addr) (sp : Sp) (dvs : List V) (E : XK) (vs : List V) (H : Hp) (Q : VK) : Prop := ∀ x dx, H x = none → H dx = none → dx ≠ x → sp (.ref x :: (vs ++ dvs)) (upd (upd H dx (.own x)) x (.ins C dx [])) (fun v H3 => v = .non ∧ Q (.ref x) H3) E
theorem i_make {C : Addr} {sp : Sp} {dvs : List V} {E : XK} {t : TA} {σ : L2.St} {H : Hp} {Q : VK} (h : t σ H fun vs H1 => rMk C sp dvs E vs H1 Q) : tMake C sp dvs E t σ H Q := h
theorem i_makeN {C : Addr} {n m : Nat} {sp : Sp} {gV : List V → List V → List V} {E : XK} {t tk : TA} {σ : L2.St} {H : Hp} {Q : VK} (h : t σ H fun vs H1 => tk σ H1 fun zs H2 => vs.length = n ∧ zs.length = m ∧ rMkN C sp gV E vs zs H2 Q) : tMakeN C n m sp gV E t tk σ H Q := h
theorem i_meth {C : Addr} {m : Str} {sp : Sp} {dvs : List V} {E : XK} {ta : TE} {t : TA} {σ : L2.St} {H : Hp} {Q : VK} (h : ta σ H fun x H1 => ∃ a dx fs, x = .ref a ∧ H1 a = some (.ins C dx fs) ∧ fs.lookup m = none ∧ t σ H1 fun vs H2 => sp (x :: (vs ++ dvs)) H2 Q E) : tMeth C m sp dvs E ta t σ H Q := h
theorem ixN_last {n : Nat} : ixN (n + 1) (-1) = some n := by
  unfold ixN
  rw [if_neg (by decide), if_pos (by omega)]
  congr 1
  omega
theorem i_ixLast {K : PySem.W.Frag} {H : Hp} {p : Addr} {xs : List V} {v : V} {Q : VK} (h : SqL K H p (xs ++ [v])) (q : Q v H) : rIxL K (.ref p) (.int (-1)) H Q := by
  refine ⟨p, xs ++ [v], -1, v, rfl, rfl, h, ?_, q⟩
  unfold atI
  rw [List.length_append, List.length_singleton, ixN_last]
  simp
theorem i_setLast {H : Hp} {p : Addr} {xs : List V} {v w : V} {Q : Hp → Prop} (h : H p = some (.lst (xs ++ [v]))) (q : Q (upd H p (.lst (xs ++ [w])))) : rSetL (.ref p) (.int (-1)) w H Q := by
  refine ⟨p, xs ++ [v], -1, xs.length, rfl, rfl, h, by rw [List.length_append, List.length_singleton, ixN_last], ?_⟩
  rw [show (xs ++ [v]).set xs.length w = xs ++ [w] by simp]
  exact q
theorem isi_list {K : PySem.W.Frag} {H : Hp} {p : Addr} {xs : List V} {Q : VK} (e : H p = some (.lst xs)) (q : Q (.bl true) H) : rIsi K [.ref p, .ty "list"] H Q := ⟨_, _, _, _, true, rfl, .ty _, .base (.lst e), rfl, q⟩
theorem isi_own {K : PySem.W.Frag} {H : Hp} {x : V} {C : Addr} {Q : VK} (e : TyX K H x (.ref C)) (q : Q (.bl true) H) : rIsi K [x, .ref C] H Q := ⟨_, _, _, _, true, rfl, .own C, e, if_pos (beq_self_eq_true _), q⟩
theorem i_yes {σ : L2.St} {H : Hp} {Q : Bool → Hp → Prop} (h : Q true H) : tYes σ H Q := h
set_option maxHeartbeats 8000000
local macro_rules | `(tactic| walk_at "c") => `(tactic| first | omega | decide | exact ⟨by omega, by omega⟩ | exact ⟨by decide, by decide⟩ | exact .inl ⟨by omega, by omega⟩ | exact .inr ⟨by omega, by omega⟩ | exact ⟨by omega, by omega, by omega⟩ | exact ⟨by decide, by decide, by decide⟩ | exact le_line (Nat.le_of_ble_eq_true rfl))
local macro_rules | `(tactic| walk_at "a") => `(tactic| with_reducible (first | refine i_seq ?_ | refine i_asg ?_ | refine i_cons ?_ | refine i_c ?_ | refine i_nil ?_ | refine i_op ?_ | refine i_call ?_ | refine i_cb ?_ | refine i_name ?_ | refine i_next ?_ | refine i_ret ?_ | refine i_drop ?_ | refine i_if ?_ | refine i_test ?_ | refine i_and ?_ | refine i_or ?_ | refine i_not ?_ | refine i_ite ?_ | refine i_lst ?_ | refine i_tup ?_ | refine i_bm ?_ | refine i_un ?_ | refine i_par ?_ | refine i_gsub ?_ | refine i_chain ?_ | refine i_sl ?_ | refine i_nopart ?_ | refine i_part ?_ | refine i_m1 ?_ | refine i_m0 ?_ | refine i_lc ?_ | refine i_iList ?_ | refine i_iTup ?_ | refine i_iStr ?_ | refine i_r1 ?_ | refine i_set ?_ | refine i_callk ?_ | refine i_callN ?_ | refine i_ckw ?_ | refine i_revL ?_ | refine i_tB ?_ | refine i_fld ?_ | refine i_sfld ?_ | refine i_make ?_ | refine i_makeN ?_ | refine i_meth ?_ | refine i_andV ?_ | refine i_orV ?_ | refine i_notV ?_ | refine iteT ?_ | refine iteF ?_ | refine i_yes ?_))
local macro_rules | `(tactic| walk_at "s") => `(tactic| repeat (first | walk_at "a" | refine i_var rfl ?_ | refine i_aug rfl ?_ | refine And.intro ⟨_, rfl⟩ ?_ | refine ⟨_, rfl, ?_⟩ | refine ⟨_, _, rfl, rfl, ?_⟩ | refine ⟨_, _, rfl, ?_⟩ | refine ⟨rfl, ?_⟩ | refine And.intro (by walk_at "c") ?_))
abbrev FunDf_joined (K : PySem.W.Frag) (f : Addr) (fd : FuncData) : Prop := FunD K "joined" "joined" (defArgs sJoined) (defBody sJoined) (defScope sJoined) [.int 0] [] f fd
abbrev FunDf_Stretch___init__ (K : PySem.W.Frag) (f : Addr) (fd : FuncData) : Prop := FunD K "__init__" "Stretch.__init__" (defArgs sSInit) (defBody sSInit) (defScope sSInit) [.non] [] f fd
structure Ev (K : PySem.W.Frag) (mg : Str → Option Value) (base : Heap) where
  fshow_time : Addr
  fdshow_time : FuncData
  Fshow_time : Fun K "show_time" "show_time" sShow fshow_time fdshow_time
  bshow_time : Binds K fdshow_time ["minute"] []
  gshow_time : mg "show_time" = some (.ref fshow_time)
  fmeet : Addr
  fdmeet : FuncData
  Fmeet : Fun K "meet" "meet" sMeet fmeet fdmeet
  bmeet : Binds K fdmeet ["one", "other"] []
  gmeet : mg "meet" = some (.ref fmeet)
  fjoined : Addr
  fdjoined : FuncData
  Fjoined : FunDf_joined K fjoined fdjoined
  gjoined : mg "joined" = some (.ref fjoined)
  fgaps : Addr
  fdgaps : FuncData
  Fgaps : Fun K "gaps" "gaps" sGaps fgaps fdgaps
  bgaps : Binds K fdgaps ["some", "within"] []
  ggaps : mg "gaps" = some (.ref fgaps)
  fminutes_in : Addr
  fdminutes_in : FuncData
  Fminutes_in : Fun K "minutes_in" "minutes_in" sMinutesIn fminutes_in fdminutes_in
  bminutes_in : Binds K fdminutes_in ["some"] []
  gminutes_in : mg "minutes_in" = some (.ref fminutes_in)
  f_law_tape : Addr
  fd_law_tape : FuncData
  F_law_tape : Fun K "_law_tape" "_law_tape" sTape f_law_tape fd_law_tape
  b_law_tape : Binds K fd_law_tape ["_law_script"] []
  g_law_tape : mg "_law_tape" = some (.ref f_law_tape)
  f_law_draw : Addr
  fd_law_draw : FuncData
  F_law_draw : Fun K "_law_draw" "_law_draw" sDraw f_law_draw fd_law_draw
  b_law_draw : Binds K fd_law_draw ["_law_tape_here", "_law_many"] []
  g_law_draw : mg "_law_draw" = some (.ref f_law_draw)
  f_law_pick : Addr
  fd_law_pick : FuncData
  F_law_pick : Fun K "_law_pick" "_law_pick" sPick f_law_pick fd_law_pick
  b_law_pick : Binds K fd_law_pick ["_law_tape_here", "_law_some"] []
  g_law_pick : mg "_law_pick" = some (.ref f_law_pick)
  f_law_made : Addr
  fd_law_made : FuncData
  F_law_made : Fun K "_law_made" "_law_made" sMade f_law_made fd_law_made
  b_law_made : Binds K fd_law_made ["_law_tape_here"] []
  g_law_made : mg "_law_made" = some (.ref f_law_made)
  f_law_beside : Addr
  fd_law_beside : FuncData
  F_law_beside : Fun K "_law_beside" "_law_beside" sBeside f_law_beside fd_law_beside
  b_law_beside : Binds K fd_law_beside ["_law_some", "_law_whole"] []
  g_law_beside : mg "_law_beside" = some (.ref f_law_beside)
  f_law_inside : Addr
  fd_law_inside : FuncData
  F_law_inside : Fun K "_law_inside" "_law_inside" sInside f_law_inside fd_law_inside
  b_law_inside : Binds K fd_law_inside ["_law_one", "_law_other"] []
  g_law_inside : mg "_law_inside" = some (.ref f_law_inside)
  flaw : Addr
  fdlaw : FuncData
  Flaw : Fun K "law" "law" sLaw flaw fdlaw
  blaw : Binds K fdlaw ["_law_script"] []
  glaw : mg "law" = some (.ref flaw)
  fStretch___init__ : Addr
  fdStretch___init__ : FuncData
  FStretch___init__ : FunDf_Stretch___init__ K fStretch___init__ fdStretch___init__
  fStretch___eq__ : Addr
  fdStretch___eq__ : FuncData
  FStretch___eq__ : Fun K "__eq__" "Stretch.__eq__" sSEq fStretch___eq__ fdStretch___eq__
  bStretch___eq__ : Binds K fdStretch___eq__ ["self", "other"] []
  fStretch___len__ : Addr
  fdStretch___len__ : FuncData
  FStretch___len__ : Fun K "__len__" "Stretch.__len__" sSLen fStretch___len__ fdStretch___len__
  bStretch___len__ : Binds K fdStretch___len__ ["self"] []
  fStretch___str__ : Addr
  fdStretch___str__ : FuncData
  FStretch___str__ : Fun K "__str__" "Stretch.__str__" sSStr fStretch___str__ fdStretch___str__
  bStretch___str__ : Binds K fdStretch___str__ ["self"] []
  fStretch___repr__ : Addr
  fdStretch___repr__ : FuncData
  FStretch___repr__ : Fun K "__repr__" "Stretch.__repr__" sSRepr fStretch___repr__ fdStretch___repr__
  bStretch___repr__ : Binds K fdStretch___repr__ ["self"] []
  fNoStretch___init__ : Addr
  fdNoStretch___init__ : FuncData
  FNoStretch___init__ : Fun K "__init__" "NoStretch.__init__" sNInit fNoStretch___init__ fdNoStretch___init__
  bNoStretch___init__ : Binds K fdNoStretch___init__ ["self", "first", "behind"] []
  ccjoined : Addr
  cpjoined : Addr
  cdjoined : fdjoined.code = .ref ccjoined
  tbjoined : LamX.TabB base mg ccjoined cpjoined
  cclaw : Addr
  cplaw : Addr
  cdlaw : fdlaw.code = .ref cclaw
  tblaw : LamX.TabB base mg cclaw cplaw
  ncjoined_law : cpjoined ≠ cplaw
  tDAY : Tok
  mDAY : mg "DAY" = some (.int 1440 tDAY)
  tHOUR : Tok
  mHOUR : mg "HOUR" = some (.int 60 tHOUR)
  mArithmeticError : mg "ArithmeticError" = none
  mdivmod : mg "divmod" = none
  misinstance : mg "isinstance" = none
  mlen : mg "len" = none
  mmax : mg "max" = none
  mmin : mg "min" = none
  mrange : mg "range" = none
  msorted : mg "sorted" = none
  msum : mg "sum" = none
  CStretch : Addr
  CNoStretch : Addr
  gCNoStretch : mg "NoStretch" = some (.ref CNoStretch)
  oxNoStretch : OexB K CNoStretch
  exNoStretch : PySem.W.subIn K (.ref CNoStretch) (.type "BaseException") = some true
  hdNoStretch : PySem.W.hasDictIn K CNoStretch = true
  tyNoStretch : PySem.W.typeIn K (.ref CNoStretch) = some (.type "type")
  icNoStretch : PySem.W.isClsIn K CNoStretch = true
  seNoStretch : PySem.W.subIn K (.ref CNoStretch) (.ref CNoStretch) = some true
  upNoStretch : PySem.W.subIn K (.ref CNoStretch) (.type "ArithmeticError") = some true
  gaNoStretch : PySem.W.findIn K (.ref CNoStretch) "__getattribute__" = some (some (.builtin "BaseException.__getattribute__"))
  ggNoStretch : PySem.W.findIn K (.ref CNoStretch) "__getattr__" = some none
  haNoStretch : PySem.W.findIn K (.ref CNoStretch) "__class__" = some (some (.builtin "object.__class__"))
  hnNoStretch : PySem.W.specialIn K (.builtin "object.__class__") "__get__" = some (some (.builtin "getset_descriptor.__get__"))
  htNoStretch : PySem.W.takesIn K (.builtin "object.__class__") = some true
  hmNoStretch : PySem.W.mroIn K CNoStretch (.type "object") = some true
  nNoStretch_first : PySem.W.findIn K (.ref CNoStretch) "first" = some none
  nNoStretch_behind : PySem.W.findIn K (.ref CNoStretch) "behind" = some none
  aNoStretch___init__ : PySem.W.findIn K (.ref CNoStretch) "__init__" = some (some (.ref fNoStretch___init__))
  iNoStretch___init__ : PySem.W.isFn K (.ref fNoStretch___init__) = true
  kNoStretch___init__ : PySem.W.keepIn K (.ref fNoStretch___init__) = true
  gCStretch : mg "Stretch" = some (.ref CStretch)
  pgStretch : PySem.W.plainGet K CStretch Str.empty = true
  hdStretch : PySem.W.hasDictIn K CStretch = true
  poStretch : PySem.W.plainOver K CStretch = true
  saStretch : PySem.W.findIn K (.ref CStretch) "__setattr__" = some (some (.builtin "object.__setattr__"))
  mkStretch : PySem.W.makesIn K CStretch = true
  kcStretch : PySem.W.keepIn K (.ref CStretch) = true
  haStretch : PySem.W.findIn K (.ref CStretch) "__class__" = some (some (.builtin "object.__class__"))
  hnStretch : PySem.W.specialIn K (.builtin "object.__class__") "__get__" = some (some (.builtin "getset_descriptor.__get__"))
  htStretch : PySem.W.takesIn K (.builtin "object.__class__") = some true
  hmStretch : PySem.W.mroIn K CStretch (.type "object") = some true
  nfStretch : PySem.W.notFirst K CStretch (.ref CStretch) = true
  nStretch_first : PySem.W.findIn K (.ref CStretch) "first" = some none
  nStretch_behind : PySem.W.findIn K (.ref CStretch) "behind" = some none
  neStretch : PySem.W.findIn K (.ref CStretch) "__ne__" = some (some (.builtin "object.__ne__"))
  icStretch : PySem.W.isClsIn K CStretch = true
  tyStretch : PySem.W.typeIn K (.ref CStretch) = some (.type "type")
  subStretch_NoneType : PySem.W.subIn K (.ref CStretch) (.type "NoneType") = some false
  kitStretch_NoneType : PySem.W.subIn K (.type "NoneType") (.ref CStretch) = some false
  ntStretch_NoneType : PySem.W.notFirst K CStretch (.type "NoneType") = true
  subStretch_int : PySem.W.subIn K (.ref CStretch) (.type "int") = some false
  kitStretch_int : PySem.W.subIn K (.type "int") (.ref CStretch) = some false
  ntStretch_int : PySem.W.notFirst K CStretch (.type "int") = true
  subStretch_str : PySem.W.subIn K (.ref CStretch) (.type "str") = some false
  kitStretch_str : PySem.W.subIn K (.type "str") (.ref CStretch) = some false
  ntStretch_str : PySem.W.notFirst K CStretch (.type "str") = true
  subStretch_list : PySem.W.subIn K (.ref CStretch) (.type "list") = some false
  kitStretch_list : PySem.W.subIn K (.type "list") (.ref CStretch) = some false
  ntStretch_list : PySem.W.notFirst K CStretch (.type "list") = true
  subStretch_tuple : PySem.W.subIn K (.ref CStretch) (.type "tuple") = some false
  kitStretch_tuple : PySem.W.subIn K (.type "tuple") (.ref CStretch) = some false
  ntStretch_tuple : PySem.W.notFirst K CStretch (.type "tuple") = true
  subStretch_dict : PySem.W.subIn K (.ref CStretch) (.type "dict") = some false
  kitStretch_dict : PySem.W.subIn K (.type "dict") (.ref CStretch) = some false
  ntStretch_dict : PySem.W.notFirst K CStretch (.type "dict") = true
  aStretch___init__ : PySem.W.findIn K (.ref CStretch) "__init__" = some (some (.ref fStretch___init__))
  iStretch___init__ : PySem.W.isFn K (.ref fStretch___init__) = true
  kStretch___init__ : PySem.W.keepIn K (.ref fStretch___init__) = true
  aStretch___eq__ : PySem.W.findIn K (.ref CStretch) "__eq__" = some (some (.ref fStretch___eq__))
  iStretch___eq__ : PySem.W.isFn K (.ref fStretch___eq__) = true
  kStretch___eq__ : PySem.W.keepIn K (.ref fStretch___eq__) = true
  aStretch___len__ : PySem.W.findIn K (.ref CStretch) "__len__" = some (some (.ref fStretch___len__))
  iStretch___len__ : PySem.W.isFn K (.ref fStretch___len__) = true
  kStretch___len__ : PySem.W.keepIn K (.ref fStretch___len__) = true
  aStretch___str__ : PySem.W.findIn K (.ref CStretch) "__str__" = some (some (.ref fStretch___str__))
  iStretch___str__ : PySem.W.isFn K (.ref fStretch___str__) = true
  kStretch___str__ : PySem.W.keepIn K (.ref fStretch___str__) = true
  aStretch___repr__ : PySem.W.findIn K (.ref CStretch) "__repr__" = some (some (.ref fStretch___repr__))
  iStretch___repr__ : PySem.W.isFn K (.ref fStretch___repr__) = true
  kStretch___repr__ : PySem.W.keepIn K (.ref fStretch___repr__) = true
theorem kb_joined_1 {K : PySem.W.Frag} {mg : Str → Option Value} {base : Heap} (T : Ev K mg base) : ∃ its : List Value, KBn K T.fdjoined ["some", "apart"] 1 [] (fun us ws => pickL (us ++ its ++ ws) [0, 1]) (fun vs zs => pickL (vs ++ [.int 0] ++ zs) [0, 1]) :=
  kbD T.Fjoined 1 [] [0, 1] (by intro z; cases z) fun _ _ _ _ _ _ _ us its ws h1 h2 h3 => match us, its, ws, h1, h2, h3 with | [_], [_], [], _, _, _ => ⟨_, rfl, rfl⟩
theorem kb_Stretch___init___3 {K : PySem.W.Frag} {mg : Str → Option Value} {base : Heap} (T : Ev K mg base) : ∃ its : List Value, KBn K T.fdStretch___init__ ["self", "first", "behind"] 3 [] (fun us ws => pickL (us ++ its ++ ws) [0, 1, 2]) (fun vs zs => pickL (vs ++ [.non] ++ zs) [0, 1, 2]) :=
  kbD T.FStretch___init__ 3 [] [0, 1, 2] (by intro z; cases z) fun _ _ _ _ _ _ _ us its ws h1 h2 h3 => match us, its, ws, h1, h2, h3 with | [_, _, _], [_], [], _, _, _ => ⟨_, rfl, rfl⟩
theorem kb_joined_2 {K : PySem.W.Frag} {mg : Str → Option Value} {base : Heap} (T : Ev K mg base) : ∃ its : List Value, KBn K T.fdjoined ["some", "apart"] 2 [] (fun us ws => pickL (us ++ its ++ ws) [0, 1]) (fun vs zs => pickL (vs ++ [.int 0] ++ zs) [0, 1]) :=
  kbD T.Fjoined 2 [] [0, 1] (by intro z; cases z) fun _ _ _ _ _ _ _ us its ws h1 h2 h3 => match us, its, ws, h1, h2, h3 with | [_, _], [_], [], _, _, _ => ⟨_, rfl, rfl⟩
theorem cl_Stretch {K : PySem.W.Frag} {mg : Str → Option Value} {base : Heap} (T : Ev K mg base) : Cls K T.CStretch := ⟨T.pgStretch, T.hdStretch, T.poStretch, T.saStretch⟩
theorem mt_Stretch___init__ {K : PySem.W.Frag} {mg : Str → Option Value} {base : Heap} (T : Ev K mg base) : Meth K T.CStretch "__init__" T.fStretch___init__ := ⟨T.aStretch___init__, T.iStretch___init__, T.kStretch___init__⟩
theorem mk_Stretch {K : PySem.W.Frag} {mg : Str → Option Value} {base : Heap} (T : Ev K mg base) : Mk K T.CStretch T.fStretch___init__ := ⟨T.mkStretch, T.aStretch___init__, T.iStretch___init__, T.kcStretch⟩
theorem mt_Stretch___eq__ {K : PySem.W.Frag} {mg : Str → Option Value} {base : Heap} (T : Ev K mg base) : Meth K T.CStretch "__eq__" T.fStretch___eq__ := ⟨T.aStretch___eq__, T.iStretch___eq__, T.kStretch___eq__⟩
theorem mt_Stretch___len__ {K : PySem.W.Frag} {mg : Str → Option Value} {base : Heap} (T : Ev K mg base) : Meth K T.CStretch "__len__" T.fStretch___len__ := ⟨T.aStretch___len__, T.iStretch___len__, T.kStretch___len__⟩
theorem mt_Stretch___str__ {K : PySem.W.Frag} {mg : Str → Option Value} {base : Heap} (T : Ev K mg base) : Meth K T.CStretch "__str__" T.fStretch___str__ := ⟨T.aStretch___str__, T.iStretch___str__, T.kStretch___str__⟩
theorem mt_Stretch___repr__ {K : PySem.W.Frag} {mg : Str → Option Value} {base : Heap} (T : Ev K mg base) : Meth K T.CStretch "__repr__" T.fStretch___repr__ := ⟨T.aStretch___repr__, T.iStretch___repr__, T.kStretch___repr__⟩
def TT {K : PySem.W.Frag} {mg : Str → Option Value} {base : Heap} (T : Ev K mg base) : List (Addr × Str) := [(T.cpjoined, ("joined" ++ ".<locals>." ++ "<lambda>")), (T.cplaw, ("law" ++ ".<locals>." ++ "<lambda>"))]
theorem tt_in_joined {K : PySem.W.Frag} {mg : Str → Option Value} {base : Heap} (T : Ev K mg base) : (T.cpjoined, (("joined" ++ ".<locals>." ++ "<lambda>") : Str)) ∈ TT T := by simp [TT]
theorem tt_one_joined {K : PySem.W.Frag} {mg : Str → Option Value} {base : Heap} (T : Ev K mg base) : ∀ p ∈ TT T, p.1 = T.cpjoined → p.2 = (("joined" ++ ".<locals>." ++ "<lambda>") : Str) := by
  intro p hp e
  unfold TT at hp
  simp only [List.mem_cons, List.not_mem_nil, or_false] at hp
  rcases hp with rfl | rfl
  · rfl
  · exact absurd e.symm T.ncjoined_law
theorem tt_in_law {K : PySem.W.Frag} {mg : Str → Option Value} {base : Heap} (T : Ev K mg base) : (T.cplaw, (("law" ++ ".<locals>." ++ "<lambda>") : Str)) ∈ TT T := by simp [TT]
theorem tt_one_law {K : PySem.W.Frag} {mg : Str → Option Value} {base : Heap} (T : Ev K mg base) : ∀ p ∈ TT T, p.1 = T.cplaw → p.2 = (("law" ++ ".<locals>." ++ "<lambda>") : Str) := by
  intro p hp e
  unfold TT at hp
  simp only [List.mem_cons, List.not_mem_nil, or_false] at hp
  rcases hp with rfl | rfl
  · exact absurd e T.ncjoined_law
  · rfl
/-! ### the tape, by what is known of the names -/
section
variable {P : Program} {w : World} {K : PySem.W.Frag} {mg : Str → Option Value} {base : Heap} (T : Ev K mg base)
theorem ok_law_draw : FnOk P w K mg base CX0 1 T.f_law_draw T.fd_law_draw ["_law_tape_here", "_law_many"] spDraw := ok_draw T.F_law_draw ⟨T.mlen⟩
theorem ok_law_pick : FnOk P w K mg base CX0 2 T.f_law_pick T.fd_law_pick ["_law_tape_here", "_law_some"] spPick := ok_pick T.F_law_pick ⟨T.mlen⟩ T.F_law_draw T.g_law_draw T.b_law_draw
theorem ok_law_tape : FnOk P w K mg base CX0 1 T.f_law_tape T.fd_law_tape ["_law_script"] (spTape K) := ok_tape T.F_law_tape ⟨T.mlen⟩
end
theorem dr {H : Hp} {F c : Addr} (b : Int) {n : Nat} {Q : VK} {E : XK} (hT : Tape H F c n) (b0 : 0 < b) (b1 : b < 1073741824) (hn : n < 1000000)
    (q : ∀ d H', 0 ≤ d → d < b → Tape H' F c (n + 1) → Keep F H H' → Q (.int d) H') : spDraw [.ref F, .int b] H Q E := ⟨F, c, b, n, rfl, b0, b1, hn, hT, q⟩
theorem pk {H : Hp} {F c p : Addr} {xs : List V} {n : Nat} {Q : VK} {E : XK} (hT : Tape H F c n) (hp : H p = some (.lst xs)) (ne : p ≠ F) (l0 : 0 < xs.length) (l1 : xs.length < 1000000) (hn : n < 1000000)
    (q : ∀ x H', x ∈ xs → Tape H' F c (n + 1) → Keep F H H' → Q x H') : spPick [.ref F, .ref p] H Q E := ⟨F, c, p, xs, n, rfl, hp, ne, l0, l1, hn, hT, fun _ x H' e => q x H' (List.mem_of_getElem? e)⟩
/-- of a list that is written there -/
theorem pkn {H : Hp} {F c : Addr} {xs : List V} {n : Nat} {Q : VK} {E : XK} (hT : Tape H F c n) (l0 : 0 < xs.length) (l1 : xs.length < 1000000) (hn : n < 1000000)
    (q : ∀ x H', x ∈ xs → Tape H' F c (n + 1) → Keep F H H' → Q x H') : ∀ p, H p = none → spPick [.ref F, .ref p] (upd H p (.lst xs)) Q E := fun p hp =>
  pk (hT.new hp) upd_same (hT.ne hp) l0 l1 hn fun x H' m t k => q x H' m t ((Keep.refl.new hp).trans k)
theorem Tape.tape {H : Hp} {F c : Addr} {n : Nat} (h : Tape H F c n) : ∃ ys, H F = some (.lst ys) := by
  obtain ⟨t, r, ns, h1, _⟩ := h.ex
  exact ⟨_, h1⟩
/-- a place that was free ahead of all that is kept -/
theorem Keep.free {F : Addr} {H H' : Hp} {p : Addr} (k : Keep F H H') (hp : H' p = none) (ne : p ≠ F) : H p = none := by
  cases e : H p with
  | none => rfl
  | some o => have := k p o ne e; rw [hp] at this; cases this
theorem emp (x : Str) : Str.empty ++ x = x := ext_tl (by show (Str.empty ++ x).cps.toList = _; rw [Str.cps_append]; simp [Str.empty])
theorem tl_app (x y : Str) : tl (x ++ y) = tl x ++ tl y := by unfold tl; rw [Str.cps_append]; simp
/-- texts of at most m small letters -/
def LowN (m : Nat) (z : Str) : Prop := z.length ≤ m ∧ ∀ c ∈ tl z, 97 ≤ c ∧ c ≤ 122
theorem tl_cut (z : Str) (lo hi : Option Int) : tl (cutS z lo hi) = ((tl z).drop (HT.sIx z.length 0 lo)).take (HT.sIx z.length z.length hi - HT.sIx z.length 0 lo) := by
  unfold tl cutS; simp
theorem cut_low {m : Nat} {z : Str} {lo hi : Option Int} (h : LowN m z) : LowN m (cutS z lo hi) := by
  refine ⟨?_, fun c hc => ?_⟩
  · have := TL.len_tl (cutS z lo hi)
    have h2 := TL.len_tl z
    rw [this, tl_cut, List.length_take, List.length_drop]
    have := h.1
    omega
  · rw [tl_cut] at hc
    exact h.2 c (List.mem_of_mem_drop (List.mem_of_mem_take hc))
theorem app_low {m k : Nat} {y z : Str} (h : LowN m y) (h2 : LowN k z) : LowN (m + k) (y ++ z) := by
  refine ⟨by rw [Str.length_append]; exact Nat.add_le_add h.1 h2.1, fun c hc => ?_⟩
  rw [tl_app] at hc
  rcases List.mem_append.mp hc with hc | hc
  · exact h.2 c hc
  · exact h2.2 c hc
theorem one_low {c : Nat} (h : 97 ≤ c ∧ c ≤ 122) : LowN 1 ⟨#[c]⟩ := ⟨Nat.le_refl _, fun d hd => by
  have : d = c := by simpa [tl] using hd
  rw [this]; exact h⟩
theorem join_low : ∀ ys : List Str, (∀ y ∈ ys, LowN 1 y ∧ y.length = 1) → (TL.joinL [] (ys.map tl)).length = ys.length ∧ ∀ c ∈ TL.joinL [] (ys.map tl), 97 ≤ c ∧ c ≤ 122
  | [], _ => ⟨rfl, fun c hc => by cases hc⟩
  | [y], h => by
    have hy := h y List.mem_cons_self
    exact ⟨by show (tl y).length = 1; rw [← TL.len_tl]; exact hy.2, hy.1.2⟩
  | y :: z :: r, h => by
    have hy := h y List.mem_cons_self
    obtain ⟨i1, i2⟩ := join_low (z :: r) fun w hw => h w (List.mem_cons_of_mem _ hw)
    refine ⟨?_, fun c hc => ?_⟩
    · show (tl y ++ ([] ++ TL.joinL [] ((z :: r).map tl))).length = (z :: r).length + 1
      rw [List.length_append, List.nil_append, i1, ← TL.len_tl, hy.2]
      omega
    · have hc' : c ∈ tl y ++ ([] ++ TL.joinL [] ((z :: r).map tl)) := hc
      rw [List.nil_append] at hc'
      rcases List.mem_append.mp hc' with hc' | hc'
      · exact hy.1.2 c hc'
      · exact i2 c hc'
theorem base_low {ys : List Str} (h : ∀ y ∈ ys, LowN 1 y ∧ y.length = 1) : LowN ys.length (Txt.join Str.empty ys) ∧ (Txt.join Str.empty ys).length = ys.length := by
  obtain ⟨a, b⟩ := join_low ys h
  have e : tl (Txt.join Str.empty ys) = TL.joinL [] (ys.map tl) := by rw [TL.join_eq, TL.tl_join]; rfl
  have l : (Txt.join Str.empty ys).length = ys.length := by rw [TL.len_tl, e, a]
  exact ⟨⟨Nat.le_of_eq l, fun c hc => b c (by rw [← e]; exact hc)⟩, l⟩
theorem letter : ∀ j : Nat, j < 26 → ∃ c, (tl "abcdefghijklmnopqrstuvwxyz")[j]? = some c ∧ 97 ≤ c ∧ c ≤ 122 := by
  have : ∀ j : Nat, j < 26 → (tl "abcdefghijklmnopqrstuvwxyz")[j]? = some (97 + j) := by decide +kernel
  intro j h
  exact ⟨_, this j h, by omega, by omega⟩
theorem LowN.mono {m k : Nat} {z : Str} (h : LowN m z) (l : m ≤ k) : LowN k z := ⟨Nat.le_trans h.1 l, h.2⟩
theorem letter_at {j : Nat} (h : j < 26) : (tl "abcdefghijklmnopqrstuvwxyz")[j]? = some (97 + j) := by
  have : ∀ j : Nat, j < 26 → (tl "abcdefghijklmnopqrstuvwxyz")[j]? = some (97 + j) := by decide +kernel
  exact this j h
theorem cut_before_len {z : Str} {t : Nat} (h : t < z.length) : (tl (cutS z none (some (t : Int)))).length = t := by
  have lz := TL.len_tl z
  rw [tl_cut, HT.sIx_none, show HT.sIx z.length z.length (some (t : Int)) = min t z.length from HT.sIx_nat z.length _ t, List.length_take, List.length_drop]
  omega
theorem cut_before {m : Nat} {z : Str} {t : Nat} (h : LowN m z) (ht : t < z.length) : LowN t (cutS z none (some (t : Int))) :=
  ⟨by rw [TL.len_tl]; exact Nat.le_of_eq (cut_before_len ht), (cut_low h).2⟩
theorem cut_after {m : Nat} {z : Str} {t : Nat} (h : LowN m z) (ht : t < z.length) : LowN (z.length - (t + 1)) (cutS z (some ((t : Int) + 1)) none) := by
  refine ⟨?_, (cut_low h).2⟩
  have lz := TL.len_tl z
  rw [TL.len_tl, tl_cut, HT.sIx_none, show HT.sIx z.length 0 (some ((t : Int) + 1)) = min (t + 1) z.length from HT.sIx_nat z.length _ (t + 1), List.length_take, List.length_drop]
  omega
theorem cut_from {xs : List V} {t : Nat} (h : t ≤ xs.length) : cutV xs (some (t : Int)) none = xs.drop t := by
  unfold cutV
  rw [show HT.sIx xs.length 0 (some (t : Int)) = min t xs.length from HT.sIx_nat xs.length 0 t, HT.sIx_none, Nat.min_eq_left h]
  exact List.take_of_length_le (by rw [List.length_drop]; exact Nat.le_refl _)
theorem cut_to {xs : List V} {t : Nat} (h : t ≤ xs.length) : cutV xs none (some (t : Int)) = xs.take t := by
  unfold cutV
  rw [HT.sIx_none, show HT.sIx xs.length xs.length (some (t : Int)) = min t xs.length from HT.sIx_nat xs.length _ t, Nat.min_eq_left h]
  show (xs.drop 0).take (t - 0) = _
  rw [Nat.sub_zero]; rfl
/-! ### data: of what depth, and how long its text -/
structure OkD (d : PyData) (k m : Nat) : Prop where
  lay : d.canLay0 = true
  dep : d.depth ≤ k
  sho : d.showable = true
  len : d.shown.length ≤ m
theorem logs {i : Int} (h : i.natAbs < 10000000000) : i.natAbs.log2 < 1920 := by
  by_cases z : i.natAbs = 0
  · rw [z]; decide
  · exact (Nat.log2_lt z).mpr (Nat.lt_of_lt_of_le h (Nat.le_trans (show 10000000000 ≤ 2 ^ 64 by decide) (Nat.pow_le_pow_right (by decide) (by decide : 64 ≤ 1920))))
theorem small10 {i : Int} (h : i.natAbs < 10000000000) : (Str.ofString (toString i)).length ≤ 11 := by
  have := PySem.int_text_length_le10 (a := i) (k := 10) (by decide) h
  rw [PySem.ofString_length]
  exact this
theorem okd_none : OkD .none 0 4 := ⟨by simp [PyData.canLay0], by simp [PyData.depth], by simp [PyData.showable], by rw [PyData.shown]; decide⟩
theorem okd_bool (b : Bool) : OkD (.bool b) 0 5 := ⟨by simp [PyData.canLay0], by simp [PyData.depth], by simp [PyData.showable], by rw [PyData.shown]; cases b <;> decide⟩
theorem okd_int {i : Int} (h : i.natAbs < 10000000000) : OkD (.int i) 0 11 := ⟨by simp [PyData.canLay0], by simp [PyData.depth], by simp [PyData.showable, logs h], by rw [PyData.shown]; exact small10 h⟩
theorem okd_str {x : Str} {n : Nat} (h : PyData.strOk x = true) (l : x.length ≤ n) : OkD (.str x) 0 (10 * n + 2) := by
  refine ⟨by simp [PyData.canLay0, h], by simp [PyData.depth], by simp [PyData.showable], ?_⟩
  rw [PyData.shown]
  refine Nat.le_trans (PySem.StrLaws.reprText_len x fun c hc => ?_) (by omega)
  unfold PyData.strOk at h
  have := Array.all_eq_true_iff_forall_mem.mp h c (by simpa using hc)
  exact Nat.lt_trans (of_decide_eq_true this) (by decide)
theorem OkD.mono {d : PyData} {k m k' m' : Nat} (h : OkD d k m) (a : k ≤ k') (b : m ≤ m') : OkD d k' m' := ⟨h.lay, Nat.le_trans h.dep a, h.sho, Nat.le_trans h.len b⟩
theorem okd_all {k m : Nat} : ∀ ds : List PyData, (∀ d ∈ ds, OkD d k m) → PyData.canLayAll0 ds = true ∧ PyData.depthAll ds ≤ k ∧ PyData.showableAll ds = true ∧ piled (PyData.shownAll ds) ≤ ds.length * (m + 2)
  | [], _ => ⟨by simp [PyData.canLayAll0], by simp [PyData.depthAll], by simp [PyData.showableAll], by simp [PyData.shownAll, piled_nil]⟩
  | d :: ds, h => by
    have h1 := h d List.mem_cons_self
    obtain ⟨a, b, c, e⟩ := okd_all ds fun x hx => h x (List.mem_cons_of_mem _ hx)
    refine ⟨by simp [PyData.canLayAll0, h1.lay, a], ?_, by simp [PyData.showableAll, h1.sho, c], ?_⟩
    · have := h1.dep
      simp only [PyData.depthAll]; omega
    · have := h1.len
      rw [PyData.shownAll, piled_cons, List.length_cons, Nat.add_mul]; omega
theorem list_text : ∀ ts : List Str, (listText ts).length ≤ piled ts + 2
  | [] => by decide
  | t :: r => by
    have h := textFrom_length_pos r 1 (("[" : Str) ++ (if (0 : Nat) > 0 then ", " else "" : String) ++ t) (Nat.succ_pos 0)
    have e : ((("[" : Str) ++ (if (0 : Nat) > 0 then ", " else "" : String) ++ t)).length = 1 + t.length := by rw [Str.length_append, Str.length_append]; rfl
    have x1 : (listText (t :: r)).length = (textFrom 0 "[" (t :: r)).length + 1 := by show (textFrom 0 "[" (t :: r) ++ "]").length = _; rw [Str.length_append]; rfl
    have x2 : (textFrom 0 "[" (t :: r)).length = (textFrom 1 (("[" : Str) ++ (if (0 : Nat) > 0 then ", " else "" : String) ++ t) r).length := rfl
    rw [x1, x2, h, e, piled_cons]; omega
theorem okd_tup {k m n : Nat} {ds : List PyData} (h : ∀ d ∈ ds, OkD d k m) (l : ds.length ≤ n) : OkD (.tuple ds) (k + 1) (n * (m + 2) + 2) := by
  obtain ⟨a, b, c, e⟩ := okd_all ds h
  refine ⟨by simp only [PyData.canLay0]; exact a, by simp only [PyData.depth]; omega, by simp only [PyData.showable]; exact c, ?_⟩
  rw [PyData.shown]
  have := PySem.fmt_text (PyData.shownAll ds)
  have := Nat.mul_le_mul_right (m + 2) l
  omega
theorem okd_lst {k m n : Nat} {ds : List PyData} (h : ∀ d ∈ ds, OkD d k m) (l : ds.length ≤ n) : OkD (.list ds) (k + 1) (n * (m + 2) + 2) := by
  obtain ⟨a, b, c, e⟩ := okd_all ds h
  refine ⟨by simp only [PyData.canLay0]; exact a, by simp only [PyData.depth]; omega, by simp only [PyData.showable]; exact c, ?_⟩
  rw [PyData.shown]
  have := list_text (PyData.shownAll ds)
  have := Nat.mul_le_mul_right (m + 2) l
  omega
theorem okd_map {α : Type} {k m n : Nat} {f : α → PyData} {l : List α} (h : ∀ x ∈ l, OkD (f x) k m) (e : l.length ≤ n) : OkD (.list (l.map f)) (k + 1) (n * (m + 2) + 2) :=
  okd_lst (fun d hd => by obtain ⟨x, hx, rfl⟩ := List.mem_map.mp hd; exact h x hx) (by rw [List.length_map]; exact e)
theorem OkD.shaped {d : PyData} {k m : Nat} (h : OkD d k m) (a : k ≤ 64 := by decide) : SeqAt.shaped d = true := by
  show (d.canLay0 && decide (d.depth ≤ 64)) = true
  rw [h.lay, decide_eq_true (Nat.le_trans h.dep a)]; rfl
theorem OkD.line {d : PyData} {k m : Nat} (h : OkD d k m) (a : m ≤ 100000 := by decide) : d.shown.length ≤ sizeLine := le_line (Nat.le_trans h.len a)
theorem OkD.refl {d : PyData} {k m : Nat} (h : OkD d k m) : PyData.eqv d d = true := SeqAt.eqv_refl _ h.lay
/-- repr of such data -/
theorem OkD.rep {K : PySem.W.Frag} {H : Hp} {v : V} {d : PyData} {k m : Nat} {Q : VK} (h : OkD d k m) (hd : Dp K H v d) (q : Q (.str d.shown) H) (a : k ≤ 64 := by decide) (b : m ≤ 100000 := by decide) : rReprD K [v] H Q :=
  ⟨v, d, rfl, hd, h.shaped a, h.sho, h.line b, q⟩
/-- a thing is not other than itself -/
theorem ne_self {α : Type} [DecidableEq α] (x : α) : (!decide (x = x)) = false := by rw [decide_eq_true rfl]; rfl
theorem OkD.same {K : PySem.W.Frag} {H : Hp} {u v : V} {d : PyData} {k m : Nat} {Q : VK} (h : OkD d k m) (hu : Dp K H u d) (hv : Dp K H v d) (q : Q (.bl true) H) (a : k ≤ 64 := by decide) : rEqD K u v H Q :=
  ⟨d, d, hu, hv, h.shaped a, h.shaped a, by rw [h.refl]; exact q⟩
theorem OkD.not {K : PySem.W.Frag} {H : Hp} {u v : V} {d : PyData} {k m : Nat} {Q : VK} (h : OkD d k m) (hu : Dp K H u d) (hv : Dp K H v d) (q : Q (.bl false) H) (a : k ≤ 64 := by decide) : rNeD K u v H Q :=
  ⟨d, d, hu, hv, h.shaped a, h.shaped a, by rw [h.refl]; exact q⟩
theorem low_strOk {m : Nat} {z : Str} (h : LowN m z) : PyData.strOk z = true := by
  unfold PyData.strOk
  rw [Array.all_eq_true_iff_forall_mem]
  intro c hc
  have := h.2 c (by simpa [tl] using hc)
  exact decide_eq_true (by omega)
set_option maxHeartbeats 8000000
local macro_rules | `(tactic| walk_at "c") => `(tactic| first | omega | decide | exact ⟨by omega, by omega⟩ | exact ⟨by decide, by decide⟩ | exact .inl ⟨by omega, by omega⟩ | exact .inr ⟨by omega, by omega⟩ | exact ⟨by omega, by omega, by omega⟩ | exact ⟨by decide, by decide, by decide⟩ | exact le_line (Nat.le_of_ble_eq_true rfl))
local macro_rules | `(tactic| walk_at "a") => `(tactic| with_reducible (first | refine i_seq ?_ | refine i_asg ?_ | refine i_cons ?_ | refine i_c ?_ | refine i_nil ?_ | refine i_op ?_ | refine i_call ?_ | refine i_cb ?_ | refine i_name ?_ | refine i_next ?_ | refine i_ret ?_ | refine i_drop ?_ | refine i_if ?_ | refine i_test ?_ | refine i_and ?_ | refine i_or ?_ | refine i_not ?_ | refine i_ite ?_ | refine i_lst ?_ | refine i_tup ?_ | refine i_bm ?_ | refine i_un ?_ | refine i_par ?_ | refine i_gsub ?_ | refine i_chain ?_ | refine i_sl ?_ | refine i_nopart ?_ | refine i_part ?_ | refine i_m1 ?_ | refine i_m0 ?_ | refine i_lc ?_ | refine i_iList ?_ | refine i_iTup ?_ | refine i_iStr ?_ | refine i_r1 ?_ | refine i_set ?_ | refine i_callk ?_ | refine i_callN ?_ | refine i_ckw ?_ | refine i_revL ?_ | refine i_tB ?_ | refine i_fld ?_ | refine i_sfld ?_ | refine i_make ?_ | refine i_makeN ?_ | refine i_meth ?_ | refine i_andV ?_ | refine i_orV ?_ | refine i_notV ?_ | refine iteT ?_ | refine iteF ?_ | refine i_yes ?_))
local macro_rules | `(tactic| walk_at "s") => `(tactic| repeat (first | walk_at "a" | refine i_var rfl ?_ | refine i_aug rfl ?_ | refine And.intro ⟨_, rfl⟩ ?_ | refine ⟨_, rfl, ?_⟩ | refine ⟨_, _, rfl, rfl, ?_⟩ | refine ⟨_, _, rfl, ?_⟩ | refine ⟨rfl, ?_⟩ | refine And.intro (by walk_at "c") ?_))
/-! ### a Stretch -/
theorem fb : ¬ (("first" : Str) = "behind") := by decide +kernel
def strF (a b : Int) : List (Str × V) := putF "behind" (.int b) (putF "first" (.int a) [])
theorem strF_first (a b : Int) : (strF a b).lookup ("first" : Str) = some (.int a) := by
  unfold strF
  rw [lookup_putF, if_neg fb, lookup_putF, if_pos rfl]
theorem strF_behind (a b : Int) : (strF a b).lookup ("behind" : Str) = some (.int b) := by
  unfold strF
  rw [lookup_putF, if_pos rfl]
/-- a Stretch of these minutes stands at p -/
def StrAt (C : Addr) (H : Hp) (p : Addr) (a b : Int) : Prop := ∃ dx, H p = some (.ins C dx (strF a b))
theorem StrAt.same {C : Addr} {H H' : Hp} {p : Addr} {a b : Int} (h : StrAt C H p a b) (s : Same H H') : StrAt C H' p a b := by
  obtain ⟨dx, e⟩ := h; exact ⟨dx, s _ _ e⟩
theorem StrAt.sm {TT : List (Addr × Str)} {C : Addr} {H H' : Hp} {p : Addr} {a b : Int} (h : StrAt C H p a b) (s : Sm TT H H') : StrAt C H' p a b := by
  obtain ⟨dx, e⟩ := h; exact ⟨dx, s.at e⟩
theorem StrAt.keep {C T : Addr} {ys : List V} {H H' : Hp} {p : Addr} {a b : Int} (h : StrAt C H p a b) (hT : H T = some (.lst ys)) (s : Keep T H H') : StrAt C H' p a b := by
  obtain ⟨dx, e⟩ := h; exact ⟨dx, s _ _ (ne_of e hT (by intro z; cases z)) e⟩
/-- Stretch objects, one by one -/
def StrsAt (C : Addr) (H : Hp) (xs : List V) (ps : List (Int × Int)) : Prop := Paired (fun x q => ∃ p, x = V.ref p ∧ StrAt C H p q.1 q.2) xs ps
theorem StrsAt.mono {C : Addr} {H H' : Hp} (f : ∀ p a b, StrAt C H p a b → StrAt C H' p a b) {xs : List V} {ps : List (Int × Int)} (h : StrsAt C H xs ps) : StrsAt C H' xs ps := by
  unfold StrsAt at h ⊢
  induction h with
  | nil => exact .nil
  | cons a _ ih =>
    obtain ⟨p, e, h⟩ := a
    exact .cons ⟨p, e, f _ _ _ h⟩ ih
theorem StrsAt.same {C : Addr} {H H' : Hp} {xs : List V} {ps : List (Int × Int)} (h : StrsAt C H xs ps) (s : Same H H') : StrsAt C H' xs ps := h.mono fun _ _ _ z => z.same s
theorem StrsAt.sm {TT : List (Addr × Str)} {C : Addr} {H H' : Hp} {xs : List V} {ps : List (Int × Int)} (h : StrsAt C H xs ps) (s : Sm TT H H') : StrsAt C H' xs ps := h.mono fun _ _ _ z => z.sm s
/-- a list is none of them -/
theorem StrsAt.upd {C : Addr} {H : Hp} {f : Addr} {ys : List V} {o : HO} {xs : List V} {ps : List (Int × Int)} (h : StrsAt C H xs ps) (hf : H f = some (.lst ys)) : StrsAt C (upd H f o) xs ps := h.mono fun _ _ _ ⟨dx, e⟩ => ⟨dx, by rw [upd_ne (ne_of e hf (by intro z; cases z))]; exact e⟩
theorem StrsAt.len {C : Addr} {H : Hp} {xs : List V} {ps : List (Int × Int)} (h : StrsAt C H xs ps) : xs.length = ps.length := Paired.length h
theorem paired_at {α β : Type} {R : α → β → Prop} : ∀ {l : List α} {m : List β} {i : Nat} {x : α}, Paired R l m → l[i]? = some x → ∃ y, m[i]? = some y ∧ R x y
  | _, _, _, _, .nil, e => by cases e
  | _, _, 0, _, .cons a _, e => by cases e; exact ⟨_, rfl, a⟩
  | _, _, i + 1, _, .cons _ r, e => paired_at (i := i) r e
theorem paired_app {α β : Type} {R : α → β → Prop} : ∀ {l l' : List α} {m m' : List β}, Paired R l m → Paired R l' m' → Paired R (l ++ l') (m ++ m')
  | _, _, _, _, .nil, h => h
  | _, _, _, _, .cons a r, h => .cons a (paired_app r h)
theorem paired_rev {α β : Type} {R : α → β → Prop} : ∀ {l : List α} {m : List β}, Paired R l m → Paired R l.reverse m.reverse
  | _, _, .nil => .nil
  | _, _, .cons a r => by
    rw [List.reverse_cons, List.reverse_cons]
    exact paired_app (paired_rev r) (.cons a .nil)
theorem StrsAt.at {C : Addr} {H : Hp} {xs : List V} {ps : List (Int × Int)} (h : StrsAt C H xs ps) {i : Nat} {x : V} (e : xs[i]? = some x) : ∃ p a b, x = .ref p ∧ ps[i]? = some (a, b) ∧ StrAt C H p a b := by
  obtain ⟨⟨a, b⟩, h1, p, rfl, h2⟩ := paired_at h e
  exact ⟨p, a, b, rfl, h1, h2⟩
theorem StrsAt.snoc {C : Addr} {H : Hp} {xs : List V} {ps : List (Int × Int)} {p : Addr} {a b : Int} (h : StrsAt C H xs ps) (hp : StrAt C H p a b) : StrsAt C H (xs ++ [.ref p]) (ps ++ [(a, b)]) := paired_app h (.cons ⟨p, rfl, hp⟩ .nil)
theorem made_same {H H' : Hp} {x dx : Addr} {o1 o2 : HO} (hx : H x = none) (hdx : H dx = none) (k : ∀ y o, y ≠ x → (upd (upd H dx o1) x o2) y = some o → H' y = some o) : Same H H' := fun y o e =>
  k y o (ne_of_none e hx) (by rw [upd_ne (ne_of_none e hx), upd_ne (ne_of_none e hdx)]; exact e)
def spSInit (C : Addr) : Sp := fun vs H Q _ => ∃ (p dx : Addr) (a b : Int) (y : V), vs = [.ref p, .int a, y] ∧ (y = .int b ∨ y = .non ∧ b = a + 1) ∧ a ≤ b ∧ H p = some (.ins C dx []) ∧ ∀ H', StrAt C H' p a b → (∀ x o, x ≠ p → H x = some o → H' x = some o) → Q .non H'
theorem mkStr {C : Addr} {H : Hp} {a b : Int} {y : V} {Q : VK} {E : XK} {gV : List V → List V → List V} {vs zs : List V} (hy : y = .int b ∨ y = .non ∧ b = a + 1) (hab : a ≤ b) (q : ∀ x H', H x = none → StrAt C H' x a b → Same H H' → Q (.ref x) H')
    (hv : ∀ x, gV (.ref x :: vs) zs = [.ref x, .int a, y] := by intro _; rfl) : rMkN C (spSInit C) gV E vs zs H Q := fun x dx hx hd ne =>
  ⟨x, dx, a, b, y, hv x, hy, hab, upd_same, fun H' e k => ⟨rfl, q x H' hx e (made_same hx hd k)⟩⟩
def spSEq (K : PySem.W.Frag) (C : Addr) : Sp := fun vs H Q _ => ∃ (p : Addr) (y : V) (a b : Int), vs = [.ref p, y] ∧ StrAt C H p a b ∧
  ((∃ q c d, y = .ref q ∧ StrAt C H q c d ∧ Q (.bl (decide (a = c) && decide (b = d))) H) ∨ (∃ t, TyX K H y t ∧ PySem.W.kitOne K t (.ref C) = some false ∧ Q (.bl false) H))
def spSLen (C : Addr) : Sp := fun vs H Q _ => ∃ (p : Addr) (a b : Int), vs = [.ref p] ∧ StrAt C H p a b ∧ a ≤ b ∧ b - a < 2 ^ 62 ∧ Q (.int (b - a)) H
theorem kitC {K : PySem.W.Frag} {C : Addr} : PySem.W.kitOne K (.ref C) (.ref C) = some true := if_pos (beq_self_eq_true _)
section
variable {P : Program} {w : World} {K : PySem.W.Frag} {mg : Str → Option Value} {base : Heap} (T : Ev K mg base)
theorem i_first {H : Hp} {p : Addr} {a b : Int} {Q : VK} (h : StrAt T.CStretch H p a b) (q : Q (.int a) H) : rFld K "first" (.ref p) H Q := by
  obtain ⟨dx, e⟩ := h
  exact ⟨p, _, dx, _, _, rfl, e, cl_Stretch T, T.nStretch_first, strF_first _ _, q⟩
theorem i_behind {H : Hp} {p : Addr} {a b : Int} {Q : VK} (h : StrAt T.CStretch H p a b) (q : Q (.int b) H) : rFld K "behind" (.ref p) H Q := by
  obtain ⟨dx, e⟩ := h
  exact ⟨p, _, dx, _, _, rfl, e, cl_Stretch T, T.nStretch_behind, strF_behind _ _, q⟩
theorem isStr {H : Hp} {p : Addr} {a b : Int} (h : StrAt T.CStretch H p a b) : TyX K H (.ref p) (.ref T.CStretch) := by
  obtain ⟨dx, e⟩ := h
  exact .base (.ins e (cl_Stretch T) T.haStretch T.hnStretch T.htStretch T.hmStretch)
theorem okStretch___init__ : FnOk P w K mg base CX0 1 T.fStretch___init__ T.fdStretch___init__ ["self", "first", "behind"] (spSInit T.CStretch) := by
  refine T.FStretch___init__.okN scSInit (fun vs H Q E h => ?_) (fun cdv A outer s H vs Q E hr h => ?_)
  · obtain ⟨p, dx, a, b, y, rfl, _⟩ := h
    rfl
  · obtain ⟨p, dx, a, b, y, rfl, hy, hab, hp, q⟩ := h
    refine ⟨_,
      (pss_cut (ps_if (pt_cmpR op_isN (pv 2) pe_non (nomark _))
      (pss_one (ps_set (i := 2) scSInit.nd rfl (.inl rfl) (pe_op op_add (pv 1) pe_int)))
      pss_nil)
      (pss_cons (ps_if (pt_cmpR op_lt (pv 2) (pv 1) (nomark _))
      (pss_one ps_never)
      pss_nil)
      (pss_cons (ps_fld (pv 0) (pv 1) rfl)
      (pss_one (ps_fld (pv 0) (pv 2) rfl)))))
      , ?_⟩
    refine ⟨fun σ H2 => σ = [some (.ref p), some (.int a), some (.int b)] ∧ H2 = H, ?_, ?_⟩
    · rcases hy with rfl | ⟨rfl, rfl⟩
      · refine ⟨_, rfl, rfl, _, rfl, ite2 (fun d => absurd (of_decide_eq_true d) (by intro z; cases z)) (fun _ => ⟨rfl, rfl⟩)⟩
      · refine ⟨_, rfl, rfl, _, rfl, ite2 (fun _ => ?_) (fun d => absurd (decide_eq_true rfl) d)⟩
        exact ⟨_, rfl, _, _, rfl, rfl, rfl, rfl⟩
    rintro σ H2 ⟨rfl, rfl⟩
    refine ⟨_, rfl, _, rfl, _, _, rfl, rfl, _, rfl, ite2 (fun d => absurd (of_decide_eq_true d) (by omega)) (fun _ => ?_)⟩
    refine ⟨_, rfl, _, rfl, p, T.CStretch, dx, _, rfl, hp, cl_Stretch T, T.nStretch_first, (by show 0 < 1000; decide), ?_⟩
    refine ⟨_, rfl, _, rfl, p, T.CStretch, dx, _, rfl, upd_same, cl_Stretch T, T.nStretch_behind, (by show 1 < 1000; decide), ?_⟩
    exact q _ ⟨dx, upd_same⟩ fun x o n e => by rw [upd_ne n, upd_ne n]; exact e
theorem okStretch___len__ : FnOk P w K mg base CX0 1 T.fStretch___len__ T.fdStretch___len__ ["self"] (spSLen T.CStretch) := by
  refine T.FStretch___len__.ok scSLen (fun vs H Q E h => ?_) (fun cdv A outer s H vs Q E hr h => ?_)
  · obtain ⟨p, a, b, rfl, _⟩ := h
    rfl
  · obtain ⟨p, a, b, rfl, hp, h1, h2, q⟩ := h
    refine ⟨_, pss_one (ps_ret (pe_lenRg (by rfl) T.mlen (prg_2 (by rfl) T.mrange (pe_fld (pv 0) rfl) (pe_fld (pv 0) rfl)))), ?_⟩
    obtain ⟨dx, ep⟩ := id hp
    refine ⟨_, rfl, p, T.CStretch, dx, _, _, rfl, ep, cl_Stretch T, T.nStretch_first, strF_first a b, _, rfl, p, T.CStretch, dx, _, _, rfl, ep, cl_Stretch T, T.nStretch_behind, strF_behind a b, a, b, rfl, rfl, by omega, ?_⟩
    rw [show ((((b - a).toNat : Nat)) : Int) = b - a by omega]
    exact q
theorem okStretch___eq__ : FnOk P w K mg base CX0 1 T.fStretch___eq__ T.fdStretch___eq__ ["self", "other"] (spSEq K T.CStretch) := by
  refine T.FStretch___eq__.ok scSEq (fun vs H Q E h => ?_) (fun cdv A outer s H vs Q E hr h => ?_)
  · obtain ⟨p, y, a, b, rfl, _⟩ := h
    rfl
  · obtain ⟨p, y, a, b, rfl, hp, hy⟩ := h
    refine ⟨_,
      (pss_one (ps_ret (pe_and (pe_callB call_isi (by rfl) T.misinstance (by decide +kernel) (pa_cons (pv 1) (pa_cons (pe_glob (v := .ref T.CStretch) (by rfl) T.gCStretch rfl) pa_nil))) (pe_and (pe_cmpR op_eq (pe_fld (pv 0) rfl) (pe_fld (pv 1) rfl) (nomark _)) (pe_one (pe_cmpR op_eq (pe_fld (pv 0) rfl) (pe_fld (pv 1) rfl) (nomark _)))))))
      , ?_⟩
    obtain ⟨dx, ep⟩ := id hp
    rcases hy with ⟨r, c, d, rfl, hr', q⟩ | ⟨t, ty, hk, q⟩
    · obtain ⟨dy, er⟩ := id hr'
      refine ⟨_, rfl, _, _, _, _, true, rfl, .own T.CStretch, isStr T hr', kitC, true, rfl, ?_⟩
      refine ⟨_, rfl, p, T.CStretch, dx, _, _, rfl, ep, cl_Stretch T, T.nStretch_first, strF_first a b, _, rfl, r, T.CStretch, dy, _, _, rfl, er, cl_Stretch T, T.nStretch_first, strF_first c d, rfl, _, rfl, ?_⟩
      refine ite2 (fun c1 => ?_) (fun c1 => ?_)
      · have e1 : a = c := V.int.inj (of_decide_eq_true c1)
        refine ⟨_, rfl, p, T.CStretch, dx, _, _, rfl, ep, cl_Stretch T, T.nStretch_behind, strF_behind a b, _, rfl, r, T.CStretch, dy, _, _, rfl, er, cl_Stretch T, T.nStretch_behind, strF_behind c d, rfl, ?_⟩
        have z : (decide (a = c) && decide (b = d)) = decide (V.int b = V.int d) := by
          rw [decide_eq_true e1, Bool.true_and]
          exact decide_eq_decide.mpr ⟨fun e => congrArg V.int e, fun e => V.int.inj e⟩
        rw [z] at q
        exact q
      · have e1 : ¬ a = c := fun e => c1 (decide_eq_true (congrArg V.int e))
        rw [decide_eq_false e1, Bool.false_and] at q
        exact q
    · exact ⟨_, rfl, _, _, _, _, false, rfl, .own T.CStretch, ty, hk, false, rfl, q⟩
end
section
variable {K : PySem.W.Frag} {mg : Str → Option Value} {base : Heap} (T : Ev K mg base)
theorem neStr {H : Hp} {p q : Addr} {a b : Int} {Q : VK} (h1 : StrAt T.CStretch H p a b) (h2 : StrAt T.CStretch H q a b) (q0 : Q (.bl false) H) : rOwnY K T.CStretch (spSEq K T.CStretch) E0 QNot (.ref p) (.ref q) H Q := by
  obtain ⟨dx, e⟩ := id h1
  exact ⟨p, dx, _, _, rfl, e, isStr T h2, T.nfStretch, p, _, a, b, rfl, h1, .inl ⟨q, a, b, rfl, h2, _, rfl, by rw [decide_eq_true rfl, decide_eq_true rfl]; exact q0⟩⟩
end
/-! ### == of lists of them -/
section
variable {C : Addr} {K : PySem.W.Frag}
def RStr (C : Addr) : Addr → Addr → Bool → Hp → Prop := fun p q r H => ∃ a b c d, StrAt C H p a b ∧ StrAt C H q c d ∧ r = (decide (a = c) && decide (b = d))
theorem monStretch : MonB (DInsB C (RStr C)) := monB_ins fun p q r H H' e ⟨a, b, c, d, h1, h2, h3⟩ => ⟨a, b, c, d, h1.same e, h2.same e, h3⟩
theorem selfStretch (p : Addr) (r : Bool) (H : Hp) (h : RStr C p p r H) : r = true := by
  obtain ⟨a, b, c, d, ⟨dx, h1⟩, ⟨dy, h2⟩, h3⟩ := h
  rw [h1] at h2
  have e : strF a b = strF c d := by injection h2 with h2; injection h2
  have e1 := strF_first a b
  have e2 := strF_behind a b
  rw [e, strF_first] at e1
  rw [e, strF_behind] at e2
  cases e1
  cases e2
  rw [h3, decide_eq_true rfl, decide_eq_true rfl]; rfl
theorem hspStretch (p q : Addr) (r : Bool) (H : Hp) (Q : VK) (h : RStr C p q r H) (hq : ∀ H', Ext H H' → Q (.bl r) H') : spSEq K C [.ref p, .ref q] H Q E0 := by
  obtain ⟨a, b, c, d, h1, h2, h3⟩ := h
  exact ⟨p, _, a, b, rfl, h1, .inl ⟨q, c, d, rfl, h2, by rw [← h3]; exact hq H Ext.rfl'⟩⟩
/-- lists of them: alike just where their minutes are -/
theorem strs_eq {H : Hp} {p q : Addr} {xs ys : List V} {ps qs : List (Int × Int)} (hp : H p = some (.lst xs)) (hq : H q = some (.lst ys)) (h1 : StrsAt C H xs ps) (h2 : StrsAt C H ys qs) (e : ps = qs) : DListB (DInsB C (RStr C)) (.ref p) (.ref q) true H := by
  subst e
  have l1 := h1.len
  have l2 := h2.len
  refine ⟨p, q, xs, ys, rfl, rfl, hp, hq, .inr ⟨by omega, xs.length, Nat.le_refl _, (decide_eq_true rfl).symm, fun i x y hx hy hi => ?_⟩⟩
  have hlt : i < xs.length := (List.getElem?_eq_some_iff.mp hx).1
  obtain ⟨o, a, b, rfl, e1, o1⟩ := h1.at hx
  obtain ⟨o', c, d, rfl, e2, o2⟩ := h2.at hy
  rw [e1] at e2
  cases e2
  obtain ⟨dx, z1⟩ := id o1
  obtain ⟨dy, z2⟩ := id o2
  rw [decide_eq_true hlt]
  exact ⟨o, o', dx, dy, _, _, rfl, rfl, z1, z2, a, b, a, b, o1, o2, by rw [decide_eq_true rfl, decide_eq_true rfl]; rfl⟩
end
set_option maxHeartbeats 8000000
local macro_rules | `(tactic| walk_at "c") => `(tactic| first | omega | decide | exact ⟨by omega, by omega⟩ | exact ⟨by decide, by decide⟩ | exact .inl ⟨by omega, by omega⟩ | exact .inr ⟨by omega, by omega⟩ | exact ⟨by omega, by omega, by omega⟩ | exact ⟨by decide, by decide, by decide⟩ | exact le_line (Nat.le_of_ble_eq_true rfl))
local macro_rules | `(tactic| walk_at "a") => `(tactic| with_reducible (first | refine i_seq ?_ | refine i_asg ?_ | refine i_cons ?_ | refine i_c ?_ | refine i_nil ?_ | refine i_op ?_ | refine i_call ?_ | refine i_cb ?_ | refine i_name ?_ | refine i_next ?_ | refine i_ret ?_ | refine i_drop ?_ | refine i_if ?_ | refine i_test ?_ | refine i_and ?_ | refine i_or ?_ | refine i_not ?_ | refine i_ite ?_ | refine i_lst ?_ | refine i_tup ?_ | refine i_bm ?_ | refine i_un ?_ | refine i_par ?_ | refine i_gsub ?_ | refine i_chain ?_ | refine i_sl ?_ | refine i_nopart ?_ | refine i_part ?_ | refine i_m1 ?_ | refine i_m0 ?_ | refine i_lc ?_ | refine i_iList ?_ | refine i_iTup ?_ | refine i_iStr ?_ | refine i_r1 ?_ | refine i_set ?_ | refine i_callk ?_ | refine i_callN ?_ | refine i_ckw ?_ | refine i_revL ?_ | refine i_tB ?_ | refine i_fld ?_ | refine i_sfld ?_ | refine i_make ?_ | refine i_makeN ?_ | refine i_meth ?_ | refine i_andV ?_ | refine i_orV ?_ | refine i_notV ?_ | refine iteT ?_ | refine iteF ?_ | refine i_yes ?_))
local macro_rules | `(tactic| walk_at "s") => `(tactic| repeat (first | walk_at "a" | refine i_var rfl ?_ | refine i_aug rfl ?_ | refine And.intro ⟨_, rfl⟩ ?_ | refine ⟨_, rfl, ?_⟩ | refine ⟨_, _, rfl, rfl, ?_⟩ | refine ⟨_, _, rfl, ?_⟩ | refine ⟨rfl, ?_⟩ | refine And.intro (by walk_at "c") ?_))
/-! ### stretches put together -/
section
open SrtO (Swo)
open LamX (Tabs)
def lt1 (p q : Int × Int) : Bool := ltI p.1 q.1
theorem swo_lt1 : Swo lt1 := ⟨fun x y => swo_ltI.asym _ _, fun x y z => swo_ltI.tr _ _ _⟩
def full (ps : List (Int × Int)) : List (Int × Int) := ps.filter fun p => decide (p.1 < p.2)
/-- what joined tells -/
def jnd (ap : Int) (ps : List (Int × Int)) : List (Int × Int) := (mrgs ap (iSort lt1 (full ps))).reverse
theorem mrgs_succ {ap : Int} {l : List (Int × Int)} {i : Nat} {p : Int × Int} (h : l[i]? = some p) : mrgs ap (l.take (i + 1)) = mrg ap (mrgs ap (l.take i)) p := by
  unfold mrgs
  rw [List.take_succ, h, List.foldl_append]; rfl
theorem mrg_le {ap : Int} (acc : List (Int × Int)) (p : Int × Int) : (mrg ap acc p).length ≤ acc.length + 1 := by
  cases acc with
  | nil => exact Nat.le_refl _
  | cons q r =>
    unfold mrg
    dsimp only
    split
    · exact Nat.le_succ _
    · exact Nat.le_refl _
theorem mrgs_le {ap : Int} (l : List (Int × Int)) : (mrgs ap l).length ≤ l.length := by
  have go : ∀ (l acc : List (Int × Int)), (l.foldl (mrg ap) acc).length ≤ acc.length + l.length := by
    intro l
    induction l with
    | nil => intro acc; exact Nat.le_refl _
    | cons p r ih =>
      intro acc
      rw [List.foldl_cons, List.length_cons]
      have := ih (mrg ap acc p)
      have := mrg_le (ap := ap) acc p
      omega
  have := go l []
  unfold mrgs
  simpa using this
theorem full_mem {ps : List (Int × Int)} {p : Int × Int} (h : p ∈ full ps) : p ∈ ps ∧ p.1 < p.2 := by
  have := List.mem_filter.mp h
  exact ⟨this.1, of_decide_eq_true this.2⟩
theorem srt1 {l : List (Int × Int)} : (iSort lt1 l).Pairwise fun p q => p.1 ≤ q.1 :=
  (iSort_ok swo_lt1 l).1.imp fun {p q} h => by
    have : decide (q.1 < p.1) = false := h
    have := of_decide_eq_false this
    omega
/-- sorted by their first minutes -/
theorem byKeys_str {C : Addr} {H : Hp} {xs : List V} {ps : List (Int × Int)} (h : StrsAt C H xs ps) : StrsAt C H (byKeys ltI (ps.map (·.1)) xs) (iSort lt1 ps) := by
  unfold StrsAt at h ⊢
  have p : Paired (fun (a : Int × V) (q : Int × Int) => a.1 = q.1 ∧ ∃ p, a.2 = V.ref p ∧ StrAt C H p q.1 q.2) ((ps.map (·.1)).zip xs) ps := by
    induction h with
    | nil => exact .nil
    | cons a r ih => exact .cons ⟨rfl, a⟩ ih
  have q := iSort_two (lt := fun a b : Int × V => ltI a.1 b.1) (lt' := lt1) (fun a b a' b' h1 h2 => by unfold lt1; rw [h1.1, h2.1]) p
  unfold byKeys
  generalize iSort (fun a b : Int × V => ltI a.1 b.1) ((ps.map (·.1)).zip xs) = l at q
  generalize iSort lt1 ps = m at q
  clear p h
  induction q with
  | nil => exact .nil
  | cons a _ ih => exact .cons a.2 ih
theorem paired_snoc_inv {α β : Type} {R : α → β → Prop} {y : β} : ∀ {l : List α} {m : List β}, Paired R l (m ++ [y]) → ∃ l0 x, l = l0 ++ [x] ∧ Paired R l0 m ∧ R x y
  | _, [], .cons a .nil => ⟨[], _, rfl, .nil, a⟩
  | _, z :: m, .cons a r => by
    obtain ⟨l0, x, rfl, h1, h2⟩ := paired_snoc_inv (m := m) r
    exact ⟨_ :: l0, x, rfl, .cons a h1, h2⟩
theorem if_max (x y : Int) : (if x > y then x else y) = max y x := by
  rw [Int.max_def]; split <;> split <;> omega
theorem full_succ {ps : List (Int × Int)} {i : Nat} {a b : Int} (h : ps[i]? = some (a, b)) : full (ps.take (i + 1)) = full (ps.take i) ++ (if a < b then [(a, b)] else []) := by
  unfold full
  rw [List.take_succ, h, List.filter_append]
  congr 1
  show List.filter _ [(a, b)] = _
  by_cases c : a < b
  · rw [if_pos c, List.filter_cons_of_pos (by simpa using c)]; rfl
  · rw [if_neg c, List.filter_cons_of_neg (by simpa using c)]; rfl
def spJoined (K : PySem.W.Frag) (C : Addr) (TT : List (Addr × Str)) : Sp := fun vs H Q _ => ∃ (p : Addr) (ap : Int) (xs : List V) (ps : List (Int × Int)), vs = [.ref p, .int ap] ∧ 0 ≤ ap ∧ SqL K H p xs ∧ StrsAt C H xs ps ∧ ps.length ≤ 10000 ∧ (∀ q ∈ ps, q.1 ≤ q.2 ∧ q.2 - q.1 < 2 ^ 61) ∧ Tabs TT H ∧
  ∀ r ys H', Sm TT H H' → H r = none → H' r = some (.lst ys) → StrsAt C H' ys (jnd ap ps) → Q (.ref r) H'
variable {P : Program} {w : World} {K : PySem.W.Frag} {mg : Str → Option Value} {base : Heap} (T : Ev K mg base)
theorem okjoined : FnOk P w K mg base CX0 5 T.fjoined T.fdjoined ["some", "apart"] (spJoined K T.CStretch (TT T)) := by
  refine T.Fjoined.okC T.cdjoined scJoined (fun vs H Q E h => ?_) (fun A outer s H vs Q E hr h => ?_)
  · obtain ⟨p, ap, xs, ps, rfl, _⟩ := h
    rfl
  · obtain ⟨p, ap, xs, ps, rfl, h0, hp, hx, hl, hb, tt, q⟩ := h
    refine ⟨_,
      (pss_cons (ps_setLc (i := 3) (own := [("stretch", 2)]) (g := gName 2)  rfl scJoined.nd rfl rfl (sw_true rfl rfl rfl (by decide +kernel)) (pi_list (pv 0)) (blkOk_by (N := NJoined) (own := [("stretch", 2)]) (sc := defScope sJoined) (by decide +kernel)) (fun _ _ _ _ _ => pg_name (i := 2) scJoined.nd rfl (Or.inl rfl)) (fun _ _ _ _ _ => pts_one (pt_cmpR op_gt (pe_callB (call_lenOwn (mt_Stretch___len__ T).at_ (mt_Stretch___len__ T).fn (okStretch___len__ T) T.bStretch___len__ (hr.mono (by decide)) pass0) (by rfl) T.mlen PySem.boot_len (pa_cons (pv 2) pa_nil)) pe_int (nomark _))) (fun _ _ _ _ _ => (pv 2)))
      (pss_cons (ps_set (i := 4) scJoined.nd rfl (.inl rfl) (pe_lst pa_nil))
      (pss_cons (ps_for PassesOwn.never rfl (pi_list (pe_callBK (call_sortL (k := 0) (px := "row") (params := lamPa lJoined_0) (body := lamBo lJoined_0) (scope := lamSc lJoined_0) (qual := ("joined" ++ ".<locals>." ++ "<lambda>")) (N := NlJoined_0) keyI sclJoined_0 blJoined_0 (hr.mono (by decide)) (fun f c A outer s H hr => (show PE _ _ (tFld K (tVar 0) "first") from pe_fld (pv 0) rfl))) (by rfl) T.msorted (by decide +kernel) (pa_cons (pv 3) pa_nil) (pk_cons (pe_lam3 (TT := TT T) (params := lamPa lJoined_0) (body := lamBo lJoined_0) (scope := lamSc lJoined_0) T.tbjoined rfl (tt_in_joined T) (tt_one_joined T)) pk_nil))) (pg_name (i := 2) scJoined.nd rfl (.inl rfl))
      (pss_one (ps_if (PW.pt (pw_and (pt_truth (pv 4) (by intro _; rfl)) (pw_and1 (pt_cmpR op_le (pe_op op_sub (pe_fld (pv 2) rfl) (pe_fld (pe_ix ix_list (pv 4) (pe_un un_neg pe_int) (fun _ _ => rfl)) rfl)) (pv 1) (nomark _)))))
      (pss_one (ps_asg (pe_makeN (mk_Stretch T) (okStretch___init__ T) (hr.mono (by decide)) (by rfl) T.gCStretch (kb_Stretch___init___3 T).choose_spec pass0 (pa_cons (pe_fld (pe_ix ix_list (pv 4) (pe_un un_neg pe_int) (fun _ _ => rfl)) rfl) (pa_cons (pe_callB (call_max2 rfl) (by rfl) T.mmax (by decide +kernel) (pa_cons (pe_fld (pe_ix ix_list (pv 4) (pe_un un_neg pe_int) (fun _ _ => rfl)) rfl) (pa_cons (pe_fld (pv 2) rfl) pa_nil))) pa_nil)) pk_nil) (pg_sub (pv 4) (pe_un un_neg pe_int) set_list)))
      (pss_one (ps_expr (pe_bm PySem.F.plainAttrs_list PySem.F.slot_list_append PySem.F.type_list_append mt_append (pv 4) (pa_cons (pv 2) pa_nil)))))))
      (pss_one (ps_ret (pv 4))))))
      , ?_⟩
    have hxl := hx.len
    walk_at "s"
    refine ⟨⟨_, hp⟩, fun D hD => ?_⟩
    refine lc_list (K := K) (a := p) (xs := xs) (fun i H' => ∃ ys, H' D = some (.lst ys) ∧ StrsAt T.CStretch H' ys (full (ps.take i)) ∧ Same H H') ⟨[], upd_same, .nil, same_upd hD⟩ (fun i H' _ ⟨_, _, _, z⟩ => sqL_same hp z) ?_ ?_
    · rintro i x H' hxi ⟨ys, eD, hys, si⟩
      obtain ⟨o, a, b, rfl, hpi, ho⟩ := hx.at hxi
      have hi : i < xs.length := (List.getElem?_eq_some_iff.mp hxi).1
      have ho' := ho.same si
      have hab := hb _ (List.mem_of_getElem? hpi)
      have hyl : ys.length ≤ i := by
        have := hys.len
        have h2 : (full (ps.take i)).length ≤ (ps.take i).length := List.length_filter_le _ _
        rw [List.length_take] at h2; omega
      obtain ⟨dx, eo⟩ := id ho'
      walk_at "s"
      refine ⟨o, dx, _, rfl, eo, o, a, b, rfl, ho', hab.1, Int.lt_trans hab.2 (by decide), b - a, rfl, by have := hab.1; show 0 ≤ b - a; dsimp only at this; omega, Int.lt_trans hab.2 (by decide), ?_⟩
      walk_at "s"
      rw [full_succ hpi]
      refine ite2 (fun c1 => ?_) (fun c1 => ?_)
      · have c2 : a < b := by have := of_decide_eq_true c1; omega
        rw [if_pos c2]
        walk_at "s"
        refine ⟨ys, eD, lt_line (by omega), ys ++ [.ref o], upd_same, (hys.snoc ho').upd eD, app_same hD si⟩
      · have c2 : ¬ a < b := fun z => c1 (decide_eq_true (by omega))
        rw [if_neg c2, List.append_nil]
        exact ⟨ys, eD, hys, si⟩
    · rintro H' ⟨ys, eD, hys, si⟩
      rw [hxl, List.take_length] at hys
      have hyl := hys.len
      have hfl : (full ps).length ≤ ps.length := List.length_filter_le _ _
      walk_at "s"
      intro t ht
      have s2 : Sm (TT T) H (upd H' t (.lst [])) := (si.trans (same_upd ht)).sm
      have eD2 := upd_at (o := .lst []) ht eD
      have hys2 := hys.same (same_upd (o := .lst []) ht)
      have et2 : (upd H' t (.lst [])) t = some (.lst []) := upd_same
      have ht0 : H t = none := (si.sm (TT := TT T)).none ht
      generalize upd H' t (.lst []) = H2 at s2 eD2 hys2 et2
      walk_at "s"
      refine ⟨s2.2.1 tt, fun f c H3 e3 t3 n3 hf hc => ?_⟩
      have s23 : Sm (TT T) H2 H3 := ⟨e3, fun _ => t3, n3⟩
      have hys3 := hys2.sm s23
      walk_at "s"
      refine ⟨D, f, c, ys, (full ps).map (·.1), rfl, rfl, hf, hc, SqL.of (s23.at eD2), by rw [List.length_map, hyl], fun j x k H4 hxj hk s4 => ?_, fun H4 r s4 hr4 => ?_⟩
      · obtain ⟨o, a, b, rfl, hpj, ho⟩ := hys3.at hxj
        rw [List.getElem?_map, hpj] at hk
        cases hk
        walk_at "s"
        refine i_first T (ho.same s4) ?_
        exact ⟨same_refl, rfl⟩
      have s24 : Sm (TT T) H2 (upd H4 r (.lst (byKeys ltI ((full ps).map (·.1)) ys))) := s23.trans (s4.sm.trans (sm_upd hr4))
      have hS := byKeys_str (hys3.same (s4.trans (same_upd (o := .lst (byKeys ltI ((full ps).map (·.1)) ys)) hr4)))
      have er : (upd H4 r (.lst (byKeys ltI ((full ps).map (·.1)) ys))) r = some (.lst (byKeys ltI ((full ps).map (·.1)) ys)) := upd_same
      have ntr : r ≠ t := fun z => by rw [z] at hr4; have := s4 _ _ (s23.at et2); rw [hr4] at this; cases this
      generalize upd H4 r (.lst (byKeys ltI ((full ps).map (·.1)) ys)) = H5 at s24 hS er
      generalize byKeys ltI ((full ps).map (·.1)) ys = zs at hS er
      generalize hSe : iSort lt1 (full ps) = S at hS
      have hSm : ∀ q ∈ S, q.1 < q.2 := fun q hq => (full_mem (iSort_mem.mp (by rw [hSe]; exact hq))).2
      have hSs : S.Pairwise fun p q => p.1 ≤ q.1 := by rw [← hSe]; exact srt1
      have hSl : S.length ≤ ps.length := by rw [← hSe, iSort_len]; exact hfl
      have hzl := hS.len
      walk_at "s"
      refine ⟨⟨zs, SqL.of er⟩, ?_⟩
      refine for_list (K := K) (a := r) (xs := zs) (fun i σ H' => ∃ (w2 : Option V) (ts : List V), σ = [some (.ref p), some (.int ap), w2, some (.ref D), some (.ref t)] ∧ H' t = some (.lst ts) ∧ StrsAt T.CStretch H' ts (mrgs ap (S.take i)).reverse ∧ StrsAt T.CStretch H' zs S ∧ H' r = some (.lst zs) ∧ Sm (TT T) H H')
        ⟨_, [], rfl, s24.at et2, .nil, hS, er, s2.trans s24⟩ (fun i σ H' _ ⟨_, _, _, _, _, _, z, _⟩ => SqL.of z) ?_ ?_
      · rintro i x σ H6 hxi ⟨w2, ts, rfl, et, hts, hz', er6, s6⟩
        obtain ⟨o, a, b, rfl, hpi, ho⟩ := hz'.at hxi
        have hi : i < zs.length := (List.getElem?_eq_some_iff.mp hxi).1
        have hab := hSm _ (List.mem_of_getElem? hpi)
        have htl := hts.len
        have hml : (mrgs ap (S.take i)).length ≤ (S.take i).length := mrgs_le _
        rw [List.length_take] at hml
        rw [List.length_reverse] at htl
        rw [mrgs_succ hpi]
        have hcov := (covR_mrgs h0 (fun q hq => hSm q (List.mem_of_mem_take hq)) (hSs.sublist (List.take_sublist i S))).list h0
        have app : StrsAt T.CStretch H6 (ts ++ [.ref o]) ((mrgs ap (S.take i)).reverse ++ [(a, b)]) := hts.snoc ho
        -- told.append
        have addS : mrg ap (mrgs ap (S.take i)) (a, b) = (a, b) :: mrgs ap (S.take i) → ∃ (w2' : Option V) (ts' : List V), [some (.ref p), some (.int ap), some (.ref o), some (.ref D), some (.ref t)] = [some (.ref p), some (.int ap), w2', some (.ref D), some (.ref t)] ∧ (upd H6 t (.lst (ts ++ [.ref o]))) t = some (.lst ts') ∧ StrsAt T.CStretch (upd H6 t (.lst (ts ++ [.ref o]))) ts' (mrg ap (mrgs ap (S.take i)) (a, b)).reverse ∧ StrsAt T.CStretch (upd H6 t (.lst (ts ++ [.ref o]))) zs S ∧ (upd H6 t (.lst (ts ++ [.ref o]))) r = some (.lst zs) ∧ Sm (TT T) H (upd H6 t (.lst (ts ++ [.ref o]))) := fun e =>
          ⟨_, _, rfl, upd_same, by rw [e, List.reverse_cons]; exact app.upd et, hz'.upd et, by rw [upd_ne ntr]; exact er6, s6.lst ht0 et⟩
        walk_at "s"
        refine ⟨!ts.isEmpty, .inl ⟨_, SqL.of et, rfl⟩, ?_⟩
        generalize hacc : mrgs ap (S.take i) = acc at hts app addS hcov htl hml
        cases acc with
        | nil =>
          cases hts
          rw [show (!([] : List V).isEmpty) = false from rfl]
          walk_at "s"
          refine ⟨.inl ⟨rfl, _, SqL.of et⟩, ?_⟩
          walk_at "s"
          exact ⟨t, _, _, rfl, rfl, et, lt_line (by decide), addS rfl⟩
        | cons qr r0 =>
          obtain ⟨f1, t1⟩ := qr
          rw [List.reverse_cons] at hts
          obtain ⟨ts0, y, rfl, h1, p1, rfl, hp1⟩ := paired_snoc_inv hts
          rw [show (!(ts0 ++ [V.ref p1]).isEmpty) = true by cases ts0 <;> rfl]
          walk_at "s"
          refine i_first T ho ?_
          walk_at "s"
          refine i_ixLast (SqL.of et) ?_
          refine i_behind T hp1 ?_
          walk_at "s"
          have hff : f1 ≤ t1 := Int.le_of_lt (hcov.1 (f1, t1) List.mem_cons_self).1
          have htm : t1 ≤ max t1 b := Int.le_max_left _ _
          refine ite2 (fun c1 => ?_) (fun c1 => ?_)
          · have c2 : a - t1 ≤ ap := of_decide_eq_true c1
            walk_at "s"
            refine i_ixLast (SqL.of et) ?_
            refine i_first T hp1 ?_
            walk_at "s"
            refine i_ixLast (SqL.of et) ?_
            refine i_behind T hp1 ?_
            walk_at "s"
            refine i_behind T ho ?_
            walk_at "s"
            refine mkStr (a := f1) (b := max t1 b) (y := .int (if b > t1 then b else t1)) (.inl (congrArg V.int (if_max _ _))) (by omega) fun z H7 hz hz7 s7 => ?_
            have et7 := s7 _ _ et
            walk_at "s"
            refine i_setLast et7 ?_
            refine ⟨_, _, rfl, upd_same, ?_, (hz'.same s7).upd et7, by rw [upd_ne ntr]; exact s7 _ _ er6, (s6.trans s7.sm).lst ht0 et7⟩
            rw [show mrg ap ((f1, t1) :: r0) (a, b) = (f1, max t1 b) :: r0 from if_pos c2, List.reverse_cons]
            exact (StrsAt.snoc (StrsAt.same h1 s7) hz7).upd et7
          · have c2 : ¬ a - t1 ≤ ap := fun z => c1 (decide_eq_true z)
            walk_at "s"
            refine ⟨.inl ⟨rfl, _, SqL.of et⟩, ?_⟩
            walk_at "s"
            exact ⟨t, _, _, rfl, rfl, et, lt_line (by omega), addS (if_neg c2)⟩
      · rintro σ H6 ⟨w2, ts, rfl, et, hts, hz, er6, s6⟩
        rw [hzl, List.take_length] at hts
        walk_at "s"
        refine q t ts H6 s6 ht0 et ?_
        unfold jnd
        rw [hSe]; exact hts
end
set_option maxHeartbeats 8000000
local macro_rules | `(tactic| walk_at "c") => `(tactic| first | omega | decide | exact ⟨by omega, by omega⟩ | exact ⟨by decide, by decide⟩ | exact .inl ⟨by omega, by omega⟩ | exact .inr ⟨by omega, by omega⟩ | exact ⟨by omega, by omega, by omega⟩ | exact ⟨by decide, by decide, by decide⟩ | exact le_line (Nat.le_of_ble_eq_true rfl))
local macro_rules | `(tactic| walk_at "a") => `(tactic| with_reducible (first | refine i_seq ?_ | refine i_asg ?_ | refine i_cons ?_ | refine i_c ?_ | refine i_nil ?_ | refine i_op ?_ | refine i_call ?_ | refine i_cb ?_ | refine i_name ?_ | refine i_next ?_ | refine i_ret ?_ | refine i_drop ?_ | refine i_if ?_ | refine i_test ?_ | refine i_and ?_ | refine i_or ?_ | refine i_not ?_ | refine i_ite ?_ | refine i_lst ?_ | refine i_tup ?_ | refine i_bm ?_ | refine i_un ?_ | refine i_par ?_ | refine i_gsub ?_ | refine i_chain ?_ | refine i_sl ?_ | refine i_nopart ?_ | refine i_part ?_ | refine i_m1 ?_ | refine i_m0 ?_ | refine i_lc ?_ | refine i_iList ?_ | refine i_iTup ?_ | refine i_iStr ?_ | refine i_r1 ?_ | refine i_set ?_ | refine i_callk ?_ | refine i_callN ?_ | refine i_ckw ?_ | refine i_revL ?_ | refine i_tB ?_ | refine i_fld ?_ | refine i_sfld ?_ | refine i_make ?_ | refine i_makeN ?_ | refine i_meth ?_ | refine i_andV ?_ | refine i_orV ?_ | refine i_notV ?_ | refine iteT ?_ | refine iteF ?_ | refine i_yes ?_))
local macro_rules | `(tactic| walk_at "s") => `(tactic| repeat (first | walk_at "a" | refine i_var rfl ?_ | refine i_aug rfl ?_ | refine And.intro ⟨_, rfl⟩ ?_ | refine ⟨_, rfl, ?_⟩ | refine ⟨_, _, rfl, rfl, ?_⟩ | refine ⟨_, _, rfl, ?_⟩ | refine ⟨rfl, ?_⟩ | refine And.intro (by walk_at "c") ?_))
/-! ### gaps, minutes_in -/
section
open LamX (Tabs)
theorem if_min (x y : Int) : (if x < y then x else y) = min y x := by
  rw [Int.min_def]; split <;> split <;> omega
theorem jnd_cov {ps : List (Int × Int)} : CovR 0 (Cov ps) (jnd 0 ps).reverse := by
  unfold jnd
  rw [List.reverse_reverse]
  refine (covR_mrgs (Int.le_refl 0) (l := iSort lt1 (full ps)) (fun p hp => (full_mem (iSort_mem.mp hp)).2) srt1).congr fun x => ?_
  unfold Cov
  constructor
  · rintro ⟨p, hp, h⟩
    exact ⟨p, (full_mem (iSort_mem.mp hp)).1, h⟩
  · rintro ⟨p, hp, h1, h2⟩
    exact ⟨p, iSort_mem.mpr (List.mem_filter.mpr ⟨hp, decide_eq_true (by omega)⟩), h1, h2⟩
theorem jnd_ok {ps : List (Int × Int)} : (∀ p ∈ jnd 0 ps, p.1 < p.2 ∧ Cov ps p.1 ∧ Cov ps (p.2 - 1)) ∧ (jnd 0 ps).Pairwise (fun p q => p.2 < q.1) ∧ ∀ x, Cov (jnd 0 ps) x ↔ Cov ps x := by
  obtain ⟨h1, h2, h3⟩ := jnd_cov (ps := ps) |>.list (Int.le_refl 0)
  have h4 := jnd_cov (ps := ps) |>.just
  have cr : ∀ x, Cov (jnd 0 ps).reverse x ↔ Cov (jnd 0 ps) x := fun x => by
    unfold Cov
    exact ⟨fun ⟨p, hp, z⟩ => ⟨p, List.mem_reverse.mp hp, z⟩, fun ⟨p, hp, z⟩ => ⟨p, List.mem_reverse.mpr hp, z⟩⟩
  refine ⟨fun p hp => h1 p (List.mem_reverse.mpr hp), ?_, fun x => ⟨fun z => h4 x ((cr x).mpr z), fun z => (cr x).mp (h3 x z)⟩⟩
  have := List.pairwise_reverse.mp h2
  exact this.imp fun {p q} z => by omega
theorem jnd_len {ap : Int} {ps : List (Int × Int)} : (jnd ap ps).length ≤ ps.length := by
  unfold jnd
  rw [List.length_reverse]
  refine Nat.le_trans (mrgs_le _) ?_
  rw [iSort_len]
  exact List.length_filter_le _ _
theorem jnd_in {ps : List (Int × Int)} {lo hi : Int} (h : ∀ p ∈ ps, lo ≤ p.1 ∧ p.2 ≤ hi) : ∀ p ∈ jnd 0 ps, lo ≤ p.1 ∧ p.2 ≤ hi := fun p hp => by
  obtain ⟨_, ⟨a, ha, x1, x2⟩, ⟨b, hb, y1, y2⟩⟩ := jnd_ok.1 p hp
  have := h a ha
  have := h b hb
  omega
/-- what gaps tells -/
def gps (ps : List (Int × Int)) (a b : Int) : List (Int × Int) := (gend b (gfold b a (jnd 0 ps))).reverse
theorem gps_inv (ps : List (Int × Int)) (a b : Int) {i : Nat} (hi : i ≤ (jnd 0 ps).length) : GInv a b ((jnd 0 ps).take i) (gfold b a ((jnd 0 ps).take i)) := ginv (fun p hp => (jnd_ok.1 p hp).1) jnd_ok.2.1 i hi
theorem gps_cov (ps : List (Int × Int)) (a b : Int) : CovR 0 (fun x => a ≤ x ∧ x < b ∧ ¬ Cov ps x) (gps ps a b).reverse := by
  unfold gps
  rw [List.reverse_reverse]
  have g := gps_inv ps a b (Nat.le_refl _)
  rw [List.take_length] at g
  exact (gend_ok g).congr fun x => by rw [jnd_ok.2.2 x]
theorem gps_len (ps : List (Int × Int)) (a b : Int) : (gps ps a b).length ≤ ps.length + 1 := by
  unfold gps
  have g := gps_inv ps a b (Nat.le_refl _)
  rw [List.take_length] at g
  have h1 := g.len
  have h2 := jnd_len (ap := 0) (ps := ps)
  rw [List.length_reverse]
  unfold gend
  split
  · rw [List.length_cons]; omega
  · omega
theorem gfold_succ {a b : Int} {J : List (Int × Int)} {i : Nat} {p : Int × Int} (e : J[i]? = some p) : gfold b a (J.take (i + 1)) = gstep b (gfold b a (J.take i)) p := by
  rw [List.take_succ, e]
  exact gfold_snoc _ _
def slen (l : List (Int × Int)) : Int := (l.map fun p => p.2 - p.1).sum
/-- a promise of a def that tells a new list of stretches -/
def spGaps (K : PySem.W.Frag) (C : Addr) (TT : List (Addr × Str)) : Sp := fun vs H Q _ => ∃ (p o : Addr) (a b : Int) (xs : List V) (ps : List (Int × Int)), vs = [.ref p, .ref o] ∧ SqL K H p xs ∧ StrsAt C H xs ps ∧ StrAt C H o a b ∧ a ≤ b ∧ ps.length ≤ 9000 ∧ (∀ q ∈ ps, q.1 ≤ q.2 ∧ q.2 - q.1 < 2 ^ 61) ∧ Tabs TT H ∧
  ∀ r ys H', Sm TT H H' → H r = none → H' r = some (.lst ys) → StrsAt C H' ys (gps ps a b) → Q (.ref r) H'
def spMinutes (K : PySem.W.Frag) (C : Addr) (TT : List (Addr × Str)) : Sp := fun vs H Q _ => ∃ (p : Addr) (xs : List V) (ps : List (Int × Int)) (lo hi : Int), vs = [.ref p] ∧ SqL K H p xs ∧ StrsAt C H xs ps ∧ ps.length ≤ 9000 ∧ (∀ q ∈ ps, q.1 ≤ q.2 ∧ lo ≤ q.1 ∧ q.2 ≤ hi) ∧ hi - lo < 2 ^ 61 ∧ Tabs TT H ∧
  ∀ H', Sm TT H H' → Q (.int (slen (jnd 0 ps))) H'
variable {P : Program} {w : World} {K : PySem.W.Frag} {mg : Str → Option Value} {base : Heap} (T : Ev K mg base)
theorem okgaps : FnOk P w K mg base CX0 6 T.fgaps T.fdgaps ["some", "within"] (spGaps K T.CStretch (TT T)) := by
  refine T.Fgaps.ok scGaps (fun vs H Q E h => ?_) (fun cdv A outer s H vs Q E hr h => ?_)
  · obtain ⟨p, o, a, b, xs, ps, rfl, _⟩ := h
    rfl
  · obtain ⟨p, o, a, b, xs, ps, rfl, hp, hx, ho, hab, hl, hb, tt, q⟩ := h
    refine ⟨_,
      (pss_cons (ps_set (i := 2) scGaps.nd rfl (.inl rfl) (pe_lst pa_nil))
      (pss_cons (ps_set (i := 3) scGaps.nd rfl (.inl rfl) (pe_fld (pv 1) rfl))
      (pss_cons (ps_for PassesOwn.never rfl (pi_list (pe_callN (okjoined T) (hr.mono (by decide)) (by rfl) T.gjoined T.Fjoined.kp (kb_joined_1 T).choose_spec pass0 (pa_cons (pv 0) pa_nil) pk_nil)) (pg_name (i := 4) scGaps.nd rfl (.inl rfl))
      (pss_cons (ps_set (i := 5) scGaps.nd rfl (.inl rfl) (pe_callB (call_min2 rfl) (by rfl) T.mmin (by decide +kernel) (pa_cons (pe_fld (pv 4) rfl) (pa_cons (pe_fld (pv 1) rfl) pa_nil))))
      (pss_cut (ps_if (pt_cmpR op_lt (pv 3) (pv 5) (nomark _))
      (pss_one (ps_expr (pe_bm PySem.F.plainAttrs_list PySem.F.slot_list_append PySem.F.type_list_append mt_append (pv 2) (pa_cons (pe_makeN (mk_Stretch T) (okStretch___init__ T) (hr.mono (by decide)) (by rfl) T.gCStretch (kb_Stretch___init___3 T).choose_spec pass0 (pa_cons (pv 3) (pa_cons (pv 5) pa_nil)) pk_nil) pa_nil))))
      pss_nil)
      (pss_one (ps_set (i := 3) scGaps.nd rfl (.inl rfl) (pe_callB (call_max2 rfl) (by rfl) T.mmax (by decide +kernel) (pa_cons (pv 3) (pa_cons (pe_fld (pv 4) rfl) pa_nil))))))))
      (pss_cut (ps_if (pt_cmpR op_lt (pv 3) (pe_fld (pv 1) rfl) (nomark _))
      (pss_one (ps_expr (pe_bm PySem.F.plainAttrs_list PySem.F.slot_list_append PySem.F.type_list_append mt_append (pv 2) (pa_cons (pe_makeN (mk_Stretch T) (okStretch___init__ T) (hr.mono (by decide)) (by rfl) T.gCStretch (kb_Stretch___init___3 T).choose_spec pass0 (pa_cons (pv 3) (pa_cons (pe_fld (pv 1) rfl) pa_nil)) pk_nil) pa_nil))))
      pss_nil)
      (pss_one (ps_ret (pv 2)))))))
      , ?_⟩
    have hxl := hx.len
    walk_at "s"
    intro t ht
    have s01 : Sm (TT T) H (upd H t (.lst [])) := sm_upd ht
    have et : (upd H t (.lst [])) t = some (.lst []) := upd_same
    generalize upd H t (.lst []) = H1 at s01 et
    walk_at "s"
    refine i_first T (ho.sm s01) ?_
    walk_at "s"
    refine ⟨p, 0, xs, ps, rfl, Int.le_refl 0, sqL_sm hp s01, hx.sm s01, by omega, hb, s01.2.1 tt, fun r zs H2 s12 nr er hz => ?_⟩
    have s02 := s01.trans s12
    have ntr : r ≠ t := fun z => by rw [z, et] at nr; cases nr
    have hzl := hz.len
    have hjl := jnd_len (ap := 0) (ps := ps)
    refine ⟨r, rfl, ⟨zs, SqL.of er⟩, ?_⟩
    refine for_list (K := K) (a := r) (xs := zs) (fun i σ H' => ∃ (w4 w5 : Option V) (ts : List V), σ = [some (.ref p), some (.ref o), some (.ref t), some (.int (gfold b a ((jnd 0 ps).take i)).1), w4, w5] ∧ H' t = some (.lst ts) ∧ StrsAt T.CStretch H' ts (gfold b a ((jnd 0 ps).take i)).2.reverse ∧ StrsAt T.CStretch H' zs (jnd 0 ps) ∧ H' r = some (.lst zs) ∧ Sm (TT T) H H')
      ⟨_, _, [], rfl, s12.at et, .nil, hz, er, s02⟩ (fun i σ H' _ ⟨_, _, _, _, _, _, _, z, _⟩ => SqL.of z) ?_ ?_
    · rintro i x σ H3 hxi ⟨w4, w5, ts, rfl, et3, hts, hz3, er3, s03⟩
      obtain ⟨y, f, g, rfl, hpi, hy⟩ := hz3.at hxi
      have hi : i < zs.length := (List.getElem?_eq_some_iff.mp hxi).1
      have gi := gps_inv ps a b (i := i) (by omega)
      have gl := gi.len
      rw [List.length_take] at gl
      have htl := hts.len
      rw [List.length_reverse] at htl
      rw [gfold_succ hpi]
      generalize gfold b a ((jnd 0 ps).take i) = st at hts gi gl htl
      obtain ⟨h, acc⟩ := st
      have ho3 := ho.sm s03
      have ht0 : H t = none := ht
      walk_at "s"
      refine i_first T hy ?_
      walk_at "s"
      refine i_behind T ho3 ?_
      walk_at "s"
      rw [if_min]
      refine ⟨fun σ H' => ∃ ts', σ = [some (.ref p), some (.ref o), some (.ref t), some (.int h), some (.ref y), some (.int (min f b))] ∧ H' t = some (.lst ts') ∧ StrsAt T.CStretch H' ts' (gstep b (h, acc) (f, g)).2.reverse ∧ StrsAt T.CStretch H' zs (jnd 0 ps) ∧ H' r = some (.lst zs) ∧ Sm (TT T) H H', ?_, ?_⟩
      · walk_at "s"
        refine ite2 (fun c1 => ?_) (fun c1 => ?_)
        · have c2 : h < min f b := of_decide_eq_true c1
          have e2 : (gstep b (h, acc) (f, g)).2 = (h, min f b) :: acc := if_pos c2
          walk_at "s"
          refine ⟨.inl ⟨rfl, _, SqL.of et3⟩, ?_⟩
          walk_at "s"
          refine mkStr (a := h) (b := min f b) (y := .int (min f b)) (.inl rfl) (Int.le_of_lt c2) fun z H4 hz hz4 s34 => ?_
          walk_at "s"
          have et4 := s34 _ _ et3
          refine ⟨t, _, _, rfl, rfl, et4, lt_line (by omega), _, rfl, upd_same, ?_, (hz3.same s34).upd et4, by rw [upd_ne ntr]; exact s34 _ _ er3, (s03.trans s34.sm).lst ht0 et4⟩
          rw [e2, List.reverse_cons]
          exact ((hts.same s34).snoc hz4).upd et4
        · have c2 : ¬ h < min f b := fun z => c1 (decide_eq_true z)
          have e2 : (gstep b (h, acc) (f, g)).2 = acc := if_neg c2
          walk_at "s"
          exact ⟨ts, rfl, et3, by rw [e2]; exact hts, hz3, er3, s03⟩
      rintro σ H4 ⟨ts', rfl, et4, hts4, hz4, er4, s04⟩
      obtain ⟨y', f', g', ey, hpi', hy4⟩ := hz4.at hxi
      rw [hpi] at hpi'
      cases hpi'
      cases ey
      walk_at "s"
      refine i_behind T hy4 ?_
      walk_at "s"
      rw [if_max]
      exact ⟨_, _, ts', rfl, et4, hts4, hz4, er4, s04⟩
    · rintro σ H3 ⟨w4, w5, ts, rfl, et3, hts, hz3, er3, s03⟩
      rw [hzl, List.take_length] at hts ⊢
      have gi := gps_inv ps a b (Nat.le_refl _)
      rw [List.take_length] at gi
      have gl := gi.len
      have htl := hts.len
      rw [List.length_reverse] at htl
      have eg : gps ps a b = (gend b (gfold b a (jnd 0 ps))).reverse := rfl
      generalize gfold b a (jnd 0 ps) = st at hts gl htl eg
      obtain ⟨h, acc⟩ := st
      have ho3 := ho.sm s03
      walk_at "s"
      refine ⟨fun σ H' => ∃ (w4 w5 : Option V) (ts : List V), σ = [some (.ref p), some (.ref o), some (.ref t), some (.int h), w4, w5] ∧ H' t = some (.lst ts) ∧ StrsAt T.CStretch H' ts (gps ps a b) ∧ Sm (TT T) H H', ?_, ?_⟩
      · walk_at "s"
        refine i_behind T ho3 ?_
        walk_at "s"
        refine ite2 (fun c1 => ?_) (fun c1 => ?_)
        · have c2 : h < b := of_decide_eq_true c1
          have e2 : gend b (h, acc) = (h, b) :: acc := if_pos c2
          walk_at "s"
          refine ⟨.inl ⟨rfl, _, SqL.of et3⟩, ?_⟩
          walk_at "s"
          refine i_behind T ho3 ?_
          walk_at "s"
          refine mkStr (a := h) (b := b) (y := .int b) (.inl rfl) (Int.le_of_lt c2) fun z H4 hz hz4 s34 => ?_
          walk_at "s"
          have et4 := s34 _ _ et3
          refine ⟨t, _, _, rfl, rfl, et4, lt_line (by omega), _, _, _, rfl, upd_same, ?_, (s03.trans s34.sm).lst ht et4⟩
          rw [eg, e2, List.reverse_cons]
          exact ((hts.same s34).snoc hz4).upd et4
        · have c2 : ¬ h < b := fun z => c1 (decide_eq_true z)
          have e2 : gend b (h, acc) = acc := if_neg c2
          walk_at "s"
          exact ⟨_, _, ts, rfl, et3, by rw [eg, e2]; exact hts, s03⟩
      clear w4 w5 ts et3 hts htl
      rintro σ H4 ⟨w4, w5, ts, rfl, et4, hts4, s04⟩
      walk_at "s"
      exact q t ts H4 s04 ht et4 hts4
theorem okminutes_in : FnOk P w K mg base CX0 6 T.fminutes_in T.fdminutes_in ["some"] (spMinutes K T.CStretch (TT T)) := by
  refine T.Fminutes_in.ok scMinutesIn (fun vs H Q E h => ?_) (fun cdv A outer s H vs Q E hr h => ?_)
  · obtain ⟨p, xs, ps, lo, hi, rfl, _⟩ := h
    rfl
  · obtain ⟨p, xs, ps, lo, hi, rfl, hp, hx, hl, hb, hw, tt, q⟩ := h
    refine ⟨_,
      (pss_one (ps_ret (pe_callB (cr_sum rfl) (by rfl) T.msum (by decide +kernel) (pa_cons (pe_lc (own := [("stretch", 1)]) (g := gName 1) (tt := tYes) rfl scMinutesIn.nd (pi_list (pe_callN (okjoined T) (hr.mono (by decide)) (by rfl) T.gjoined T.Fjoined.kp (kb_joined_1 T).choose_spec pass0 (pa_cons (pv 0) pa_nil) pk_nil)) (blkOk_by (N := NMinutesIn) (own := [("stretch", 1)]) (sc := defScope sMinutesIn) (by decide +kernel)) (fun _ _ _ _ _ => pg_name (i := 1) scMinutesIn.nd rfl (Or.inl rfl)) (fun _ _ _ _ _ => pts_nil) (fun _ _ _ _ _ => (pe_callB (call_lenOwn (mt_Stretch___len__ T).at_ (mt_Stretch___len__ T).fn (okStretch___len__ T) T.bStretch___len__ (hr.mono (by decide)) pass0) (by rfl) T.mlen PySem.boot_len (pa_cons (pv 1) pa_nil)))) pa_nil))))
      , ?_⟩
    walk_at "s"
    refine ⟨p, 0, xs, ps, rfl, Int.le_refl 0, hp, hx, by omega, fun z hz => by have := hb z hz; omega, tt, fun r zs H2 s12 nr er hz => ?_⟩
    have hzl := hz.len
    have hjl := jnd_len (ap := 0) (ps := ps)
    have hin := jnd_in (ps := ps) (lo := lo) (hi := hi) fun z hz => (hb z hz).2
    refine ⟨r, rfl, ⟨zs, SqL.of er⟩, fun D hD => ?_⟩
    refine lc_list (K := K) (a := r) (xs := zs) (fun i H' => H' D = some (.lst ((((jnd 0 ps).take i).map fun p => p.2 - p.1).map V.int)) ∧ Same H2 H') ⟨upd_same, same_upd hD⟩ (fun i H' _ z => SqL.of (z.2 _ _ er)) ?_ ?_
    · rintro i x H' hxi ⟨eD, si⟩
      obtain ⟨y, f, g, rfl, hpi, hy⟩ := hz.at hxi
      have hi2 : i < zs.length := (List.getElem?_eq_some_iff.mp hxi).1
      have hm := List.mem_of_getElem? hpi
      have h1 := hin _ hm
      have h2 := (jnd_ok.1 _ hm).1
      have hy' := hy.same si
      obtain ⟨dx, eo⟩ := id hy'
      dsimp only at h1 h2
      walk_at "s"
      refine ⟨y, dx, _, rfl, eo, y, f, g, rfl, hy', Int.le_of_lt h2, by omega, g - f, rfl, by show 0 ≤ g - f; omega, by omega, ?_⟩
      walk_at "s"
      refine ⟨_, eD, lt_line (by simp; omega), ?_, app_same hD si⟩
      rw [upd_same, List.take_succ, hpi]
      simp
    · rintro H' ⟨eD, si⟩
      rw [hzl, List.take_length] at eD
      walk_at "s"
      refine ⟨D, _, rfl, SqL.of eD, ?_⟩
      exact q H' (s12.trans si.sm)
end
/-! ### lists of stretches side by side -/
section
/-- rising, none empty, more than ap apart -/
def Canon (ap : Int) (l : List (Int × Int)) : Prop := (∀ p ∈ l, p.1 < p.2) ∧ l.Pairwise fun p q => p.2 + ap < q.1
theorem canon_covR {ap : Int} (h0 : 0 ≤ ap) : ∀ (l : List (Int × Int)), (∀ p ∈ l, p.1 < p.2) → l.Pairwise (fun p q => q.2 + ap < p.1) → CovR ap (Cov l) l
  | [], _, _ => fun x ⟨p, hp, _⟩ => by cases hp
  | (f, t) :: r, h1, h2 => by
    obtain ⟨h3, h4⟩ := List.pairwise_cons.mp h2
    have hft : f < t := h1 _ List.mem_cons_self
    have low : ∀ x, Cov r x → x + ap < f - 0 ∧ x < f := fun x ⟨q, hq, q1, q2⟩ => by
      have : q.2 + ap < f := h3 q hq
      omega
    have here : ∀ x, f ≤ x → (Cov ((f, t) :: r) x ↔ x < t) := fun x hx => by
      constructor
      · rintro ⟨q, hq, q1, q2⟩
        rcases List.mem_cons.mp hq with rfl | hq
        · exact q2
        · have := low x ⟨q, hq, q1, q2⟩; omega
      · intro z
        exact ⟨_, List.mem_cons_self, hx, z⟩
    refine ⟨hft, (here f (Int.le_refl _)).mpr hft, (here _ (by omega)).mpr (by omega), fun x hx z => by have := (here x (by omega)).mp z; omega, fun m m1 m2 => ⟨m, Int.le_refl _, by omega, (here m m1).mpr (by omega)⟩, fun x x1 x2 => ?_, (canon_covR h0 r (fun p hp => h1 p (List.mem_cons_of_mem _ hp)) h4).congr fun x => ?_⟩
    · rintro ⟨q, hq, q1, q2⟩
      rcases List.mem_cons.mp hq with rfl | hq
      · dsimp only at q1; omega
      · have : q.2 + ap < f := h3 q hq
        omega
    · constructor
      · rintro ⟨q, hq, z⟩
        exact ⟨⟨q, List.mem_cons_of_mem _ hq, z⟩, (low x ⟨q, hq, z⟩).2⟩
      · rintro ⟨⟨q, hq, q1, q2⟩, z⟩
        rcases List.mem_cons.mp hq with rfl | hq
        · dsimp only at q1; omega
        · exact ⟨q, hq, q1, q2⟩
theorem cov_reverse (l : List (Int × Int)) (x : Int) : Cov l.reverse x ↔ Cov l x := by
  unfold Cov
  exact ⟨fun ⟨p, hp, z⟩ => ⟨p, List.mem_reverse.mp hp, z⟩, fun ⟨p, hp, z⟩ => ⟨p, List.mem_reverse.mpr hp, z⟩⟩
theorem Canon.covR {ap : Int} (h0 : 0 ≤ ap) {l : List (Int × Int)} (h : Canon ap l) : CovR ap (Cov l) l.reverse :=
  (canon_covR h0 l.reverse (fun p hp => h.1 p (List.mem_reverse.mp hp)) (List.pairwise_reverse.mpr h.2)).congr fun x => cov_reverse l x
theorem CovR.canon {ap : Int} (h0 : 0 ≤ ap) {l : List (Int × Int)} {P : Int → Prop} (h : CovR ap P l.reverse) : Canon ap l := by
  obtain ⟨h1, h2, _⟩ := h.list h0
  exact ⟨fun p hp => (h1 p (List.mem_reverse.mpr hp)).1, List.pairwise_reverse.mp h2⟩
theorem jnd_covR {ap : Int} (h0 : 0 ≤ ap) {ps : List (Int × Int)} : CovR ap (Cov ps) (jnd ap ps).reverse := by
  unfold jnd
  rw [List.reverse_reverse]
  refine (covR_mrgs h0 (l := iSort lt1 (full ps)) (fun p hp => (full_mem (iSort_mem.mp hp)).2) srt1).congr fun x => ?_
  unfold Cov
  constructor
  · rintro ⟨p, hp, h⟩
    exact ⟨p, (full_mem (iSort_mem.mp hp)).1, h⟩
  · rintro ⟨p, hp, h1, h2⟩
    exact ⟨p, iSort_mem.mpr (List.mem_filter.mpr ⟨hp, decide_eq_true (by omega)⟩), h1, h2⟩
theorem jnd_canon {ap : Int} (h0 : 0 ≤ ap) {ps : List (Int × Int)} : Canon ap (jnd ap ps) := (jnd_covR h0).canon h0
/-- put together once more, nothing changes -/
theorem canon_jnd {ap : Int} (h0 : 0 ≤ ap) {l : List (Int × Int)} (h : Canon ap l) : jnd ap l = l :=
  List.reverse_inj.mp (CovR.one h0 (jnd_covR h0) (h.covR h0))
theorem jnd_jnd {ap : Int} (h0 : 0 ≤ ap) {ps : List (Int × Int)} : jnd ap (jnd ap ps) = jnd ap ps := canon_jnd h0 (jnd_canon h0)
theorem gps_jnd {ps : List (Int × Int)} {a b : Int} : gps (jnd 0 ps) a b = gps ps a b :=
  List.reverse_inj.mp (CovR.one (Int.le_refl 0) (gps_cov (jnd 0 ps) a b) ((gps_cov ps a b).congr fun x => by rw [jnd_ok.2.2 x]))
theorem gps_canon {ps : List (Int × Int)} {a b : Int} : Canon 0 (gps ps a b) := (gps_cov ps a b).canon (Int.le_refl 0)
theorem gps_in {ps : List (Int × Int)} {a b : Int} : (∀ p ∈ gps ps a b, p.1 < p.2 ∧ a ≤ p.1 ∧ p.2 ≤ b ∧ ∀ x, p.1 ≤ x → x < p.2 → ¬ Cov ps x) ∧ ∀ x, a ≤ x → x < b → ¬ Cov ps x → Cov (gps ps a b) x := by
  have c := gps_cov ps a b
  obtain ⟨h1, _, h3⟩ := c.list (Int.le_refl 0)
  have h4 := c.just
  refine ⟨fun p hp => ?_, fun x x1 x2 x3 => (cov_reverse _ x).mp (h3 x ⟨x1, x2, x3⟩)⟩
  obtain ⟨y1, y2, y3⟩ := h1 p (List.mem_reverse.mpr hp)
  exact ⟨y1, y2.1, by have := y3.2.1; omega, fun x x1 x2 => (h4 x ⟨p, List.mem_reverse.mpr hp, x1, x2⟩).2.2⟩
/-- what the parts have within -/
def cutP (a b : Int) (p : Int × Int) : Option (Int × Int) := if max p.1 a < min p.2 b then some (max p.1 a, min p.2 b) else none
def kept (J : List (Int × Int)) (a b : Int) : List (Int × Int) := J.filterMap (cutP a b)
theorem kept_mem {J : List (Int × Int)} {a b : Int} {q : Int × Int} : q ∈ kept J a b ↔ ∃ p ∈ J, max p.1 a < min p.2 b ∧ q = (max p.1 a, min p.2 b) := by
  unfold kept cutP
  rw [List.mem_filterMap]
  constructor
  · rintro ⟨p, hp, e⟩
    split at e
    · rename_i c
      cases e
      exact ⟨p, hp, c, rfl⟩
    · cases e
  · rintro ⟨p, hp, c, rfl⟩
    exact ⟨p, hp, if_pos c⟩
theorem mx_mn (x y a b : Int) : (max x a < min y b ↔ x < y ∧ x < b ∧ a < y ∧ a < b) ∧ x ≤ max x a ∧ a ≤ max x a ∧ min y b ≤ y ∧ min y b ≤ b ∧ (max x a = x ∨ max x a = a) ∧ (min y b = y ∨ min y b = b) := by
  rw [Int.max_def, Int.min_def]
  split <;> split <;> omega
theorem kept_cov {J : List (Int × Int)} {a b x : Int} : Cov (kept J a b) x ↔ Cov J x ∧ a ≤ x ∧ x < b := by
  unfold Cov
  constructor
  · rintro ⟨q, hq, x1, x2⟩
    obtain ⟨p, hp, c, rfl⟩ := kept_mem.mp hq
    dsimp only at x1 x2
    obtain ⟨_, z1, z2, z3, z4, _⟩ := mx_mn p.1 p.2 a b
    exact ⟨⟨p, hp, by omega, by omega⟩, by omega, by omega⟩
  · rintro ⟨⟨p, hp, x1, x2⟩, y1, y2⟩
    obtain ⟨z0, z1, z2, z3, z4, z5, z6⟩ := mx_mn p.1 p.2 a b
    exact ⟨_, kept_mem.mpr ⟨p, hp, z0.mpr (by omega), rfl⟩, by dsimp only; omega, by dsimp only; omega⟩
theorem kept_canon {J : List (Int × Int)} {a b : Int} (h : Canon 0 J) : Canon 0 (kept J a b) := by
  refine ⟨fun q hq => ?_, ?_⟩
  · obtain ⟨p, hp, c, rfl⟩ := kept_mem.mp hq
    exact c
  · refine List.pairwise_filterMap.mpr (h.2.imp ?_)
    intro p q hpq u hu v hv
    unfold cutP at hu hv
    split at hu
    · split at hv
      · cases hu
        cases hv
        obtain ⟨_, z1, z2, z3, z4, _⟩ := mx_mn p.1 p.2 a b
        obtain ⟨_, y1, y2, y3, y4, _⟩ := mx_mn q.1 q.2 a b
        dsimp only
        omega
      · cases hv
    · cases hu
/-- side by side, from a on, to b -/
def Chain (a b : Int) : List (Int × Int) → Prop
  | [] => a = b
  | p :: r => p.1 = a ∧ p.1 < p.2 ∧ Chain p.2 b r
theorem chain_of : ∀ (L : List (Int × Int)) (a b : Int), a ≤ b → (∀ p ∈ L, p.1 < p.2 ∧ a ≤ p.1 ∧ p.2 ≤ b) → L.Pairwise (fun p q => p.1 ≤ q.1) → L.Pairwise (fun p q => ∀ x, ¬ (p.1 ≤ x ∧ x < p.2 ∧ q.1 ≤ x ∧ x < q.2)) → (∀ x, a ≤ x → x < b → Cov L x) → Chain a b L
  | [], a, b, hab, _, _, _, hc => by
    by_cases c : a < b
    · obtain ⟨p, hp, _⟩ := hc a (Int.le_refl _) c
      cases hp
    · show a = b
      omega
  | p :: r, a, b, hab, h1, h2, h3, hc => by
    obtain ⟨s1, s2⟩ := List.pairwise_cons.mp h2
    obtain ⟨d1, d2⟩ := List.pairwise_cons.mp h3
    obtain ⟨p1, p2, p3⟩ := h1 p List.mem_cons_self
    obtain ⟨q, hq, q1, q2⟩ := hc a (Int.le_refl _) (by omega)
    have hpa : p.1 = a := by
      rcases List.mem_cons.mp hq with rfl | hq
      · omega
      · have := s1 q hq; omega
    refine ⟨hpa, p1, chain_of r p.2 b p3 (fun z hz => ?_) s2 d2 fun x x1 x2 => ?_⟩
    · obtain ⟨z1, z2, z3⟩ := h1 z (List.mem_cons_of_mem _ hz)
      have := s1 z hz
      have := d1 z hz z.1
      exact ⟨z1, by omega, z3⟩
    · obtain ⟨z, hz, z1, z2⟩ := hc x (by omega) x2
      rcases List.mem_cons.mp hz with rfl | hz
      · omega
      · exact ⟨z, hz, z1, z2⟩
theorem chain_len : ∀ (L : List (Int × Int)) (a b : Int), Chain a b L → slen L = b - a
  | [], a, b, h => by
    have h : a = b := h
    rw [show slen [] = 0 from rfl]; omega
  | p :: r, a, b, ⟨h1, _, h3⟩ => by
    have e : slen (p :: r) = (p.2 - p.1) + slen r := by unfold slen; rw [List.map_cons, List.sum_cons]
    rw [e, chain_len r p.2 b h3]; omega
theorem slen_perm {l m : List (Int × Int)} (h : l.Perm m) : slen l = slen m := by
  induction h with
  | nil => rfl
  | cons x _ ih => unfold slen at ih ⊢; rw [List.map_cons, List.map_cons, List.sum_cons, List.sum_cons, ih]
  | swap x y l => unfold slen; simp only [List.map_cons, List.sum_cons]; omega
  | trans _ _ a b => rw [a, b]
/-- the rows of the law -/
theorem rows_chain {ps : List (Int × Int)} {a b : Int} (hab : a ≤ b) : Chain a b (iSort lt1 (kept (jnd 0 ps) a b ++ gps ps a b)) := by
  have kc := kept_canon (a := a) (b := b) (jnd_canon (Int.le_refl 0) (ps := ps))
  have gc := gps_canon (ps := ps) (a := a) (b := b)
  have gi := gps_in (ps := ps) (a := a) (b := b)
  have dis : ∀ {l : List (Int × Int)}, Canon 0 l → l.Pairwise (fun p q => ∀ x, ¬ (p.1 ≤ x ∧ x < p.2 ∧ q.1 ≤ x ∧ x < q.2)) := fun h => h.2.imp fun {p q} z x y => by omega
  have kd : ∀ q ∈ kept (jnd 0 ps) a b, a ≤ q.1 ∧ q.2 ≤ b ∧ ∀ x, q.1 ≤ x → x < q.2 → Cov ps x := fun q hq => by
    have hc := kc.1 q hq
    have c1 := kept_cov.mp (⟨q, hq, Int.le_refl _, hc⟩ : Cov (kept (jnd 0 ps) a b) q.1)
    have c2 := kept_cov.mp (⟨q, hq, by omega, by omega⟩ : Cov (kept (jnd 0 ps) a b) (q.2 - 1))
    exact ⟨by omega, by omega, fun x x1 x2 => (jnd_ok.2.2 x).mp (kept_cov.mp ⟨q, hq, x1, x2⟩).1⟩
  have dd : (kept (jnd 0 ps) a b ++ gps ps a b).Pairwise (fun p q => ∀ x, ¬ (p.1 ≤ x ∧ x < p.2 ∧ q.1 ≤ x ∧ x < q.2)) := by
    refine List.pairwise_append.mpr ⟨dis kc, dis gc, fun p hp q hq x z => ?_⟩
    exact (gi.1 q hq).2.2.2 x z.2.2.1 z.2.2.2 ((kd p hp).2.2 x z.1 z.2.1)
  have pm : (iSort lt1 (kept (jnd 0 ps) a b ++ gps ps a b)).Perm (kept (jnd 0 ps) a b ++ gps ps a b) := (iSort_ok swo_lt1 _).2.perm
  refine chain_of _ a b hab (fun p hp => ?_) srt1 ?_ fun x x1 x2 => ?_
  · rcases List.mem_append.mp (iSort_mem.mp hp) with h | h
    · exact ⟨kc.1 p h, (kd p h).1, (kd p h).2.1⟩
    · have := gi.1 p h
      exact ⟨this.1, this.2.1, this.2.2.1⟩
  · exact (pm.pairwise_iff (fun {p q} h x z => h x ⟨z.2.2.1, z.2.2.2, z.1, z.2.1⟩)).mpr dd
  · by_cases c : Cov ps x
    · obtain ⟨q, hq, z⟩ := kept_cov.mpr ⟨(jnd_ok.2.2 x).mpr c, x1, x2⟩
      exact ⟨q, iSort_mem.mpr (List.mem_append_left _ hq), z⟩
    · obtain ⟨q, hq, z⟩ := gi.2 x x1 x2 c
      exact ⟨q, iSort_mem.mpr (List.mem_append_right _ hq), z⟩
theorem part_sum {ps : List (Int × Int)} {a b : Int} (hab : a ≤ b) : slen (jnd 0 (kept (jnd 0 ps) a b)) + slen (jnd 0 (gps ps a b)) = b - a := by
  have e : ∀ l m : List (Int × Int), slen (l ++ m) = slen l + slen m := fun l m => by unfold slen; rw [List.map_append, List.sum_append_int]
  rw [canon_jnd (Int.le_refl 0) (kept_canon (jnd_canon (Int.le_refl 0))), canon_jnd (Int.le_refl 0) gps_canon, ← e, ← slen_perm (iSort_ok swo_lt1 _).2.perm]
  exact chain_len _ a b (rows_chain hab)
theorem kept_free {ps : List (Int × Int)} {a b : Int} : ∀ p ∈ kept (jnd 0 ps) a b, ∀ q ∈ gps ps a b, ¬ max p.1 q.1 < min p.2 q.2 := by
  intro p hp q hq z
  obtain ⟨z0, z1, z2, z3, z4, z5, z6⟩ := mx_mn p.1 p.2 q.1 q.2
  have gi := (gps_in (ps := ps) (a := a) (b := b)).1 q hq
  refine gi.2.2.2 (max p.1 q.1) (by omega) (by omega) ?_
  exact (jnd_ok.2.2 _).mp (kept_cov.mp ⟨p, hp, z1, by omega⟩).1
theorem nodup_len {α : Type} [BEq α] [LawfulBEq α] : ∀ {l m : List α}, l.Nodup → (∀ x ∈ l, x ∈ m) → l.length ≤ m.length
  | [], _, _, _ => Nat.zero_le _
  | x :: r, m, hn, hs => by
    obtain ⟨h1, h2⟩ := List.nodup_cons.mp hn
    have hx := hs x List.mem_cons_self
    have := nodup_len (m := m.erase x) h2 fun y hy => by
      have hne : y ≠ x := fun e => h1 (e ▸ hy)
      exact (List.mem_erase_of_ne hne).mpr (hs y (List.mem_cons_of_mem _ hy))
    rw [List.length_erase_of_mem hx] at this
    have : 0 < m.length := List.length_pos_of_mem hx
    rw [List.length_cons]
    omega
/-- wider apart: no more of them, and each within one -/
theorem wide_len {ap : Int} (h0 : 0 ≤ ap) {ps : List (Int × Int)} : (jnd ap ps).length ≤ (jnd 0 ps).length := by
  have cw := jnd_covR h0 (ps := ps)
  have kw := jnd_canon h0 (ps := ps)
  have k0 := jnd_canon (Int.le_refl 0) (ps := ps)
  have start : ∀ {l : List (Int × Int)} {P : Int → Prop}, CovR ap P l → ∀ p ∈ l, P p.1 ∧ ¬ P (p.1 - 1) := by
    intro l
    induction l with
    | nil => intro P _ p hp; cases hp
    | cons q r ih =>
      obtain ⟨f, t⟩ := q
      rintro P ⟨a, b, c, d, e, g, k⟩ p hp
      rcases List.mem_cons.mp hp with rfl | hp
      · exact ⟨b, g _ (by omega) (by dsimp only; omega)⟩
      · obtain ⟨x1, x2⟩ := ih k p hp
        exact ⟨x1.1, fun z => x2 ⟨z, by have := x1.2; omega⟩⟩
  have sub : ∀ x ∈ (jnd ap ps).map (·.1), x ∈ (jnd 0 ps).map (·.1) := fun x hx => by
    obtain ⟨p, hp, rfl⟩ := List.mem_map.mp hx
    obtain ⟨s1, s2⟩ := start cw p (List.mem_reverse.mpr hp)
    obtain ⟨q, hq, q1, q2⟩ := (jnd_ok.2.2 _).mpr s1
    have : q.1 = p.1 := by
      by_cases c : q.1 = p.1
      · exact c
      · exact absurd ((jnd_ok.2.2 _).mp ⟨q, hq, by omega, by omega⟩) s2
    exact List.mem_map.mpr ⟨q, hq, this⟩
  have nd : ((jnd ap ps).map (·.1)).Nodup := by
    refine List.pairwise_map.mpr (List.Pairwise.imp_of_mem (fun {p q} hp hq z => ?_) kw.2)
    have := kw.1 p hp
    omega
  have := nodup_len nd sub
  rwa [List.length_map, List.length_map] at this
theorem wide_in {ap : Int} (h0 : 0 ≤ ap) {ps : List (Int × Int)} : ∀ p ∈ jnd 0 ps, ∃ w ∈ jnd ap ps, w.1 ≤ p.1 ∧ p.2 ≤ w.2 := by
  intro p hp
  have cw := jnd_covR h0 (ps := ps)
  obtain ⟨_, _, h3⟩ := cw.list h0
  have kw := jnd_canon h0 (ps := ps)
  obtain ⟨y1, y2, _⟩ := jnd_ok.1 p hp
  obtain ⟨w, hw, w1, w2⟩ := (cov_reverse _ _).mp (h3 p.1 y2)
  refine ⟨w, hw, w1, ?_⟩
  by_cases c : p.2 ≤ w.2
  · exact c
  · have cp : Cov ps w.2 := (jnd_ok.2.2 _).mp ⟨p, hp, by omega, by omega⟩
    obtain ⟨v, hv, v1, v2⟩ := (cov_reverse _ _).mp (h3 w.2 cp)
    obtain ⟨i, hi, rfl⟩ := List.mem_iff_getElem.mp hw
    obtain ⟨j, hj, rfl⟩ := List.mem_iff_getElem.mp hv
    rcases Nat.lt_trichotomy i j with z | z | z
    · have := List.pairwise_iff_getElem.mp kw.2 i j hi hj z; omega
    · subst z; omega
    · have := List.pairwise_iff_getElem.mp kw.2 j i hj hi z
      have := kw.1 _ hw
      omega
/-- each one meets just what is put together where it lies -/
theorem own_part {ps : List (Int × Int)} : ∀ p ∈ ps, p.1 < p.2 → ∃ w ∈ jnd 0 ps, max p.1 w.1 = p.1 ∧ min p.2 w.2 = p.2 := by
  intro p hp hlt
  have k0 := jnd_canon (Int.le_refl 0) (ps := ps)
  have cv : ∀ x, p.1 ≤ x → x < p.2 → Cov (jnd 0 ps) x := fun x x1 x2 => (jnd_ok.2.2 x).mpr ⟨p, hp, x1, x2⟩
  obtain ⟨w, hw, w1, w2⟩ := cv p.1 (Int.le_refl _) hlt
  refine ⟨w, hw, by rw [Int.max_def]; split <;> omega, ?_⟩
  by_cases c : p.2 ≤ w.2
  · rw [Int.min_def]; split <;> omega
  · obtain ⟨v, hv, v1, v2⟩ := cv w.2 (by omega) (by omega)
    obtain ⟨i, hi, rfl⟩ := List.mem_iff_getElem.mp hw
    obtain ⟨j, hj, rfl⟩ := List.mem_iff_getElem.mp hv
    rcases Nat.lt_trichotomy i j with z | z | z
    · have := List.pairwise_iff_getElem.mp k0.2 i j hi hj z; omega
    · subst z; omega
    · have := List.pairwise_iff_getElem.mp k0.2 j i hj hi z
      have := k0.1 _ hw
      omega
end
set_option maxHeartbeats 8000000
local macro_rules | `(tactic| walk_at "c") => `(tactic| first | omega | decide | exact ⟨by omega, by omega⟩ | exact ⟨by decide, by decide⟩ | exact .inl ⟨by omega, by omega⟩ | exact .inr ⟨by omega, by omega⟩ | exact ⟨by omega, by omega, by omega⟩ | exact ⟨by decide, by decide, by decide⟩ | exact le_line (Nat.le_of_ble_eq_true rfl))
local macro_rules | `(tactic| walk_at "a") => `(tactic| with_reducible (first | refine i_seq ?_ | refine i_asg ?_ | refine i_cons ?_ | refine i_c ?_ | refine i_nil ?_ | refine i_op ?_ | refine i_call ?_ | refine i_cb ?_ | refine i_name ?_ | refine i_next ?_ | refine i_ret ?_ | refine i_drop ?_ | refine i_if ?_ | refine i_test ?_ | refine i_and ?_ | refine i_or ?_ | refine i_not ?_ | refine i_ite ?_ | refine i_lst ?_ | refine i_tup ?_ | refine i_bm ?_ | refine i_un ?_ | refine i_par ?_ | refine i_gsub ?_ | refine i_chain ?_ | refine i_sl ?_ | refine i_nopart ?_ | refine i_part ?_ | refine i_m1 ?_ | refine i_m0 ?_ | refine i_lc ?_ | refine i_iList ?_ | refine i_iTup ?_ | refine i_iStr ?_ | refine i_r1 ?_ | refine i_set ?_ | refine i_callk ?_ | refine i_callN ?_ | refine i_ckw ?_ | refine i_revL ?_ | refine i_tB ?_ | refine i_fld ?_ | refine i_sfld ?_ | refine i_make ?_ | refine i_makeN ?_ | refine i_meth ?_ | refine i_andV ?_ | refine i_orV ?_ | refine i_notV ?_ | refine iteT ?_ | refine iteF ?_ | refine i_yes ?_))
local macro_rules | `(tactic| walk_at "s") => `(tactic| repeat (first | walk_at "a" | refine i_var rfl ?_ | refine i_aug rfl ?_ | refine And.intro ⟨_, rfl⟩ ?_ | refine ⟨_, rfl, ?_⟩ | refine ⟨_, _, rfl, rfl, ?_⟩ | refine ⟨_, _, rfl, ?_⟩ | refine ⟨rfl, ?_⟩ | refine And.intro (by walk_at "c") ?_))
section
open LamX (Tabs)
abbrev RStretch (C : Addr) := RStr C
abbrev spStretch___eq__ (K : PySem.W.Frag) (C : Addr) := spSEq K C
def rOrR (r r' : R2) : R2 := fun x y H Q => r x y H Q ∨ r' x y H Q
theorem op_orR {X : Cx} {f : Value → Value → Sem Value} {r r' : R2} (h : OpR X f r) (h' : OpR X f r') : OpR X f (rOrR r r') := fun pins s σ H x y v u Q I rx ry z => z.elim (h pins s σ H x y v u Q I rx ry) (h' pins s σ H x y v u Q I rx ry)
def spMeet (C : Addr) : Sp := fun vs H Q _ => ∃ (p o : Addr) (a b c d : Int), vs = [.ref p, .ref o] ∧ StrAt C H p a b ∧ StrAt C H o c d ∧
  (max a c < min b d → ∀ z H', Same H H' → H z = none → StrAt C H' z (max a c) (min b d) → Q (.ref z) H') ∧ (¬ max a c < min b d → Q .non H)
def spMade7 (C : Addr) : Sp := fun vs H Q _ => ∃ (a c : Addr) (n : Nat), vs = [.ref a] ∧ n < 800000 ∧ Tape H a c n ∧
  ∀ (p : Addr) (xs : List V) (ps : List (Int × Int)) H', H' p = some (.lst xs) → StrsAt C H' xs ps → ps.length ≤ 60 → (∀ q ∈ ps, 0 ≤ q.1 ∧ q.1 ≤ q.2 ∧ q.2 ≤ 200000) → p ≠ a → Tape H' a c (n + 500) → Keep a H H' → Q (.ref p) H'
def spBeside7 (K : PySem.W.Frag) (C : Addr) : Sp := fun vs H Q _ => ∃ (p o : Addr) (a b : Int) (xs : List V) (ps : List (Int × Int)), vs = [.ref p, .ref o] ∧ SqL K H p xs ∧ StrsAt C H xs ps ∧ StrAt C H o a b ∧ Chain a b ps ∧ (∀ q ∈ ps, q.2 - q.1 < 2 ^ 61) ∧ Q (.bl true) H
def spInside7 (C : Addr) : Sp := fun vs H Q _ => ∃ (p o : Addr) (a b c d : Int), vs = [.ref p, .ref o] ∧ StrAt C H p a b ∧ StrAt C H o c d ∧ Q (.bl (decide (c ≤ a ∧ b ≤ d))) H
theorem lst_nil {D : EqvB} {H : Hp} {p l : Addr} {xs : List V} (ep : H p = some (.lst xs)) (el : H l = some (.lst [])) : DListB D (.ref p) (.ref l) (decide (xs.length = 0)) H := by
  refine ⟨p, l, xs, [], rfl, rfl, ep, el, ?_⟩
  by_cases c : xs.length = 0
  · exact .inr ⟨c, xs.length, Nat.le_refl _, by rw [decide_eq_true c, decide_eq_true rfl], fun i x y hx hy hi => by cases hy⟩
  · exact .inl ⟨c, decide_eq_false c⟩
variable {P : Program} {w : World} {K : PySem.W.Frag} {mg : Str → Option Value} {base : Heap} (T : Ev K mg base)
theorem okmeet : FnOk P w K mg base CX0 3 T.fmeet T.fdmeet ["one", "other"] (spMeet T.CStretch) := by
  refine T.Fmeet.ok scMeet (fun vs H Q E h => ?_) (fun cdv A outer s H vs Q E hr h => ?_)
  · obtain ⟨p, o, a, b, c, d, rfl, _⟩ := h
    rfl
  · obtain ⟨p, o, a, b, c, d, rfl, hp, ho, q1, q2⟩ := h
    refine ⟨_,
      (pss_cons (ps_set (i := 2) scMeet.nd rfl (.inl rfl) (pe_callB (call_max2 rfl) (by rfl) T.mmax (by decide +kernel) (pa_cons (pe_fld (pv 0) rfl) (pa_cons (pe_fld (pv 1) rfl) pa_nil))))
      (pss_cons (ps_set (i := 3) scMeet.nd rfl (.inl rfl) (pe_callB (call_min2 rfl) (by rfl) T.mmin (by decide +kernel) (pa_cons (pe_fld (pv 0) rfl) (pa_cons (pe_fld (pv 1) rfl) pa_nil))))
      (pss_cons (ps_if (pt_cmpR op_lt (pv 2) (pv 3) (nomark _))
      (pss_one (ps_ret (pe_makeN (mk_Stretch T) (okStretch___init__ T) (hr.mono (by decide)) (by rfl) T.gCStretch (kb_Stretch___init___3 T).choose_spec pass0 (pa_cons (pv 2) (pa_cons (pv 3) pa_nil)) pk_nil)))
      pss_nil)
      (pss_one (ps_ret pe_non)))))
      , ?_⟩
    walk_at "s"
    refine i_first T hp ?_
    walk_at "s"
    refine i_first T ho ?_
    walk_at "s"
    refine i_behind T hp ?_
    walk_at "s"
    refine i_behind T ho ?_
    walk_at "s"
    rw [if_max, if_min]
    refine ite2 (fun c1 => ?_) (fun c1 => ?_)
    · have c2 : max a c < min b d := of_decide_eq_true c1
      walk_at "s"
      refine mkStr (a := max a c) (b := min b d) (y := .int (min b d)) (.inl rfl) (Int.le_of_lt c2) fun z H4 hz hz4 s34 => ?_
      walk_at "s"
      exact q1 c2 z H4 s34 hz hz4
    · exact q2 fun z => c1 (decide_eq_true z)
theorem ok_law_inside : FnOk P w K mg base CX0 1 T.f_law_inside T.fd_law_inside ["_law_one", "_law_other"] (spInside7 T.CStretch) := by
  refine T.F_law_inside.ok scInside (fun vs H Q E h => ?_) (fun cdv A outer s H vs Q E hr h => ?_)
  · obtain ⟨p, o, a, b, c, d, rfl, _⟩ := h
    rfl
  · obtain ⟨p, o, a, b, c, d, rfl, hp, ho, q⟩ := h
    refine ⟨_,
      (pss_one (ps_ret (pe_and (pe_cmpR op_le (pe_fld (pv 1) rfl) (pe_fld (pv 0) rfl) (nomark _)) (pe_one (pe_cmpR op_le (pe_fld (pv 0) rfl) (pe_fld (pv 1) rfl) (nomark _))))))
      , ?_⟩
    walk_at "s"
    refine i_first T ho ?_
    walk_at "s"
    refine i_first T hp ?_
    walk_at "s"
    refine ite2 (fun c1 => ?_) (fun c1 => ?_)
    · have c2 : c ≤ a := of_decide_eq_true c1
      walk_at "s"
      refine i_behind T hp ?_
      walk_at "s"
      refine i_behind T ho ?_
      walk_at "s"
      show Q (.bl (decide (b ≤ d))) H
      rw [show decide (b ≤ d) = decide (c ≤ a ∧ b ≤ d) from decide_eq_decide.mpr ⟨fun z => ⟨c2, z⟩, fun z => z.2⟩]
      exact q
    · have c2 : ¬ c ≤ a := fun z => c1 (decide_eq_true z)
      walk_at "s"
      rw [decide_eq_false (p := c ≤ a ∧ b ≤ d) fun z => c2 z.1] at q
      exact q
theorem ok_law_beside : FnOk P w K mg base CX0 3 T.f_law_beside T.fd_law_beside ["_law_some", "_law_whole"] (spBeside7 K T.CStretch) := by
  refine T.F_law_beside.ok scBeside (fun vs H Q E h => ?_) (fun cdv A outer s H vs Q E hr h => ?_)
  · obtain ⟨p, o, a, b, xs, ps, rfl, _⟩ := h
    rfl
  · obtain ⟨p, o, a, b, xs, ps, rfl, hp, hx, ho, hc, hb, q⟩ := h
    refine ⟨_,
      (pss_cons (ps_set (i := 2) scBeside.nd rfl (.inl rfl) (pe_fld (pv 1) rfl))
      (pss_cons (ps_for PassesOwn.never rfl (pi_list (pv 0)) (pg_name (i := 3) scBeside.nd rfl (.inl rfl))
      (pss_cons (ps_if (PW.pt (pw_or (pt_cmpR op_ne (pe_fld (pv 3) rfl) (pv 2) (nomark _)) (pw_or1 (pt_cmpR op_eq (pe_callB (call_lenOwn (mt_Stretch___len__ T).at_ (mt_Stretch___len__ T).fn (okStretch___len__ T) T.bStretch___len__ (hr.mono (by decide)) pass0) (by rfl) T.mlen PySem.boot_len (pa_cons (pv 3) pa_nil)) pe_int (nomark _)))))
      (pss_one (ps_ret pe_bl))
      pss_nil)
      (pss_one (ps_set (i := 2) scBeside.nd rfl (.inl rfl) (pe_fld (pv 3) rfl)))))
      (pss_one (ps_ret (pe_cmpR op_eq (pv 2) (pe_fld (pv 1) rfl) (nomark _))))))
      , ?_⟩
    have hxl := hx.len
    walk_at "s"
    refine i_first T ho ?_
    walk_at "s"
    refine ⟨⟨_, hp⟩, ?_⟩
    refine for_list (K := K) (a := p) (xs := xs) (fun i σ H' => ∃ (w3 : Option V) (h : Int), σ = [some (.ref p), some (.ref o), some (.int h), w3] ∧ Chain h b (ps.drop i) ∧ H' = H)
      ⟨_, a, rfl, hc, rfl⟩ (fun i σ H' _ ⟨_, _, _, _, z⟩ => by rw [z]; exact hp) ?_ ?_
    · rintro i x σ H' hxi ⟨w3, h, rfl, hch, rfl⟩
      obtain ⟨y, f, g, rfl, hpi, hy⟩ := hx.at hxi
      have hlt : i < ps.length := (List.getElem?_eq_some_iff.mp hpi).1
      have hgb := hb _ (List.mem_of_getElem? hpi)
      rw [List.drop_eq_getElem_cons hlt, (List.getElem?_eq_some_iff.mp hpi).2] at hch
      obtain ⟨e1, e2, e3⟩ := hch
      dsimp only at e1 e2 e3 hgb
      subst e1
      obtain ⟨dx, eo⟩ := id hy
      walk_at "s"
      refine i_first T hy ?_
      walk_at "s"
      rw [ne_self]
      refine iteF ?_
      walk_at "s"
      refine ⟨y, dx, _, rfl, eo, y, f, g, rfl, hy, Int.le_of_lt e2, by omega, g - f, rfl, by show 0 ≤ g - f; omega, by omega, ?_⟩
      walk_at "s"
      refine ite2 (fun c1 => absurd (V.int.inj (of_decide_eq_true c1)) (by omega)) (fun c1 => ?_)
      walk_at "s"
      refine i_behind T hy ?_
      walk_at "s"
      rfl
    · rintro σ H' ⟨w3, h, rfl, hch, rfl⟩
      rw [hxl, List.drop_length] at hch
      have hch : h = b := hch
      subst hch
      walk_at "s"
      refine i_behind T ho ?_
      walk_at "s"
      rw [decide_eq_true rfl]
      exact q
theorem ok_law_made : FnOk P w K mg base CX0 4 T.f_law_made T.fd_law_made ["_law_tape_here"] (spMade7 T.CStretch) := by
  refine T.F_law_made.ok scMade (fun vs H Q E h => ?_) (fun cdv A outer s H vs Q E hr h => ?_)
  · obtain ⟨a, c, n, rfl, _⟩ := h
    rfl
  · obtain ⟨a, c, n, rfl, hn, hT, q⟩ := h
    refine ⟨_,
      (pss_cons (ps_set (i := 1) scMade.nd rfl (.inl rfl) (pe_lst pa_nil))
      (pss_cons (ps_for PassesOwn.never rfl (pi_range1 (by rfl) T.mrange (pa_cons (pe_call (ok_law_draw T) (hr.mono (by decide)) (by rfl) T.g_law_draw T.F_law_draw.kp T.b_law_draw .nil pass0 (pa_cons (pv 0) (pa_cons (pe_call (ok_law_pick T) (hr.mono (by decide)) (by rfl) T.g_law_pick T.F_law_pick.kp T.b_law_pick .nil pass0 (pa_cons (pv 0) (pa_cons (pe_lst (pa_cons pe_int (pa_cons pe_int (pa_cons pe_int pa_nil)))) pa_nil))) pa_nil))) pa_nil)) (pg_name (i := 2) scMade.nd rfl (.inl rfl))
      (pss_cons (ps_set (i := 3) scMade.nd rfl (.inl rfl) (pe_call (ok_law_draw T) (hr.mono (by decide)) (by rfl) T.g_law_draw T.F_law_draw.kp T.b_law_draw .nil pass0 (pa_cons (pv 0) (pa_cons pe_int pa_nil))))
      (pss_cut (ps_if (PW.pt (pw_and (pt_cmpR (op_dqB true monStretch (dqB_ins (okStretch___eq__ T) hspStretch (mt_Stretch___eq__ T).at_ (mt_Stretch___eq__ T).fn T.bStretch___eq__ pass0 selfStretch) (hr.mono (by decide))) (pv 1) (pe_lst pa_nil) (nomark _)) (pw_and1 (pt_cmpR op_eq (pe_call (ok_law_draw T) (hr.mono (by decide)) (by rfl) T.g_law_draw T.F_law_draw.kp T.b_law_draw .nil pass0 (pa_cons (pv 0) (pa_cons pe_int pa_nil))) pe_int (nomark _)))))
      (pss_one (ps_set (i := 3) scMade.nd rfl (.inl rfl) (pe_op op_add (pe_fld (pe_call (ok_law_pick T) (hr.mono (by decide)) (by rfl) T.g_law_pick T.F_law_pick.kp T.b_law_pick .nil pass0 (pa_cons (pv 0) (pa_cons (pv 1) pa_nil))) rfl) (pe_call (ok_law_draw T) (hr.mono (by decide)) (by rfl) T.g_law_draw T.F_law_draw.kp T.b_law_draw .nil pass0 (pa_cons (pv 0) (pa_cons pe_int pa_nil))))))
      pss_nil)
      (pss_one (ps_expr (pe_bm PySem.F.plainAttrs_list PySem.F.slot_list_append PySem.F.type_list_append mt_append (pv 1) (pa_cons (pe_makeN (mk_Stretch T) (okStretch___init__ T) (hr.mono (by decide)) (by rfl) T.gCStretch (kb_Stretch___init___3 T).choose_spec pass0 (pa_cons (pv 3) (pa_cons (pe_op op_add (pv 3) (pe_call (ok_law_pick T) (hr.mono (by decide)) (by rfl) T.g_law_pick T.F_law_pick.kp T.b_law_pick .nil pass0 (pa_cons (pv 0) (pa_cons (pe_lst (pa_cons pe_int (pa_cons pe_int (pa_cons (pe_call (ok_law_draw T) (hr.mono (by decide)) (by rfl) T.g_law_draw T.F_law_draw.kp T.b_law_draw .nil pass0 (pa_cons (pv 0) (pa_cons pe_int pa_nil))) (pa_cons (pe_call (ok_law_draw T) (hr.mono (by decide)) (by rfl) T.g_law_draw T.F_law_draw.kp T.b_law_draw .nil pass0 (pa_cons (pv 0) (pa_cons pe_int pa_nil))) pa_nil))))) pa_nil)))) pa_nil)) pk_nil) pa_nil)))))))
      (pss_one (ps_ret (pv 1)))))
      , ?_⟩
    walk_at "s"
    intro f hf
    have ef0 : (upd H f (.lst [])) f = some (.lst []) := upd_same
    have T0 := hT.new (o := .lst []) hf
    have nfa := hT.ne hf
    have nfc := hT.nec hf
    have k0 : Keep a H (upd H f (.lst [])) := Keep.refl.new hf
    generalize upd H f (.lst []) = H0 at ef0 T0 k0
    walk_at "s"
    intro l hl
    walk_at "s"
    refine pkn T0 (by exact Nat.le_of_ble_eq_true rfl) (by exact Nat.le_of_ble_eq_true rfl) (by omega) (fun x H1 hx T1 k1 => ?_) l hl
    have hx2 : ∃ z : Int, x = .int z ∧ 0 < z ∧ z ≤ 61 := by
      simp only [List.mem_cons, List.not_mem_nil, or_false] at hx
      rcases hx with rfl | rfl | rfl <;> exact ⟨_, rfl, by decide, by decide⟩
    obtain ⟨m, rfl, m0, m1⟩ := hx2
    walk_at "s"
    refine dr m T1 (by omega) (by omega) (by omega) fun many H2 many0 many1 T2 k2 => ?_
    have k02 := (k0.trans k1).trans k2
    have ef2 := (k1.trans k2) _ _ nfa ef0
    walk_at "s"
    refine for_range (lo := 0) (n := many.toNat) (fun i σ H' => ∃ (w2 w3 : Option V) (xs : List V) (ps : List (Int × Int)), σ = [some (.ref a), some (.ref f), w2, w3] ∧ H' f = some (.lst xs) ∧ StrsAt T.CStretch H' xs ps ∧ ps.length = i ∧ (∀ q ∈ ps, 0 ≤ q.1 ∧ q.1 ≤ q.2 ∧ q.2 ≤ 88000 + 1450 * i) ∧ Tape H' a c (n + 2 + 8 * i) ∧ Keep a H H')
      ⟨_, _, [], [], rfl, ef2, .nil, rfl, (fun q hq => by cases hq), T2, k02⟩ ?_ ?_
    · rintro i σ H3 hi ⟨w2, w3, xs, ps, rfl, ef, hs, hpl, hok, T3, k3⟩
      have hxl := hs.len
      walk_at "s"
      refine dr 86400 T3 (by omega) (by omega) (by omega) fun fi0 H4 f00 f01 T4 k4 => ?_
      obtain ⟨tys3, hTa3⟩ := T3.tape
      have ef4 := k4 _ _ nfa ef
      have hs4 : StrsAt T.CStretch H4 xs ps := hs.mono fun _ _ _ z => z.keep hTa3 k4
      walk_at "s"
      refine ⟨fun σ H5 => ∃ fi : Int, (0 ≤ fi ∧ fi ≤ 88000 + 1450 * i + 2) ∧ σ = [some (.ref a), some (.ref f), some (.int (0 + (i : Int))), some (.int fi)] ∧ H5 f = some (.lst xs) ∧ StrsAt T.CStretch H5 xs ps ∧ Tape H5 a c (n + 2 + 8 * i + 4) ∧ Keep a H3 H5, ?_, ?_⟩
      · walk_at "s"
        intro l2 hl2
        have sl : Same H4 (upd H4 l2 (.lst [])) := same_upd hl2
        have el : (upd H4 l2 (.lst [])) l2 = some (.lst []) := upd_same
        have Tl := T4.new (o := .lst []) hl2
        have kl := k4.new (o := .lst []) hl2
        generalize upd H4 l2 (.lst []) = H5 at sl el Tl kl
        have ef5 := sl _ _ ef4
        have hs5 := hs4.same sl
        refine ⟨_, lst_nil ef5 el, fun H6 e6 => ?_⟩
        have s56 : Same H5 H6 := e6
        have T6 := Tl.same s56
        have k6 := kl.same s56
        have ef6 := s56 _ _ ef5
        have hs6 := hs5.same s56
        refine ⟨_, rfl, ?_⟩
        by_cases c1 : xs.length = 0
        · rw [decide_eq_true c1]
          refine iteF ?_
          exact ⟨fi0, ⟨f00, by omega⟩, rfl, ef6, hs6, T6.mono (by omega), k6⟩
        · rw [decide_eq_false c1]
          refine iteT ?_
          walk_at "s"
          refine dr 2 T6 (by omega) (by omega) (by omega) fun g H7 g0 g1 T7 k7 => ?_
          obtain ⟨tys6, hTa6⟩ := T6.tape
          have ef7 := k7 _ _ nfa ef6
          have hs7 : StrsAt T.CStretch H7 xs ps := hs6.mono fun _ _ _ z => z.keep hTa6 k7
          walk_at "s"
          refine ite2 (fun c2 => ?_) (fun c2 => ?_)
          · walk_at "s"
            refine pk T7 ef7 nfa (by omega) (by omega) (by omega) fun x H8 hx T8 k8 => ?_
            obtain ⟨j, hxj⟩ := List.mem_iff_getElem?.mp hx
            obtain ⟨o, b1, b2, rfl, hpj, ho⟩ := hs7.at hxj
            have hbb := hok _ (List.mem_of_getElem? hpj)
            obtain ⟨tys7, hTa7⟩ := T7.tape
            have ho8 := ho.keep hTa7 k8
            have ef8 := k8 _ _ nfa ef7
            have hs8 : StrsAt T.CStretch H8 xs ps := hs7.mono fun _ _ _ z => z.keep hTa7 k8
            dsimp only at hbb
            refine i_behind T ho8 ?_
            walk_at "s"
            refine dr 3 T8 (by omega) (by omega) (by omega) fun g2 H9 g20 g21 T9 k9 => ?_
            obtain ⟨tys8, hTa8⟩ := T8.tape
            walk_at "s"
            exact ⟨b2 + g2, ⟨by omega, by omega⟩, rfl, k9 _ _ nfa ef8, hs8.mono fun _ _ _ z => z.keep hTa8 k9, T9.mono (by omega), ((k6.trans k7).trans k8).trans k9⟩
          · exact ⟨fi0, ⟨f00, by omega⟩, rfl, ef7, hs7, T7.mono (by omega), k6.trans k7⟩
      clear w3
      rintro σ H5 ⟨fi, hfi, rfl, ef5, hs5, T5, k35⟩
      walk_at "s"
      refine ⟨.inl ⟨rfl, _, SqL.of ef5⟩, ?_⟩
      walk_at "s"
      refine dr 1441 T5 (by omega) (by omega) (by omega) fun g1 H6 g10 g11 T6 k6 => ?_
      walk_at "s"
      refine dr 60 T6 (by omega) (by omega) (by omega) fun g2 H7 g20 g21 T7 k7 => ?_
      walk_at "s"
      intro l2 hl2
      walk_at "s"
      refine pkn T7 (by exact Nat.le_of_ble_eq_true rfl) (by exact Nat.le_of_ble_eq_true rfl) (by omega) (fun x H8 hx T8 k8 => ?_) l2 hl2
      have hx2 : ∃ z : Int, x = .int z ∧ 0 ≤ z ∧ z < 1441 := by
        simp only [List.mem_cons, List.not_mem_nil, or_false] at hx
        rcases hx with rfl | rfl | rfl | rfl <;> exact ⟨_, rfl, by omega, by omega⟩
      obtain ⟨z, rfl, z0, z1⟩ := hx2
      obtain ⟨tys5, hTa5⟩ := T5.tape
      have k58 := (k6.trans k7).trans k8
      have ef8 := k58 _ _ nfa ef5
      have hs8 : StrsAt T.CStretch H8 xs ps := hs5.mono fun _ _ _ y => y.keep hTa5 k58
      walk_at "s"
      refine mkStr (a := fi) (b := fi + z) (y := .int (fi + z)) (.inl rfl) (by omega) fun o H9 ho ho9 s9 => ?_
      have ef9 := s9 _ _ ef8
      walk_at "s"
      refine ⟨f, _, _, rfl, rfl, ef9, lt_line (by omega), _, _, xs ++ [.ref o], ps ++ [(fi, fi + z)], rfl, upd_same, ((hs8.same s9).snoc ho9).upd ef9, by rw [List.length_append, hpl]; rfl, ?_, ?_, fun y u ny e => ?_⟩
      · intro q hq
        rcases List.mem_append.mp hq with hq | hq
        · obtain ⟨a1, a2, a3⟩ := hok q hq
          exact ⟨a1, a2, by push_cast; omega⟩
        · rw [List.mem_singleton.mp hq]
          exact ⟨by dsimp only; omega, by dsimp only; omega, by dsimp only; push_cast; omega⟩
      · exact ((T8.same s9).upd nfa nfc).mono (by omega)
      · have e3 := k3 y u ny e
        rw [upd_ne (ne_of_none e hf)]
        exact s9 _ _ (k58 _ _ ny (k35 _ _ ny e3))
    · rintro σ H3 ⟨w2, w3, xs, ps, rfl, ef, hs, hpl, hok, T3, k3⟩
      walk_at "s"
      exact q f xs ps H3 ef hs (by omega) (fun z hz => by have := hok z hz; omega) nfa (T3.mono (by omega)) k3
end
set_option maxHeartbeats 8000000
local macro_rules | `(tactic| walk_at "c") => `(tactic| first | omega | decide | exact ⟨by omega, by omega⟩ | exact ⟨by decide, by decide⟩ | exact .inl ⟨by omega, by omega⟩ | exact .inr ⟨by omega, by omega⟩ | exact ⟨by omega, by omega, by omega⟩ | exact ⟨by decide, by decide, by decide⟩ | exact le_line (Nat.le_of_ble_eq_true rfl))
local macro_rules | `(tactic| walk_at "a") => `(tactic| with_reducible (first | refine i_seq ?_ | refine i_asg ?_ | refine i_cons ?_ | refine i_c ?_ | refine i_nil ?_ | refine i_op ?_ | refine i_call ?_ | refine i_cb ?_ | refine i_name ?_ | refine i_next ?_ | refine i_ret ?_ | refine i_drop ?_ | refine i_if ?_ | refine i_test ?_ | refine i_and ?_ | refine i_or ?_ | refine i_not ?_ | refine i_ite ?_ | refine i_lst ?_ | refine i_tup ?_ | refine i_bm ?_ | refine i_un ?_ | refine i_par ?_ | refine i_gsub ?_ | refine i_chain ?_ | refine i_sl ?_ | refine i_nopart ?_ | refine i_part ?_ | refine i_m1 ?_ | refine i_m0 ?_ | refine i_lc ?_ | refine i_iList ?_ | refine i_iTup ?_ | refine i_iStr ?_ | refine i_r1 ?_ | refine i_set ?_ | refine i_callk ?_ | refine i_callN ?_ | refine i_ckw ?_ | refine i_revL ?_ | refine i_tB ?_ | refine i_fld ?_ | refine i_sfld ?_ | refine i_make ?_ | refine i_makeN ?_ | refine i_meth ?_ | refine i_andV ?_ | refine i_orV ?_ | refine i_notV ?_ | refine iteT ?_ | refine iteF ?_ | refine i_yes ?_))
local macro_rules | `(tactic| walk_at "s") => `(tactic| repeat (first | walk_at "a" | refine i_var rfl ?_ | refine i_aug rfl ?_ | refine And.intro ⟨_, rfl⟩ ?_ | refine ⟨_, rfl, ?_⟩ | refine ⟨_, _, rfl, rfl, ?_⟩ | refine ⟨_, _, rfl, ?_⟩ | refine ⟨rfl, ?_⟩ | refine And.intro (by walk_at "c") ?_))
section
open LamX (Tabs ExtN)
variable {TT : List (Addr × Str)} {H H' : Hp} {F c : Addr} {n : Nat}
theorem Tape.tabs (t : Tape H F c n) (k : Keep F H H') (h : Tabs TT H) : Tabs TT H' := by
  obtain ⟨ys, e⟩ := t.tape
  exact tabs_lst e (fun b o n e => k b o n e) h
theorem Tape.sm (t : Tape H F c n) (s : Sm TT H H') : Tape H' F c n := by
  obtain ⟨t, r, ns, h1, h2, h3, h4, h5, h6⟩ := t.ex
  exact ⟨t, r, ns, s.at h1, s.at h2, h3, h4, h5, h6⟩
end
theorem cov_full {ps : List (Int × Int)} (x : Int) : Cov (iSort lt1 (full ps)) x ↔ Cov ps x := by
  unfold Cov
  constructor
  · rintro ⟨p, hp, h⟩
    exact ⟨p, (full_mem (iSort_mem.mp hp)).1, h⟩
  · rintro ⟨p, hp, h1, h2⟩
    exact ⟨p, iSort_mem.mpr (List.mem_filter.mpr ⟨hp, decide_eq_true (by omega)⟩), h1, h2⟩
theorem cov_perm {ps qs : List (Int × Int)} (h : ∀ p, p ∈ qs ↔ p ∈ ps) (x : Int) : Cov qs x ↔ Cov ps x := by
  unfold Cov
  exact ⟨fun ⟨p, hp, z⟩ => ⟨p, (h p).mp hp, z⟩, fun ⟨p, hp, z⟩ => ⟨p, (h p).mpr hp, z⟩⟩
theorem paired_drop {α β : Type} {R : α → β → Prop} : ∀ {k : Nat} {l : List α} {m : List β}, Paired R l m → Paired R (l.drop k) (m.drop k)
  | 0, _, _, h => h
  | _ + 1, _, _, .nil => .nil
  | k + 1, _, _, .cons _ r => paired_drop (k := k) r
theorem paired_take {α β : Type} {R : α → β → Prop} : ∀ {k : Nat} {l : List α} {m : List β}, Paired R l m → Paired R (l.take k) (m.take k)
  | 0, _, _, _ => .nil
  | _ + 1, _, _, .nil => .nil
  | k + 1, _, _, .cons a r => .cons a (paired_take (k := k) r)
theorem kit_no {K : PySem.W.Frag} {C : Addr} {T : String} (ic : PySem.W.isClsIn K C = true) (ty : PySem.W.typeIn K (.ref C) = some (.type "type")) (ts : PySem.W.subIn K (.type T) (.ref C) = some false) : PySem.W.kitOne K (.type T) (.ref C) = some false := by
  have ic' : (PySem.W.clsIn K C).isSome = true := ic
  have e : ((PySem.W.clsIn K C).isSome && PySem.W.typeIn K (.ref C) == some (.type "type")) = true := by rw [ic', ty]; rfl
  show (if (Value.type T == Value.ref C) = true then some true else if ((PySem.W.clsIn K C).isSome && PySem.W.typeIn K (.ref C) == some (.type "type")) = true then PySem.W.subIn K (.type T) (.ref C) else none) = some false
  rw [if_neg (by intro z; cases z), if_pos e]
  exact ts
theorem ite_nint {a b : Int} {A B : Prop} (e : a = b) (h : A) : if (!decide (V.int a = V.int b)) = true then B else A := by subst e; rw [decide_eq_true rfl]; exact iteF h
theorem nil_ok : OkD (.list []) 1 2 := okd_lst (k := 0) (m := 0) (n := 0) (ds := []) (fun d hd => by cases hd) (Nat.le_refl 0)
/-- what the parts have within, or None -/
def CutAt (C : Addr) (a b : Int) (H : Hp) (cs : List V) (J : List (Int × Int)) : Prop := Paired (fun x q => (∃ z r, x = V.ref z ∧ cutP a b q = some r ∧ StrAt C H z r.1 r.2) ∨ (x = .non ∧ cutP a b q = none)) cs J
theorem cutAt_mono {C : Addr} {a b : Int} {H H' : Hp} (f : ∀ p a b, StrAt C H p a b → StrAt C H' p a b) {cs : List V} {J : List (Int × Int)} (h : CutAt C a b H cs J) : CutAt C a b H' cs J :=
  paired_mono (fun x q z => z.elim (fun ⟨z, r, e1, e2, e3⟩ => .inl ⟨z, r, e1, e2, f _ _ _ e3⟩) .inr) h
theorem cutAt_same {C : Addr} {a b : Int} {H H' : Hp} (s : Same H H') {cs : List V} {J : List (Int × Int)} (h : CutAt C a b H cs J) : CutAt C a b H' cs J := cutAt_mono (fun _ _ _ z => z.same s) h
theorem cutAt_upd {C : Addr} {a b : Int} {H : Hp} {f : Addr} {ys : List V} {o : HO} (hf : H f = some (.lst ys)) {cs : List V} {J : List (Int × Int)} (h : CutAt C a b H cs J) : CutAt C a b (upd H f o) cs J :=
  cutAt_mono (fun _ _ _ ⟨dx, e⟩ => ⟨dx, by rw [upd_ne (ne_of e hf (by intro z; cases z))]; exact e⟩) h
theorem if_clamp {n : Int} : ∃ top : Int, top ≤ 12 ∧ 4 ≤ top ∧ (if (if (12 : Int) < n then (12 : Int) else n) > 4 then (if (12 : Int) < n then (12 : Int) else n) else 4) = top := ⟨_, by split <;> split <;> omega, by split <;> split <;> omega, rfl⟩
section
open LamX (Tabs)
variable {P : Program} {w : World} {K : PySem.W.Frag} {mg : Str → Option Value} {base : Heap} (T : Ev K mg base)
theorem ok_law : FnOkG P w K mg base CX0 7 T.flaw T.fdlaw ["_law_script"] (spLawT K (TT T)) := by
  refine FnOk.g (T.Flaw.okC T.cdlaw scLaw (fun vs H Q E h => ?_) (fun A outer s H vs Q E hr h => ?_))
  · obtain ⟨a, ns, rfl, _⟩ := h
    rfl
  · obtain ⟨a, ns, rfl, hS, hlen, tt0, q⟩ := h
    refine ⟨_,
      (pss_cons (ps_set (i := 1) scLaw.nd rfl (.inl rfl) (pe_call (ok_law_tape T) (hr.mono (by decide)) (by rfl) T.g_law_tape T.F_law_tape.kp T.b_law_tape .nil pass0 (pa_cons (pv 0) pa_nil)))
      (pss_cons (ps_for PassesOwn.never rfl (pi_range1 (by rfl) T.mrange (pa_cons (pe_callB (call_max2 rfl) (by rfl) T.mmax (by decide +kernel) (pa_cons pe_int (pa_cons (pe_callB (call_min2 rfl) (by rfl) T.mmin (by decide +kernel) (pa_cons (pe_callB call_len_seq (by rfl) T.mlen PySem.boot_len (pa_cons (pv 0) pa_nil)) (pa_cons pe_int pa_nil))) pa_nil))) pa_nil)) (pg_name (i := 2) scLaw.nd rfl (.inl rfl))
      (pss_cons (ps_set (i := 3) scLaw.nd rfl (.inl rfl) (pe_call (ok_law_made T) (hr.mono (by decide)) (by rfl) T.g_law_made T.F_law_made.kp T.b_law_made .nil pass0 (pa_cons (pv 1) pa_nil)))
      (pss_cons (ps_set (i := 4) scLaw.nd rfl (.inl rfl) (pe_call (ok_law_draw T) (hr.mono (by decide)) (by rfl) T.g_law_draw T.F_law_draw.kp T.b_law_draw .nil pass0 (pa_cons (pv 1) (pa_cons pe_int pa_nil))))
      (pss_cut (ps_set (i := 5) scLaw.nd rfl (.inr rfl) (pe_makeN (mk_Stretch T) (okStretch___init__ T) (hr.mono (by decide)) (by rfl) T.gCStretch (kb_Stretch___init___3 T).choose_spec pass0 (pa_cons (pv 4) (pa_cons (pe_op op_add (pv 4) (pe_call (ok_law_pick T) (hr.mono (by decide)) (by rfl) T.g_law_pick T.F_law_pick.kp T.b_law_pick .nil pass0 (pa_cons (pv 1) (pa_cons (pe_lst (pa_cons pe_int (pa_cons pe_int (pa_cons pe_int (pa_cons (pe_call (ok_law_draw T) (hr.mono (by decide)) (by rfl) T.g_law_draw T.F_law_draw.kp T.b_law_draw .nil pass0 (pa_cons (pv 1) (pa_cons pe_int pa_nil))) pa_nil))))) pa_nil)))) pa_nil)) pk_nil))
      (pss_cons (ps_set (i := 6) scLaw.nd rfl (.inl rfl) (pe_callN (okjoined T) (hr.mono (by decide)) (by rfl) T.gjoined T.Fjoined.kp (kb_joined_1 T).choose_spec pass0 (pa_cons (pv 3) pa_nil) pk_nil))
      (pss_cut (ps_if (PW.pt (pw_or (pt_cmpR (op_dqB true monStretch (dqB_ins (okStretch___eq__ T) hspStretch (mt_Stretch___eq__ T).at_ (mt_Stretch___eq__ T).fn T.bStretch___eq__ pass0 selfStretch) (hr.mono (by decide))) (pe_callN (okjoined T) (hr.mono (by decide)) (by rfl) T.gjoined T.Fjoined.kp (kb_joined_1 T).choose_spec pass0 (pa_cons (pv 6) pa_nil) pk_nil) (pv 6) (nomark _)) (pw_or1 (pt_cmpR (op_dqB true monStretch (dqB_ins (okStretch___eq__ T) hspStretch (mt_Stretch___eq__ T).at_ (mt_Stretch___eq__ T).fn T.bStretch___eq__ pass0 selfStretch) (hr.mono (by decide))) (pe_call (okgaps T) (hr.mono (by decide)) (by rfl) T.ggaps T.Fgaps.kp T.bgaps .nil pass0 (pa_cons (pv 6) (pa_cons (pv 5) pa_nil))) (pe_call (okgaps T) (hr.mono (by decide)) (by rfl) T.ggaps T.Fgaps.kp T.bgaps .nil pass0 (pa_cons (pv 3) (pa_cons (pv 5) pa_nil))) (nomark _)))))
      (pss_one (ps_ret pe_bl))
      pss_nil)
      (pss_cut (ps_setLc (i := 8) (own := [("_law_one", 7)]) (g := gName 7) (tt := tYes) rfl scLaw.nd rfl rfl (sw_true rfl rfl rfl (by decide +kernel)) (pi_list (pv 6)) (blkOk_by (N := NLaw) (own := [("_law_one", 7)]) (sc := defScope sLaw) (by decide +kernel)) (fun _ _ _ _ _ => pg_name (i := 7) scLaw.nd rfl (Or.inl rfl)) (fun _ _ _ _ _ => pts_nil) (fun _ _ _ _ _ => (pe_call (okmeet T) (hr.mono (by decide)) (by rfl) T.gmeet T.Fmeet.kp T.bmeet .nil pass0 (pa_cons (pv 7) (pa_cons (pv 5) pa_nil)))))
      (pss_cut (ps_setLc (i := 9) (own := [("_law_one", 7)]) (g := gName 7)  rfl scLaw.nd rfl rfl (sw_true rfl rfl rfl (by decide +kernel)) (pi_list (pv 8)) (blkOk_by (N := NLaw) (own := [("_law_one", 7)]) (sc := defScope sLaw) (by decide +kernel)) (fun _ _ _ _ _ => pg_name (i := 7) scLaw.nd rfl (Or.inl rfl)) (fun _ _ _ _ _ => pts_one (pt_cmpR op_notN (pv 7) pe_non (nomark _))) (fun _ _ _ _ _ => (pv 7)))
      (pss_cut (ps_set (i := 10) scLaw.nd rfl (.inr rfl) (pe_call (okgaps T) (hr.mono (by decide)) (by rfl) T.ggaps T.Fgaps.kp T.bgaps .nil pass0 (pa_cons (pv 3) (pa_cons (pv 5) pa_nil))))
      (pss_cons (ps_set (i := 11) scLaw.nd rfl (.inl rfl) (pe_callBK (call_sortL (k := 0) (px := "_law_one") (params := lamPa lLaw_0) (body := lamBo lLaw_0) (scope := lamSc lLaw_0) (qual := ("law" ++ ".<locals>." ++ "<lambda>")) (N := NlLaw_0) keyI sclLaw_0 blLaw_0 (hr.mono (by decide)) (fun f c A outer s H hr => (show PE _ _ (tFld K (tVar 0) "first") from pe_fld (pv 0) rfl))) (by rfl) T.msorted (by decide +kernel) (pa_cons (pe_op op_cat (pv 9) (pv 10)) pa_nil) (pk_cons (pe_lam3 (TT := TT T) (params := lamPa lLaw_0) (body := lamBo lLaw_0) (scope := lamSc lLaw_0) T.tblaw rfl (tt_in_law T) (tt_one_law T)) pk_nil)))
      (pss_cut (ps_if (PW.pt (pw_or (pt_not (pt_val (pe_call (ok_law_beside T) (hr.mono (by decide)) (by rfl) T.g_law_beside T.F_law_beside.kp T.b_law_beside .nil pass0 (pa_cons (pv 11) (pa_cons (pv 5) pa_nil))))) (pw_or1 (pt_cmpR op_ne (pe_op op_add (pe_call (okminutes_in T) (hr.mono (by decide)) (by rfl) T.gminutes_in T.Fminutes_in.kp T.bminutes_in .nil pass0 (pa_cons (pv 9) pa_nil)) (pe_call (okminutes_in T) (hr.mono (by decide)) (by rfl) T.gminutes_in T.Fminutes_in.kp T.bminutes_in .nil pass0 (pa_cons (pv 10) pa_nil))) (pe_callB (call_lenOwn (mt_Stretch___len__ T).at_ (mt_Stretch___len__ T).fn (okStretch___len__ T) T.bStretch___len__ (hr.mono (by decide)) pass0) (by rfl) T.mlen PySem.boot_len (pa_cons (pv 5) pa_nil)) (nomark _)))))
      (pss_one (ps_ret pe_bl))
      pss_nil)
      (pss_cut (ps_if (pt_cmpR (op_neD hr.units) (pe_lc (own := [("_law_one", 7)]) (g := gName 7)  rfl scLaw.nd (pi_list (pv 9)) (blkOk_by (N := NLaw) (own := [("_law_one", 7)]) (sc := defScope sLaw) (by decide +kernel)) (fun _ _ _ _ _ => pg_name (i := 7) scLaw.nd rfl (Or.inr rfl)) (fun _ _ _ _ _ => pts_one (pt_cmpR (r := rNeD K) (op_neD hr.units) (pe_lc (wi := iList K _) (own := [("_law_other", 14)]) (g := gName 14)  rfl scLaw.nd (pi_list (pv 10)) (blkOk_by (N := NLaw) (own := [("_law_other", 14)]) (sc := relS (cmpSc (xAr 0 (xVl (xSt (xBd (xSt (defBody sLaw) 1)) 10)))) (defScope sLaw)) (by decide +kernel)) (fun _ _ _ _ _ => pg_name (i := 14) scLaw.nd rfl (Or.inl rfl)) (fun _ _ _ _ _ => pts_one (pt_cmpR op_notN (pe_call (okmeet T) (hr.mono (by decide)) (by rfl) T.gmeet T.Fmeet.kp T.bmeet .nil pass0 (pa_cons (pv 7) (pa_cons (pv 14) pa_nil))) pe_non (nomark _))) (fun _ _ _ _ _ => (pv 14))) (pe_lst pa_nil) (nomark _))) (fun _ _ _ _ _ => (pv 7))) (pe_lst pa_nil) (nomark _))
      (pss_one (ps_ret pe_bl))
      pss_nil)
      (pss_cut (ps_set (i := 12) scLaw.nd rfl (.inl rfl) (pe_call (ok_law_pick T) (hr.mono (by decide)) (by rfl) T.g_law_pick T.F_law_pick.kp T.b_law_pick .nil pass0 (pa_cons (pv 1) (pa_cons (pe_lst (pa_cons pe_int (pa_cons pe_int (pa_cons (pe_call (ok_law_draw T) (hr.mono (by decide)) (by rfl) T.g_law_draw T.F_law_draw.kp T.b_law_draw .nil pass0 (pa_cons (pv 1) (pa_cons pe_int pa_nil))) pa_nil)))) pa_nil))))
      (pss_cons (ps_set (i := 13) scLaw.nd rfl (.inr rfl) (pe_callN (okjoined T) (hr.mono (by decide)) (by rfl) T.gjoined T.Fjoined.kp (kb_joined_2 T).choose_spec pass0 (pa_cons (pv 3) (pa_cons (pv 12) pa_nil)) pk_nil))
      (pss_cut (ps_if (PW.pt (pw_or (pt_cmpR op_gt (pe_callB call_len_seq (by rfl) T.mlen PySem.boot_len (pa_cons (pv 13) pa_nil)) (pe_callB call_len_seq (by rfl) T.mlen PySem.boot_len (pa_cons (pv 6) pa_nil)) (nomark _)) (pw_or1 (pt_cmpR (op_dqB true monStretch (dqB_ins (okStretch___eq__ T) hspStretch (mt_Stretch___eq__ T).at_ (mt_Stretch___eq__ T).fn T.bStretch___eq__ pass0 selfStretch) (hr.mono (by decide))) (pe_callN (okjoined T) (hr.mono (by decide)) (by rfl) T.gjoined T.Fjoined.kp (kb_joined_2 T).choose_spec pass0 (pa_cons (pv 13) (pa_cons (pv 12) pa_nil)) pk_nil) (pv 13) (nomark _)))))
      (pss_one (ps_ret pe_bl))
      pss_nil)
      (pss_cut (ps_if (pt_cmpR (op_neD hr.units) (pe_lc (own := [("_law_one", 7)]) (g := gName 7)  rfl scLaw.nd (pi_list (pv 6)) (blkOk_by (N := NLaw) (own := [("_law_one", 7)]) (sc := defScope sLaw) (by decide +kernel)) (fun _ _ _ _ _ => pg_name (i := 7) scLaw.nd rfl (Or.inr rfl)) (fun _ _ _ _ _ => pts_one (pt_cmpR (r := rDqB (DListB (DInsB T.CStretch (RStretch T.CStretch))) (fun b => false != b)) (op_dqB false monStretch (dqB_ins (okStretch___eq__ T) hspStretch (mt_Stretch___eq__ T).at_ (mt_Stretch___eq__ T).fn T.bStretch___eq__ pass0 selfStretch) (hr.mono (by decide))) (pe_lc (wi := iList K _) (own := [("_law_other", 14)]) (g := gName 14)  rfl scLaw.nd (pi_list (pv 13)) (blkOk_by (N := NLaw) (own := [("_law_other", 14)]) (sc := relS (cmpSc (xAr 0 (xVl (xSt (xBd (xSt (defBody sLaw) 1)) 14)))) (defScope sLaw)) (by decide +kernel)) (fun _ _ _ _ _ => pg_name (i := 14) scLaw.nd rfl (Or.inl rfl)) (fun _ _ _ _ _ => pts_one (pt_val (pe_call (ok_law_inside T) (hr.mono (by decide)) (by rfl) T.g_law_inside T.F_law_inside.kp T.b_law_inside .nil pass0 (pa_cons (pv 7) (pa_cons (pv 14) pa_nil))))) (fun _ _ _ _ _ => (pv 14))) (pe_lst pa_nil) (nomark _))) (fun _ _ _ _ _ => (pv 7))) (pe_lst pa_nil) (nomark _))
      (pss_one (ps_ret pe_bl))
      pss_nil)
      (pss_one (ps_for PassesOwn.never rfl (pi_list (pv 3)) (pg_name (i := 7) scLaw.nd rfl (.inr rfl))
      (pss_one (ps_if (PW.pt (pw_and (pt_cmpR op_gt (pe_callB (call_lenOwn (mt_Stretch___len__ T).at_ (mt_Stretch___len__ T).fn (okStretch___len__ T) T.bStretch___len__ (hr.mono (by decide)) pass0) (by rfl) T.mlen PySem.boot_len (pa_cons (pv 7) pa_nil)) pe_int (nomark _)) (pw_and1 (pt_cmpR (op_dqB false monStretch (dqB_ins (okStretch___eq__ T) hspStretch (mt_Stretch___eq__ T).at_ (mt_Stretch___eq__ T).fn T.bStretch___eq__ pass0 selfStretch) (hr.mono (by decide))) (pe_lc (own := [("_law_other", 14)]) (g := gName 14)  rfl scLaw.nd (pi_list (pv 6)) (blkOk_by (N := NLaw) (own := [("_law_other", 14)]) (sc := defScope sLaw) (by decide +kernel)) (fun _ _ _ _ _ => pg_name (i := 14) scLaw.nd rfl (Or.inl rfl)) (fun _ _ _ _ _ => pts_one (pt_cmpR (r := rOrR (rOwnY K T.CStretch (spStretch___eq__ K T.CStretch) E0 id) (rOwnR T.CStretch (spStretch___eq__ K T.CStretch) E0)) (op_orR (op_eqY (mt_Stretch___eq__ T).at_ (mt_Stretch___eq__ T).fn (okStretch___eq__ T) T.bStretch___eq__ (hr.mono (by decide)) pass0) (op_eqR (mt_Stretch___eq__ T).at_ (mt_Stretch___eq__ T).fn ⟨T.subStretch_NoneType, T.subStretch_int, T.subStretch_str, T.subStretch_list, T.subStretch_tuple, T.subStretch_dict⟩ (okStretch___eq__ T) T.bStretch___eq__ (hr.mono (by decide)) pass0)) (pe_call (okmeet T) (hr.mono (by decide)) (by rfl) T.gmeet T.Fmeet.kp T.bmeet .nil pass0 (pa_cons (pv 7) (pa_cons (pv 14) pa_nil))) (pv 7) (nomark _))) (fun _ _ _ _ _ => (pv 14))) (pe_lst pa_nil) (nomark _)))))
      (pss_one (ps_ret pe_bl))
      pss_nil))))))))))))))))))))
      (pss_one (ps_ret pe_bl))))
      , ?_⟩
    walk_at "s"
    refine ⟨a, ns, rfl, hS, hlen, fun tp c H1 n1 n2 s01 T1 => ?_⟩
    have tt1 := tt0.ext s01
    walk_at "s"
    refine ⟨a, _, rfl, .inl (sqL_same hS s01), ?_⟩
    walk_at "s"
    rw [List.length_map]
    obtain ⟨top, hlow, hlo4, et⟩ := if_clamp (n := (ns.length : Int))
    rw [et]
    refine for_range (lo := 0) (n := top.toNat) (fun i σ H2 => ∃ (w2 w3 w4 w5 w6 w7 w8 w9 w10 w11 w12 w13 w14 : Option V), σ = [some (.ref a), some (.ref tp), w2, w3, w4, w5, w6, w7, w8, w9, w10, w11, w12, w13, w14] ∧ Tape H2 tp c (1000 * i) ∧ Tabs (TT T) H2)
      ⟨_, _, _, _, _, _, _, _, _, _, _, _, _, rfl, T1, tt1⟩ ?_ ?_
    · rintro i σ H2 hi ⟨w2, w3, w4, w5, w6, w7, w8, w9, w10, w11, w12, w13, w14, rfl, T2, tt2⟩
      walk_at "s"
      refine ⟨tp, c, _, rfl, by omega, T2, fun p xs ps H3 ep hxs hl hok npt T3 k3 => ?_⟩
      have tt3 := T2.tabs k3 tt2
      walk_at "s"
      refine dr 86400 T3 (by omega) (by omega) (by omega) fun A H4 A0 A1 T4 k4 => ?_
      walk_at "s"
      refine ⟨fun σ H5 => ∃ (wh : Addr) (B : Int) (w6 w7 w8 w9 w10 w11 w12 w13 w14 : Option V), (A ≤ B ∧ B ≤ 200000) ∧ σ = [some (.ref a), some (.ref tp), some (.int (0 + (i : Int))), some (.ref p), some (.int A), some (.ref wh), w6, w7, w8, w9, w10, w11, w12, w13, w14] ∧ StrAt T.CStretch H5 wh A B ∧ Tape H5 tp c (1000 * i + 503) ∧ Keep tp H3 H5, ?_, ?_⟩
      · walk_at "s"
        refine dr 86400 T4 (by omega) (by omega) (by omega) fun g H5 g0 g1 T5 k5 => ?_
        walk_at "s"
        intro l hl2
        walk_at "s"
        refine pkn T5 (by exact Nat.le_of_ble_eq_true rfl) (by exact Nat.le_of_ble_eq_true rfl) (by omega) (fun x H6 hx T6 k6 => ?_) l hl2
        have hx2 : ∃ z : Int, x = .int z ∧ 0 ≤ z ∧ z < 86400 := by
          simp only [List.mem_cons, List.not_mem_nil, or_false] at hx
          rcases hx with rfl | rfl | rfl | rfl <;> exact ⟨_, rfl, by omega, by omega⟩
        obtain ⟨z, rfl, z0, z1⟩ := hx2
        walk_at "s"
        refine mkStr (a := A) (b := A + z) (y := .int (A + z)) (.inl rfl) (by omega) fun o H7 ho ho7 s7 => ?_
        walk_at "s"
        exact ⟨o, A + z, _, _, _, _, _, _, _, _, _, ⟨by omega, by omega⟩, rfl, ho7, T6.same s7, ((k4.trans k5).trans k6).same s7⟩
      clear w5 w6 w7 w8 w9 w10 w11 w12 w13 w14
      rintro σ H5 ⟨wh, B, w6, w7, w8, w9, w10, w11, w12, w13, w14, hAB, rfl, hwh, T5, k35⟩
      obtain ⟨tys3, hTa3⟩ := T3.tape
      have ep5 := k35 _ _ npt ep
      have hs5 : StrsAt T.CStretch H5 xs ps := hxs.mono fun _ _ _ z => z.keep hTa3 k35
      have tt5 := T3.tabs k35 tt3
      have hbd : ∀ q ∈ ps, q.1 ≤ q.2 ∧ q.2 - q.1 < 2 ^ 61 := fun q hq => by have := hok q hq; omega
      have hjl := jnd_len (ap := 0) (ps := ps)
      have hj0 := jnd_ok (ps := ps)
      have hjin := jnd_in (ps := ps) (lo := 0) (hi := 200000) fun q hq => by have := hok q hq; omega
      walk_at "s"
      refine ⟨p, 0, xs, ps, rfl, Int.le_refl 0, SqL.of ep5, hs5, by omega, hbd, tt5, fun r ys H6 s56 nr er hJ => ?_⟩
      have hyl := hJ.len
      have jbd : ∀ q ∈ jnd 0 ps, q.1 ≤ q.2 ∧ q.2 - q.1 < 2 ^ 61 := fun q hq => by have := hjin q hq; have := (hj0.1 q hq).1; omega
      have tt6 := s56.2.1 tt5
      have ep6 := s56.at ep5
      have hs6 := hs5.sm s56
      have hwh6 := hwh.sm s56
      have T6 := T5.sm s56
      -- gaps of whatever is told of the same
      have gpS : ∀ (H' : Hp) (R : VK) (E : XK), Sm (TT T) H6 H' → (∀ g zs H'', Sm (TT T) H6 H'' → Sm (TT T) H' H'' → H'' g = some (.lst zs) → StrsAt T.CStretch H'' zs (gps ps A B) → R (.ref g) H'') → spGaps K T.CStretch (TT T) [.ref p, .ref wh] H' R E :=
        fun H' R E s hR => ⟨p, wh, A, B, xs, ps, rfl, SqL.of (s.at ep6), hs6.sm s, hwh6.sm s, hAB.1, by omega, hbd, s.2.1 tt6, fun g zs H'' s2 _ e2 d2 => hR g zs H'' (s.trans s2) s2 e2 d2⟩
      walk_at "s"
      refine ⟨fun σ H' => ∃ (w7 w8 w9 w10 w11 w12 w13 w14 : Option V), σ = [some (.ref a), some (.ref tp), some (.int (0 + (i : Int))), some (.ref p), some (.int A), some (.ref wh), some (.ref r), w7, w8, w9, w10, w11, w12, w13, w14] ∧ Sm (TT T) H6 H', ?_, ?_⟩
      · walk_at "s"
        refine ⟨r, 0, ys, _, rfl, Int.le_refl 0, SqL.of er, hJ, by omega, jbd, tt6, fun r1 z1 H7 s7 n7 e7 d7 => ?_⟩
        rw [jnd_jnd (Int.le_refl 0)] at d7
        walk_at "s"
        refine ⟨true, strs_eq e7 (s7.at er) d7 (hJ.sm s7) rfl, fun H8 e8 => ?_⟩
        have s8 : Sm (TT T) H6 H8 := s7.trans (Same.sm e8)
        refine ⟨_, rfl, iteF ?_⟩
        walk_at "s"
        refine ⟨r, wh, A, B, ys, _, rfl, SqL.of (s8.at er), hJ.sm s8, hwh6.sm s8, hAB.1, by omega, jbd, s8.2.1 tt6, fun r2 z2 H9 s9 n9 e9 d9 => ?_⟩
        rw [gps_jnd] at d9
        have s69 := s8.trans s9
        walk_at "s"
        refine gpS H9 _ _ s69 fun g zs H10 s10 s910 e10 d10 => ?_
        refine ⟨true, strs_eq (s910.at e9) e10 (d9.sm s910) d10 rfl, fun H11 e11 => ?_⟩
        refine ⟨_, rfl, iteF ?_⟩
        exact ⟨_, _, _, _, _, _, _, _, rfl, s10.trans (Same.sm e11)⟩
      clear w6 w7 w8 w9 w10 w11 w12 w13 w14
      rintro σ H7 ⟨w7, w8, w9, w10, w11, w12, w13, w14, rfl, s67⟩
      walk_at "s"
      refine ⟨fun σ H' => ∃ (cu : Addr) (cs : List V) (w7 w9 w10 w11 w12 w13 w14 : Option V), σ = [some (.ref a), some (.ref tp), some (.int (0 + (i : Int))), some (.ref p), some (.int A), some (.ref wh), some (.ref r), w7, some (.ref cu), w9, w10, w11, w12, w13, w14] ∧ H' cu = some (.lst cs) ∧ CutAt T.CStretch A B H' cs (jnd 0 ps) ∧ Sm (TT T) H6 H', ?_, ?_⟩
      · walk_at "s"
        have er7 := s67.at er
        refine ⟨⟨_, SqL.of er7⟩, fun D hD => ?_⟩
        refine lc_list (K := K) (a := r) (xs := ys) (fun i H' => ∃ cs, H' D = some (.lst cs) ∧ CutAt T.CStretch A B H' cs ((jnd 0 ps).take i) ∧ Same H7 H') ⟨[], upd_same, .nil, same_upd hD⟩ (fun i H' _ ⟨_, _, _, z⟩ => SqL.of (z _ _ er7)) ?_ ?_
        · rintro j x H' hx ⟨cs, eD, hcs, si⟩
          have s6' := s67.trans si.sm
          obtain ⟨o, b1, b2, rfl, hpj, ho⟩ := (hJ.sm s6').at hx
          have hj : j < ys.length := (List.getElem?_eq_some_iff.mp hx).1
          have hcl := Paired.length hcs
          rw [List.length_take] at hcl
          walk_at "s"
          refine ⟨o, wh, b1, b2, A, B, rfl, ho, hwh6.sm s6', fun c1 z H8 s8 hz hz8 => ?_, fun c1 => ?_⟩
          · have eD8 := s8 _ _ eD
            walk_at "s"
            refine ⟨cs, eD8, lt_line (by omega), cs ++ [.ref z], upd_same, ?_, app_same hD (si.trans s8)⟩
            rw [List.take_succ, hpj]
            exact cutAt_upd eD8 (paired_app (cutAt_same s8 hcs) (.cons (.inl ⟨z, _, rfl, if_pos c1, hz8⟩) .nil))
          · walk_at "s"
            refine ⟨cs, eD, lt_line (by omega), cs ++ [.non], upd_same, ?_, app_same hD si⟩
            rw [List.take_succ, hpj]
            exact cutAt_upd eD (paired_app hcs (.cons (.inr ⟨rfl, if_neg c1⟩) .nil))
        · rintro H' ⟨cs, eD, hcs, si⟩
          rw [hyl, List.take_length] at hcs
          walk_at "s"
          exact ⟨D, cs, _, _, _, _, _, _, _, rfl, eD, hcs, s67.trans si.sm⟩
      clear w7 w8 w9 w10 w11 w12 w13 w14 s67
      rintro σ H7 ⟨cu, cs, w7, w9, w10, w11, w12, w13, w14, rfl, ecu, hcs, s67⟩
      have hcl := Paired.length hcs
      walk_at "s"
      refine ⟨fun σ H' => ∃ (kp : Addr) (ks : List V) (w7 w10 w11 w12 w13 w14 : Option V), σ = [some (.ref a), some (.ref tp), some (.int (0 + (i : Int))), some (.ref p), some (.int A), some (.ref wh), some (.ref r), w7, some (.ref cu), some (.ref kp), w10, w11, w12, w13, w14] ∧ H' kp = some (.lst ks) ∧ StrsAt T.CStretch H' ks (kept (jnd 0 ps) A B) ∧ Sm (TT T) H6 H', ?_, ?_⟩
      · walk_at "s"
        refine ⟨⟨_, SqL.of ecu⟩, fun D hD => ?_⟩
        refine lc_list (K := K) (a := cu) (xs := cs) (fun i H' => ∃ ks, H' D = some (.lst ks) ∧ StrsAt T.CStretch H' ks (kept ((jnd 0 ps).take i) A B) ∧ Same H7 H') ⟨[], upd_same, .nil, same_upd hD⟩ (fun i H' _ ⟨_, _, _, z⟩ => SqL.of (z _ _ ecu)) ?_ ?_
        · rintro j x H' hx ⟨ks, eD, hks, si⟩
          obtain ⟨q, hpj, hq⟩ := paired_at hcs hx
          have hj : j < cs.length := (List.getElem?_eq_some_iff.mp hx).1
          have hkl := hks.len
          have hk2 : (kept ((jnd 0 ps).take j) A B).length ≤ ((jnd 0 ps).take j).length := List.length_filterMap_le _ _
          rw [List.length_take] at hk2
          have ek : kept ((jnd 0 ps).take (j + 1)) A B = kept ((jnd 0 ps).take j) A B ++ (cutP A B q).toList := by
            rw [List.take_succ, hpj]
            unfold kept
            rw [List.filterMap_append]
            congr 1
          rcases hq with ⟨z, rr, rfl, e1, hz⟩ | ⟨rfl, e1⟩
          · walk_at "s"
            refine ⟨ks, eD, lt_line (by omega), ks ++ [.ref z], upd_same, ?_, app_same hD si⟩
            rw [ek, e1]
            exact (hks.snoc (hz.same si)).upd eD
          · walk_at "s"
            refine ⟨ks, eD, ?_, si⟩
            rw [ek, e1, show (none : Option (Int × Int)).toList = [] from rfl, List.append_nil]
            exact hks
        · rintro H' ⟨ks, eD, hks, si⟩
          rw [hcl, List.take_length] at hks
          walk_at "s"
          exact ⟨D, ks, _, _, _, _, _, _, rfl, eD, hks, s67.trans si.sm⟩
      clear w7 w9 w10 w11 w12 w13 w14 s67 ecu hcs
      rintro σ H7 ⟨kp, ks, w7, w10, w11, w12, w13, w14, rfl, ekp, hks, s67⟩
      have hkl := hks.len
      have hk2 : (kept (jnd 0 ps) A B).length ≤ (jnd 0 ps).length := List.length_filterMap_le _ _
      walk_at "s"
      refine ⟨fun σ H' => ∃ (fr : Addr) (fs : List V) (w7 w11 w12 w13 w14 : Option V), σ = [some (.ref a), some (.ref tp), some (.int (0 + (i : Int))), some (.ref p), some (.int A), some (.ref wh), some (.ref r), w7, some (.ref cu), some (.ref kp), some (.ref fr), w11, w12, w13, w14] ∧ H' fr = some (.lst fs) ∧ StrsAt T.CStretch H' fs (gps ps A B) ∧ Sm (TT T) H7 H', ?_, ?_⟩
      · walk_at "s"
        refine gpS H7 _ _ s67 fun g zs H8 s8 s78 e8 d8 => ?_
        walk_at "s"
        exact ⟨g, zs, _, _, _, _, _, rfl, e8, d8, s78⟩
      clear w7 w10 w11 w12 w13 w14
      rintro σ H8 ⟨fr, fs, w7, w11, w12, w13, w14, rfl, efr, hfs, s78⟩
      have s68 := s67.trans s78
      have ekp8 := s78.at ekp
      have hks8 := hks.sm s78
      have hfl := hfs.len
      have hgl := gps_len ps A B
      walk_at "s"
      refine ⟨kp, fr, ks, fs, rfl, rfl, ekp8, efr, le_line (by omega), fun ad had => ?_⟩
      have ead : (upd H8 ad (.lst (ks ++ fs))) ad = some (.lst (ks ++ fs)) := upd_same
      have s89 : Same H8 (upd H8 ad (.lst (ks ++ fs))) := same_upd had
      generalize upd H8 ad (.lst (ks ++ fs)) = H9 at ead s89
      have s69 := s68.trans s89.sm
      have hadd : StrsAt T.CStretch H9 (ks ++ fs) (kept (jnd 0 ps) A B ++ gps ps A B) := paired_app (hks8.same s89) (hfs.same s89)
      walk_at "s"
      refine ⟨s69.2.1 tt6, fun f c' H10 e10 t10 n10 hf hc => ?_⟩
      have s910 : Sm (TT T) H9 H10 := ⟨e10, fun _ => t10, n10⟩
      walk_at "s"
      refine ⟨ad, f, c', ks ++ fs, (kept (jnd 0 ps) A B ++ gps ps A B).map (·.1), rfl, rfl, hf, hc, SqL.of (s910.at ead), by rw [List.length_map, hadd.len], fun j x k H11 hxj hk s11 => ?_, fun H11 rw' s11 hr11 => ?_⟩
      · obtain ⟨o, b1, b2, rfl, hpj, ho⟩ := (hadd.sm s910).at hxj
        rw [List.getElem?_map, hpj] at hk
        cases hk
        walk_at "s"
        refine i_first T (ho.same s11) ?_
        exact ⟨same_refl, rfl⟩
      have hrows := byKeys_str ((hadd.sm s910).same (s11.trans (same_upd (o := .lst (byKeys ltI ((kept (jnd 0 ps) A B ++ gps ps A B).map (·.1)) (ks ++ fs))) hr11)))
      have erw : (upd H11 rw' (.lst (byKeys ltI ((kept (jnd 0 ps) A B ++ gps ps A B).map (·.1)) (ks ++ fs)))) rw' = some (.lst (byKeys ltI ((kept (jnd 0 ps) A B ++ gps ps A B).map (·.1)) (ks ++ fs))) := upd_same
      have s912 := s910.trans (s11.sm.trans (sm_upd (TT := TT T) (o := .lst (byKeys ltI ((kept (jnd 0 ps) A B ++ gps ps A B).map (·.1)) (ks ++ fs))) hr11))
      generalize upd H11 rw' (.lst (byKeys ltI ((kept (jnd 0 ps) A B ++ gps ps A B).map (·.1)) (ks ++ fs))) = H12 at hrows erw s912
      generalize byKeys ltI ((kept (jnd 0 ps) A B ++ gps ps A B).map (·.1)) (ks ++ fs) = rws at hrows erw
      have s612 := s69.trans s912
      have s812 := s89.sm.trans s912
      have chn := rows_chain (ps := ps) hAB.1
      have kc := kept_canon (a := A) (b := B) (jnd_canon (Int.le_refl 0) (ps := ps))
      have gi := gps_in (ps := ps) (a := A) (b := B)
      have kin : ∀ q ∈ kept (jnd 0 ps) A B, q.1 < q.2 ∧ A ≤ q.1 ∧ q.2 ≤ B := fun q hq => by
        have h0 := kc.1 q hq
        obtain ⟨z, hz, c1, rfl⟩ := kept_mem.mp hq
        obtain ⟨_, z1, z2, z3, z4, _⟩ := mx_mn z.1 z.2 A B
        exact ⟨h0, z2, z4⟩
      have gin : ∀ q ∈ gps ps A B, q.1 < q.2 ∧ A ≤ q.1 ∧ q.2 ≤ B := fun q hq => ⟨(gi.1 q hq).1, (gi.1 q hq).2.1, (gi.1 q hq).2.2.1⟩
      walk_at "s"
      refine ⟨fun σ H' => ∃ (w7 w12 w13 w14 : Option V), σ = [some (.ref a), some (.ref tp), some (.int (0 + (i : Int))), some (.ref p), some (.int A), some (.ref wh), some (.ref r), w7, some (.ref cu), some (.ref kp), some (.ref fr), some (.ref rw'), w12, w13, w14] ∧ Sm (TT T) H12 H', ?_, ?_⟩
      · walk_at "s"
        refine ⟨rw', wh, A, B, rws, _, rfl, SqL.of erw, hrows, hwh6.sm s612, chn, fun q hq => ?_, ?_⟩
        · rcases List.mem_append.mp (iSort_mem.mp hq) with h | h
          · have := kin q h; omega
          · have := gin q h; omega
        walk_at "s"
        refine ⟨kp, ks, _, A, B, rfl, SqL.of (s812.at ekp8), hks8.sm s812, by omega, fun q hq => by have := kin q hq; omega, by omega, s612.2.1 tt6, fun H13 s13 => ?_⟩
        walk_at "s"
        have s813 := s812.trans s13
        refine ⟨fr, fs, _, A, B, rfl, SqL.of (s813.at efr), hfs.sm s813, by omega, fun q hq => by have := gin q hq; omega, by omega, (s612.trans s13).2.1 tt6, fun H14 s14 => ?_⟩
        walk_at "s"
        have hwh14 := hwh6.sm ((s612.trans s13).trans s14)
        obtain ⟨dx, ewh⟩ := id hwh14
        refine ⟨wh, dx, _, rfl, ewh, wh, A, B, rfl, hwh14, hAB.1, by omega, B - A, rfl, by show 0 ≤ B - A; omega, by omega, ?_⟩
        walk_at "s"
        refine ite_nint (part_sum hAB.1) ?_
        exact ⟨_, _, _, _, rfl, s13.trans s14⟩
      clear w7 w11 w12 w13 w14
      rintro σ H13 ⟨w7, w12, w13, w14, rfl, s1213⟩
      have s613 := s612.trans s1213
      have s813 := s812.trans s1213
      have ekp13 := s813.at ekp8
      have hks13 := hks8.sm s813
      have efr13 := s813.at efr
      have hfs13 := hfs.sm s813
      walk_at "s"
      refine ⟨fun σ H' => ∃ (w7 w12 w13 w14 : Option V), σ = [some (.ref a), some (.ref tp), some (.int (0 + (i : Int))), some (.ref p), some (.int A), some (.ref wh), some (.ref r), w7, some (.ref cu), some (.ref kp), some (.ref fr), some (.ref rw'), w12, w13, w14] ∧ Sm (TT T) H13 H', ?_, ?_⟩
      · walk_at "s"
        refine ⟨⟨_, SqL.of ekp13⟩, fun D hD => ?_⟩
        refine lc_list (K := K) (a := kp) (xs := ks) (fun i H' => H' D = some (.lst []) ∧ Same H13 H') ⟨upd_same, same_upd hD⟩ (fun i H' _ z => SqL.of (z.2 _ _ ekp13)) ?_ ?_
        · rintro j x H' hx ⟨eD, si⟩
          obtain ⟨o, b1, b2, rfl, hpj, ho⟩ := (hks13.same si).at hx
          have hmk := List.mem_of_getElem? hpj
          walk_at "s"
          refine ⟨⟨_, SqL.of (si _ _ efr13)⟩, fun D2 hD2 => ?_⟩
          refine lc_list (K := K) (a := fr) (xs := fs) (fun i H'' => H'' D2 = some (.lst []) ∧ Same H' H'') ⟨upd_same, same_upd hD2⟩ (fun i H' _ z => SqL.of (z.2 _ _ (si _ _ efr13))) ?_ ?_
          · rintro j2 x2 H2' hx2 ⟨eD2, si2⟩
            obtain ⟨o2, c1, c2, rfl, hpj2, ho2⟩ := (hfs13.same (si.trans si2)).at hx2
            have hmf := List.mem_of_getElem? hpj2
            walk_at "s"
            refine ⟨o, o2, b1, b2, c1, c2, rfl, ho.same si2, ho2, fun z => absurd z (kept_free _ hmk _ hmf), fun _ => ?_⟩
            walk_at "s"
            exact si2
          · rintro H2' ⟨eD2, si2⟩
            walk_at "s"
            intro l hl3
            refine nil_ok.not (.lst (SqL.of (upd_at hl3 eD2)) .nil) (.lst (SqL.of upd_same) .nil) ?_
            walk_at "s"
            exact ⟨upd_at hl3 (si2 _ _ eD), (si.trans si2).trans (same_upd hl3)⟩
        · rintro H' ⟨eD, si⟩
          walk_at "s"
          intro l hl3
          refine nil_ok.not (.lst (SqL.of (upd_at hl3 eD)) .nil) (.lst (SqL.of upd_same) .nil) ?_
          walk_at "s"
          exact ⟨_, _, _, _, rfl, (si.trans (same_upd hl3)).sm⟩
      clear w7 w12 w13 w14
      rintro σ H14 ⟨w7, w12, w13, w14, rfl, s1314⟩
      have s614 := s613.trans s1314
      have T14 := T6.sm s614
      have tt14 := s614.2.1 tt6
      have ep14 := s614.at ep6
      have er14 := s614.at er
      have hs14 := hs6.sm s614
      have hJ14 := hJ.sm s614
      have nrp : r ≠ tp := T5.ne nr
      walk_at "s"
      refine ⟨fun σ H' => ∃ (ap : Int) (w7 w13 w14 : Option V), 0 ≤ ap ∧ σ = [some (.ref a), some (.ref tp), some (.int (0 + (i : Int))), some (.ref p), some (.int A), some (.ref wh), some (.ref r), w7, some (.ref cu), some (.ref kp), some (.ref fr), some (.ref rw'), some (.int ap), w13, w14] ∧ Tape H' tp c (1000 * i + 520) ∧ Keep tp H14 H', ?_, ?_⟩
      · walk_at "s"
        refine dr 2000 T14 (by omega) (by omega) (by omega) fun g H15 g0 g1 T15 k15 => ?_
        walk_at "s"
        intro l hl2
        walk_at "s"
        refine pkn T15 (by exact Nat.le_of_ble_eq_true rfl) (by exact Nat.le_of_ble_eq_true rfl) (by omega) (fun x H16 hx T16 k16 => ?_) l hl2
        have hx2 : ∃ z : Int, x = .int z ∧ 0 ≤ z := by
          simp only [List.mem_cons, List.not_mem_nil, or_false] at hx
          rcases hx with rfl | rfl | rfl <;> exact ⟨_, rfl, by omega⟩
        obtain ⟨z, rfl, z0⟩ := hx2
        walk_at "s"
        exact ⟨z, _, _, _, z0, rfl, T16.mono (by omega), k15.trans k16⟩
      clear w7 w12 w13 w14
      rintro σ H15 ⟨ap, w7, w13, w14, hap, rfl, T15, k15⟩
      obtain ⟨tys14, hTa14⟩ := T14.tape
      have tt15 := T14.tabs k15 tt14
      have ep15 := k15 _ _ npt ep14
      have er15 := k15 _ _ nrp er14
      have hs15 : StrsAt T.CStretch H15 xs ps := hs14.mono fun _ _ _ z => z.keep hTa14 k15
      have hJ15 : StrsAt T.CStretch H15 ys (jnd 0 ps) := hJ14.mono fun _ _ _ z => z.keep hTa14 k15
      have hwl := jnd_len (ap := ap) (ps := ps)
      have wbd : ∀ q ∈ jnd ap ps, q.1 ≤ q.2 ∧ q.2 - q.1 < 2 ^ 61 := fun q hq => by
        obtain ⟨h1, h2, h3⟩ := ((jnd_covR hap (ps := ps)).list hap).1 q (List.mem_reverse.mpr hq)
        obtain ⟨u, hu, u1, u2⟩ := h2
        obtain ⟨v, hv, v1, v2⟩ := h3
        have := hok u hu
        have := hok v hv
        omega
      walk_at "s"
      refine ⟨p, ap, xs, ps, rfl, hap, SqL.of ep15, hs15, by omega, hbd, tt15, fun wd wds H16 s1516 nwd ewd hwd => ?_⟩
      have hwdl := hwd.len
      have er16 := s1516.at er15
      have ep16 := s1516.at ep15
      have hs16 := hs15.sm s1516
      have hJ16 := hJ15.sm s1516
      have tt16 := s1516.2.1 tt15
      walk_at "s"
      refine ⟨fun σ H' => ∃ (w7 w14 : Option V), σ = [some (.ref a), some (.ref tp), some (.int (0 + (i : Int))), some (.ref p), some (.int A), some (.ref wh), some (.ref r), w7, some (.ref cu), some (.ref kp), some (.ref fr), some (.ref rw'), some (.int ap), some (.ref wd), w14] ∧ Sm (TT T) H16 H', ?_, ?_⟩
      · walk_at "s"
        refine ⟨wd, _, rfl, .inl (SqL.of ewd), ?_⟩
        walk_at "s"
        refine ⟨r, _, rfl, .inl (SqL.of er16), ?_⟩
        walk_at "s"
        refine ite2 (fun c1 => absurd (of_decide_eq_true c1) ?_) (fun c1 => ?_)
        · have := wide_len hap (ps := ps)
          omega
        walk_at "s"
        refine ⟨wd, ap, wds, _, rfl, hap, SqL.of ewd, hwd, by omega, wbd, tt16, fun r1 z1 H17 s17 n17 e17 d17 => ?_⟩
        rw [jnd_jnd hap] at d17
        walk_at "s"
        refine ⟨true, strs_eq e17 (s17.at ewd) d17 (hwd.sm s17) rfl, fun H18 e18 => ?_⟩
        refine ⟨_, rfl, iteF ?_⟩
        exact ⟨_, _, rfl, s17.trans (Same.sm e18)⟩
      clear w7 w13 w14
      rintro σ H17 ⟨w7, w14, rfl, s1617⟩
      have er17 := s1617.at er16
      have ewd17 := s1617.at ewd
      have hJ17 := hJ16.sm s1617
      have hwd17 := hwd.sm s1617
      walk_at "s"
      refine ⟨fun σ H' => ∃ (w7 w14 : Option V), σ = [some (.ref a), some (.ref tp), some (.int (0 + (i : Int))), some (.ref p), some (.int A), some (.ref wh), some (.ref r), w7, some (.ref cu), some (.ref kp), some (.ref fr), some (.ref rw'), some (.int ap), some (.ref wd), w14] ∧ Sm (TT T) H17 H', ?_, ?_⟩
      · walk_at "s"
        refine ⟨⟨_, SqL.of er17⟩, fun D hD => ?_⟩
        refine lc_list (K := K) (a := r) (xs := ys) (fun i H' => H' D = some (.lst []) ∧ Same H17 H') ⟨upd_same, same_upd hD⟩ (fun i H' _ z => SqL.of (z.2 _ _ er17)) ?_ ?_
        · rintro j x H' hx ⟨eD, si⟩
          obtain ⟨o, b1, b2, rfl, hpj, ho⟩ := (hJ17.same si).at hx
          have hmk := List.mem_of_getElem? hpj
          obtain ⟨wq, hwq, wq1, wq2⟩ := wide_in hap _ hmk
          obtain ⟨jw, hjw⟩ := List.mem_iff_getElem?.mp hwq
          walk_at "s"
          refine ⟨⟨_, SqL.of (si _ _ ewd17)⟩, fun D2 hD2 => ?_⟩
          refine lc_list (K := K) (a := wd) (xs := wds) (fun i H'' => ∃ vs, H'' D2 = some (.lst vs) ∧ vs.length ≤ i ∧ (jw < i → vs ≠ []) ∧ Same H' H'') ⟨[], upd_same, Nat.le_refl _, (fun z => absurd z (Nat.not_lt_zero _)), same_upd hD2⟩ (fun i H' _ ⟨_, _, _, _, z⟩ => SqL.of (z _ _ (si _ _ ewd17))) ?_ ?_
          · rintro j2 x2 H2' hx2 ⟨vs, eD2, hvl, hvn, si2⟩
            obtain ⟨o2, c1, c2, rfl, hpj2, ho2⟩ := (hwd17.same (si.trans si2)).at hx2
            have hj2 : j2 < wds.length := (List.getElem?_eq_some_iff.mp hx2).1
            walk_at "s"
            refine ⟨o, o2, b1, b2, c1, c2, rfl, ho.same si2, ho2, ?_⟩
            walk_at "s"
            refine ite2 (fun d1 => ?_) (fun d1 => ?_)
            · walk_at "s"
              exact ⟨vs, eD2, lt_line (by omega), vs ++ [.ref o2], upd_same, by rw [List.length_append]; exact Nat.succ_le_succ hvl, fun _ z => by simp at z, app_same hD2 si2⟩
            · refine ⟨vs, eD2, by omega, fun z => ?_, si2⟩
              by_cases e : jw = j2
              · subst e
                rw [hjw] at hpj2
                cases hpj2
                exact absurd (decide_eq_true ⟨wq1, wq2⟩) d1
              · exact hvn (by omega)
          · rintro H2' ⟨vs, eD2, hvl, hvn, si2⟩
            have hne : vs.length ≠ 0 := fun z => hvn (by
              have : jw < (jnd ap ps).length := (List.getElem?_eq_some_iff.mp hjw).1
              omega) (List.length_eq_zero_iff.mp z)
            walk_at "s"
            intro l hl3
            refine ⟨_, lst_nil (upd_at hl3 eD2) upd_same, fun H3' e3 => ?_⟩
            have s3' : Same (upd H2' l (.lst [])) H3' := e3
            rw [decide_eq_false hne]
            refine ⟨_, rfl, iteF ?_⟩
            exact ⟨s3' _ _ (upd_at hl3 (si2 _ _ eD)), ((si.trans si2).trans (same_upd hl3)).trans s3'⟩
        · rintro H' ⟨eD, si⟩
          walk_at "s"
          intro l hl3
          refine nil_ok.not (.lst (SqL.of (upd_at hl3 eD)) .nil) (.lst (SqL.of upd_same) .nil) ?_
          walk_at "s"
          exact (si.trans (same_upd hl3)).sm
      clear w7 w14
      rintro σ H18 ⟨w7, w14, rfl, s1718⟩
      have s1618 := s1617.trans s1718
      have ep18 := s1618.at ep16
      have hs18 := hs16.sm s1618
      have er18 := s1618.at er16
      have hJ18 := hJ16.sm s1618
      walk_at "s"
      refine ⟨⟨_, SqL.of ep18⟩, ?_⟩
      refine for_list (K := K) (a := p) (xs := xs) (fun i' σ H' => ∃ (w7 w14 : Option V), σ = [some (.ref a), some (.ref tp), some (.int (0 + (i : Int))), some (.ref p), some (.int A), some (.ref wh), some (.ref r), w7, some (.ref cu), some (.ref kp), some (.ref fr), some (.ref rw'), some (.int ap), some (.ref wd), w14] ∧ Same H18 H')
        ⟨_, _, rfl, same_refl⟩ (fun i' σ H' _ ⟨_, _, _, z⟩ => SqL.of (z _ _ ep18)) ?_ ?_
      · rintro j x σ H' hx ⟨w7, w14, rfl, si⟩
        obtain ⟨o, b1, b2, rfl, hpj, ho⟩ := (hs18.same si).at hx
        have hmk := List.mem_of_getElem? hpj
        have hbb := hok _ hmk
        dsimp only at hbb
        obtain ⟨dx, eo⟩ := id ho
        walk_at "s"
        refine ⟨o, dx, _, rfl, eo, o, b1, b2, rfl, ho, hbb.2.1, by omega, b2 - b1, rfl, by show 0 ≤ b2 - b1; omega, by omega, ?_⟩
        walk_at "s"
        refine ite2 (fun c1 => ?_) (fun c1 => ?_)
        · have c2 : b1 < b2 := by have := of_decide_eq_true c1; omega
          obtain ⟨wq, hwq, wq1, wq2⟩ := own_part _ hmk c2
          obtain ⟨jw, hjw⟩ := List.mem_iff_getElem?.mp hwq
          dsimp only at wq1 wq2
          walk_at "s"
          refine ⟨⟨_, SqL.of (si _ _ er18)⟩, fun D2 hD2 => ?_⟩
          refine lc_list (K := K) (a := r) (xs := ys) (fun i H'' => ∃ vs, H'' D2 = some (.lst vs) ∧ vs.length ≤ i ∧ (jw < i → vs ≠ []) ∧ Same H' H'') ⟨[], upd_same, Nat.le_refl _, (fun z => absurd z (Nat.not_lt_zero _)), same_upd hD2⟩ (fun i H' _ ⟨_, _, _, _, z⟩ => SqL.of (z _ _ (si _ _ er18))) ?_ ?_
          · rintro j2 x2 H2' hx2 ⟨vs, eD2, hvl, hvn, si2⟩
            obtain ⟨o2, d1, d2, rfl, hpj2, ho2⟩ := (hJ18.same (si.trans si2)).at hx2
            have hj2 : j2 < ys.length := (List.getElem?_eq_some_iff.mp hx2).1
            walk_at "s"
            refine ⟨o, o2, b1, b2, d1, d2, rfl, ho.same si2, ho2, fun z1 z H3' s3' hz hz3 => ?_, fun z1 => ?_⟩
            · walk_at "s"
              have ho3 := (ho.same si2).same s3'
              have eD3 := s3' _ _ eD2
              obtain ⟨dz, ez⟩ := id hz3
              refine .inl ⟨z, dz, _, .ref T.CStretch, rfl, ez, isStr T ho3, T.nfStretch, z, _, max b1 d1, min b2 d2, rfl, hz3, .inl ⟨o, b1, b2, rfl, ho3, ?_⟩⟩
              show ∃ k, V.bl _ = .bl k ∧ _
              refine ⟨_, rfl, ?_⟩
              refine ite2 (fun y1 => ?_) (fun y1 => ?_)
              · walk_at "s"
                exact ⟨vs, eD3, lt_line (by omega), vs ++ [.ref o2], upd_same, by rw [List.length_append]; exact Nat.succ_le_succ hvl, fun _ z => by simp at z, app_same hD2 (si2.trans s3')⟩
              · refine ⟨vs, eD3, by omega, fun z' => ?_, si2.trans s3'⟩
                by_cases e : jw = j2
                · subst e
                  rw [hjw] at hpj2
                  cases hpj2
                  exact absurd (by rw [decide_eq_true wq1, decide_eq_true wq2]; rfl) y1
                · exact hvn (by omega)
            · walk_at "s"
              have ho2' := ho.same si2
              obtain ⟨dz, ez⟩ := id ho2'
              refine .inr ⟨o, dz, _, rfl, ez, .non, o, .non, b1, b2, rfl, ho2', .inr ⟨_, .base .non, kit_no T.icStretch T.tyStretch T.kitStretch_NoneType, ?_⟩⟩
              refine ⟨_, rfl, iteF ?_⟩
              refine ⟨vs, eD2, by omega, fun z' => ?_, si2⟩
              by_cases e : jw = j2
              · subst e
                rw [hjw] at hpj2
                cases hpj2
                exact absurd (by rw [wq1, wq2]; exact c2) z1
              · exact hvn (by omega)
          · rintro H2' ⟨vs, eD2, hvl, hvn, si2⟩
            have hne : vs.length ≠ 0 := fun z => hvn (by
              have : jw < (jnd 0 ps).length := (List.getElem?_eq_some_iff.mp hjw).1
              omega) (List.length_eq_zero_iff.mp z)
            walk_at "s"
            intro l hl3
            refine ⟨_, lst_nil (upd_at hl3 eD2) upd_same, fun H3' e3 => ?_⟩
            have s3' : Same (upd H2' l (.lst [])) H3' := e3
            rw [decide_eq_false hne]
            refine ⟨_, rfl, ?_⟩
            exact ⟨_, _, rfl, ((si.trans si2).trans (same_upd hl3)).trans s3'⟩
        · walk_at "s"
          exact si
      · rintro σ H' ⟨w7, w14, rfl, si⟩
        exact ⟨_, _, _, _, _, _, _, _, _, _, _, _, _, rfl, (T15.sm ((s1516.trans s1618).trans si.sm)).mono (by omega), ((s1516.trans s1618).trans si.sm).2.1 tt15⟩
    · rintro σ H2 ⟨w2, w3, w4, w5, w6, w7, w8, w9, w10, w11, w12, w13, w14, rfl, T2, tt2⟩
      walk_at "s"
      exact q H2
end
theorem all_mk {l : PySem.W.OpenLaw} {w : World} {K : PySem.W.Frag} {h : Heap} {mg : Str → Option Value} {fa fshow_time fmeet fjoined fgaps fminutes_in f_law_tape f_law_draw f_law_pick f_law_made f_law_beside f_law_inside flaw fStretch___init__ fStretch___eq__ fStretch___len__ fStretch___str__ fStretch___repr__ fNoStretch___init__ CStretch CNoStretch TStretch___init__ Tjoined : Addr} (X : K.In h) (G : h.Ns mainGlobals mg) (hfa : mg "law" = some (.ref fa))
    {odshow_time anshow_time odmeet anmeet odjoined anjoined odgaps angaps odminutes_in anminutes_in od_law_tape an_law_tape od_law_draw an_law_draw od_law_pick an_law_pick od_law_made an_law_made od_law_beside an_law_beside od_law_inside an_law_inside odlaw anlaw odStretch___init__ anStretch___init__ odStretch___eq__ anStretch___eq__ odStretch___len__ anStretch___len__ odStretch___str__ anStretch___str__ odStretch___repr__ anStretch___repr__ odNoStretch___init__ anNoStretch___init__ odTStretch___init__ odTjoined : Option Addr} {slshow_time slmeet sljoined slgaps slminutes_in sl_law_tape sl_law_draw sl_law_pick sl_law_made sl_law_beside sl_law_inside sllaw slStretch___init__ slStretch___eq__ slStretch___len__ slStretch___str__ slStretch___repr__ slNoStretch___init__ slTStretch___init__ slTjoined : Array (Option Value)} {ocshow_time kVshow_time dcshow_time pmshow_time cdshow_time ctshow_time ocmeet kVmeet dcmeet pmmeet cdmeet ctmeet ocjoined kVjoined dcjoined pmjoined ctjoined ocgaps kVgaps dcgaps pmgaps cdgaps ctgaps ocminutes_in kVminutes_in dcminutes_in pmminutes_in cdminutes_in ctminutes_in oc_law_tape kV_law_tape dc_law_tape pm_law_tape cd_law_tape ct_law_tape oc_law_draw kV_law_draw dc_law_draw pm_law_draw cd_law_draw ct_law_draw oc_law_pick kV_law_pick dc_law_pick pm_law_pick cd_law_pick ct_law_pick oc_law_made kV_law_made dc_law_made pm_law_made cd_law_made ct_law_made oc_law_beside kV_law_beside dc_law_beside pm_law_beside cd_law_beside ct_law_beside oc_law_inside kV_law_inside dc_law_inside pm_law_inside cd_law_inside ct_law_inside oclaw kVlaw dclaw pmlaw ctlaw ocStretch___init__ kVStretch___init__ dcStretch___init__ pmStretch___init__ cdStretch___init__ ctStretch___init__ ocStretch___eq__ kVStretch___eq__ dcStretch___eq__ pmStretch___eq__ cdStretch___eq__ ctStretch___eq__ ocStretch___len__ kVStretch___len__ dcStretch___len__ pmStretch___len__ cdStretch___len__ ctStretch___len__ ocStretch___str__ kVStretch___str__ dcStretch___str__ pmStretch___str__ cdStretch___str__ ctStretch___str__ ocStretch___repr__ kVStretch___repr__ dcStretch___repr__ pmStretch___repr__ cdStretch___repr__ ctStretch___repr__ ocNoStretch___init__ kVNoStretch___init__ dcNoStretch___init__ pmNoStretch___init__ cdNoStretch___init__ ctNoStretch___init__ ocTStretch___init__ ocTjoined : Value} {nTStretch___init__ nTjoined : Nat} {tdjoined_0 : Tok} {ts : List Addr} {ccjoined cpjoined : Addr} {xojoined : Value} {xdjoined : Option Addr} {xvjoined : Array Value} {xsjoined : Array (Option Value)} {cclaw cplaw : Addr} {xolaw : Value} {xdlaw : Option Addr} {xvlaw : Array Value} {xslaw : Array (Option Value)} {nmNoStretch qNoStretch : Str} {NNoStretch : Addr} {bsNoStretch : List Value} {snNoStretch : List Str} {subNoStretch : List Value} {abNoStretch : Bool} {colNoStretch : Option Bool} {ddNoStretch : Option Addr} {p0NoStretch p1NoStretch p2NoStretch p3NoStretch p5NoStretch : Option Value} {tDAY tHOUR : Tok}
    (aNoStretch : PySem.W.nsIn K mainGlobals "NoStretch" = some (some (.ref CNoStretch))) (xlNoStretch : K.lookup CNoStretch = some (excClassObj nmNoStretch qNoStretch CNoStretch NNoStretch bsNoStretch [.type "ArithmeticError", .type "Exception", .type "BaseException", .type "object"] true snNoStretch subNoStretch abNoStretch colNoStretch ddNoStretch p0NoStretch p1NoStretch p2NoStretch p3NoStretch p5NoStretch "ArithmeticError.__new__"))
    (hdNoStretch : PySem.W.hasDictIn K CNoStretch = true) (saNoStretch : PySem.W.findIn K (.ref CNoStretch) "__setattr__" = some (some (.builtin "object.__setattr__"))) (exNoStretch : PySem.W.subIn K (.ref CNoStretch) (.type "BaseException") = some true) (tyNoStretch : PySem.W.typeIn K (.ref CNoStretch) = some (.type "type")) (kcNoStretch : PySem.W.keepIn K (.ref CNoStretch) = true) (icNoStretch : PySem.W.isClsIn K CNoStretch = true) (seNoStretch : PySem.W.subIn K (.ref CNoStretch) (.ref CNoStretch) = some true) (upNoStretch : PySem.W.subIn K (.ref CNoStretch) (.type "ArithmeticError") = some true)
    (gaNoStretch : PySem.W.findIn K (.ref CNoStretch) "__getattribute__" = some (some (.builtin "BaseException.__getattribute__"))) (ggNoStretch : PySem.W.findIn K (.ref CNoStretch) "__getattr__" = some none) (haNoStretch : PySem.W.findIn K (.ref CNoStretch) "__class__" = some (some (.builtin "object.__class__"))) (hnNoStretch : PySem.W.specialIn K (.builtin "object.__class__") "__get__" = some (some (.builtin "getset_descriptor.__get__"))) (htNoStretch : PySem.W.takesIn K (.builtin "object.__class__") = some true) (hmNoStretch : PySem.W.mroIn K CNoStretch (.type "object") = some true)
    (nNoStretch_first : PySem.W.findIn K (.ref CNoStretch) "first" = some none)
    (nNoStretch_behind : PySem.W.findIn K (.ref CNoStretch) "behind" = some none)
    (aStretch : PySem.W.nsIn K mainGlobals "Stretch" = some (some (.ref CStretch))) (pgStretch : PySem.W.plainGet K CStretch Str.empty = true) (hdStretch : PySem.W.hasDictIn K CStretch = true) (poStretch : PySem.W.plainOver K CStretch = true) (saStretch : PySem.W.findIn K (.ref CStretch) "__setattr__" = some (some (.builtin "object.__setattr__"))) (mkStretch : PySem.W.makesIn K CStretch = true) (kcStretch : PySem.W.keepIn K (.ref CStretch) = true)
    (haStretch : PySem.W.findIn K (.ref CStretch) "__class__" = some (some (.builtin "object.__class__"))) (hnStretch : PySem.W.specialIn K (.builtin "object.__class__") "__get__" = some (some (.builtin "getset_descriptor.__get__"))) (htStretch : PySem.W.takesIn K (.builtin "object.__class__") = some true) (hmStretch : PySem.W.mroIn K CStretch (.type "object") = some true) (nfStretch : PySem.W.notFirst K CStretch (.ref CStretch) = true)
    (nStretch_first : PySem.W.findIn K (.ref CStretch) "first" = some none)
    (nStretch_behind : PySem.W.findIn K (.ref CStretch) "behind" = some none)
    (neStretch : PySem.W.findIn K (.ref CStretch) "__ne__" = some (some (.builtin "object.__ne__"))) (icStretch : PySem.W.isClsIn K CStretch = true) (tyStretch : PySem.W.typeIn K (.ref CStretch) = some (.type "type"))
    (subStretch_NoneType : PySem.W.subIn K (.ref CStretch) (.type "NoneType") = some false) (kitStretch_NoneType : PySem.W.subIn K (.type "NoneType") (.ref CStretch) = some false) (ntStretch_NoneType : PySem.W.notFirst K CStretch (.type "NoneType") = true)
    (subStretch_int : PySem.W.subIn K (.ref CStretch) (.type "int") = some false) (kitStretch_int : PySem.W.subIn K (.type "int") (.ref CStretch) = some false) (ntStretch_int : PySem.W.notFirst K CStretch (.type "int") = true)
    (subStretch_str : PySem.W.subIn K (.ref CStretch) (.type "str") = some false) (kitStretch_str : PySem.W.subIn K (.type "str") (.ref CStretch) = some false) (ntStretch_str : PySem.W.notFirst K CStretch (.type "str") = true)
    (subStretch_list : PySem.W.subIn K (.ref CStretch) (.type "list") = some false) (kitStretch_list : PySem.W.subIn K (.type "list") (.ref CStretch) = some false) (ntStretch_list : PySem.W.notFirst K CStretch (.type "list") = true)
    (subStretch_tuple : PySem.W.subIn K (.ref CStretch) (.type "tuple") = some false) (kitStretch_tuple : PySem.W.subIn K (.type "tuple") (.ref CStretch) = some false) (ntStretch_tuple : PySem.W.notFirst K CStretch (.type "tuple") = true)
    (subStretch_dict : PySem.W.subIn K (.ref CStretch) (.type "dict") = some false) (kitStretch_dict : PySem.W.subIn K (.type "dict") (.ref CStretch) = some false) (ntStretch_dict : PySem.W.notFirst K CStretch (.type "dict") = true)
    (aStretch___init__ : PySem.W.findIn K (.ref CStretch) "__init__" = some (some (.ref fStretch___init__))) (iStretch___init__ : PySem.W.isFn K (.ref fStretch___init__) = true) (lStretch___init__ : K.lookup fStretch___init__ = some ⟨ocStretch___init__, odStretch___init__, .func (PySem.W.fnOf "__init__" "Stretch.__init__" (defArgs sSInit) (defBody sSInit) (defScope sSInit) (.ref TStretch___init__) kVStretch___init__ dcStretch___init__ pmStretch___init__ anStretch___init__ cdStretch___init__ ctStretch___init__), slStretch___init__⟩) (cStretch___init__ : PySem.W.codeIn K cdStretch___init__ "Stretch.__init__" = true) (kStretch___init__ : PySem.W.keepIn K (.ref fStretch___init__) = true)
    (dStretch___init__ : K.lookup TStretch___init__ = some ⟨ocTStretch___init__, odTStretch___init__, .seq #[.none] nTStretch___init__, slTStretch___init__⟩)
    (aStretch___eq__ : PySem.W.findIn K (.ref CStretch) "__eq__" = some (some (.ref fStretch___eq__))) (iStretch___eq__ : PySem.W.isFn K (.ref fStretch___eq__) = true) (lStretch___eq__ : K.lookup fStretch___eq__ = some ⟨ocStretch___eq__, odStretch___eq__, .func (PySem.W.fnOf "__eq__" "Stretch.__eq__" (defArgs sSEq) (defBody sSEq) (defScope sSEq) .none kVStretch___eq__ dcStretch___eq__ pmStretch___eq__ anStretch___eq__ cdStretch___eq__ ctStretch___eq__), slStretch___eq__⟩) (cStretch___eq__ : PySem.W.codeIn K cdStretch___eq__ "Stretch.__eq__" = true) (kStretch___eq__ : PySem.W.keepIn K (.ref fStretch___eq__) = true)
    (aStretch___len__ : PySem.W.findIn K (.ref CStretch) "__len__" = some (some (.ref fStretch___len__))) (iStretch___len__ : PySem.W.isFn K (.ref fStretch___len__) = true) (lStretch___len__ : K.lookup fStretch___len__ = some ⟨ocStretch___len__, odStretch___len__, .func (PySem.W.fnOf "__len__" "Stretch.__len__" (defArgs sSLen) (defBody sSLen) (defScope sSLen) .none kVStretch___len__ dcStretch___len__ pmStretch___len__ anStretch___len__ cdStretch___len__ ctStretch___len__), slStretch___len__⟩) (cStretch___len__ : PySem.W.codeIn K cdStretch___len__ "Stretch.__len__" = true) (kStretch___len__ : PySem.W.keepIn K (.ref fStretch___len__) = true)
    (aStretch___str__ : PySem.W.findIn K (.ref CStretch) "__str__" = some (some (.ref fStretch___str__))) (iStretch___str__ : PySem.W.isFn K (.ref fStretch___str__) = true) (lStretch___str__ : K.lookup fStretch___str__ = some ⟨ocStretch___str__, odStretch___str__, .func (PySem.W.fnOf "__str__" "Stretch.__str__" (defArgs sSStr) (defBody sSStr) (defScope sSStr) .none kVStretch___str__ dcStretch___str__ pmStretch___str__ anStretch___str__ cdStretch___str__ ctStretch___str__), slStretch___str__⟩) (cStretch___str__ : PySem.W.codeIn K cdStretch___str__ "Stretch.__str__" = true) (kStretch___str__ : PySem.W.keepIn K (.ref fStretch___str__) = true)
    (aStretch___repr__ : PySem.W.findIn K (.ref CStretch) "__repr__" = some (some (.ref fStretch___repr__))) (iStretch___repr__ : PySem.W.isFn K (.ref fStretch___repr__) = true) (lStretch___repr__ : K.lookup fStretch___repr__ = some ⟨ocStretch___repr__, odStretch___repr__, .func (PySem.W.fnOf "__repr__" "Stretch.__repr__" (defArgs sSRepr) (defBody sSRepr) (defScope sSRepr) .none kVStretch___repr__ dcStretch___repr__ pmStretch___repr__ anStretch___repr__ cdStretch___repr__ ctStretch___repr__), slStretch___repr__⟩) (cStretch___repr__ : PySem.W.codeIn K cdStretch___repr__ "Stretch.__repr__" = true) (kStretch___repr__ : PySem.W.keepIn K (.ref fStretch___repr__) = true)
    (aNoStretch___init__ : PySem.W.findIn K (.ref CNoStretch) "__init__" = some (some (.ref fNoStretch___init__))) (iNoStretch___init__ : PySem.W.isFn K (.ref fNoStretch___init__) = true) (lNoStretch___init__ : K.lookup fNoStretch___init__ = some ⟨ocNoStretch___init__, odNoStretch___init__, .func (PySem.W.fnOf "__init__" "NoStretch.__init__" (defArgs sNInit) (defBody sNInit) (defScope sNInit) .none kVNoStretch___init__ dcNoStretch___init__ pmNoStretch___init__ anNoStretch___init__ cdNoStretch___init__ ctNoStretch___init__), slNoStretch___init__⟩) (cNoStretch___init__ : PySem.W.codeIn K cdNoStretch___init__ "NoStretch.__init__" = true) (kNoStretch___init__ : PySem.W.keepIn K (.ref fNoStretch___init__) = true)
    (ashow_time : PySem.W.nsIn K mainGlobals "show_time" = some (some (.ref fshow_time))) (lshow_time : K.lookup fshow_time = some ⟨ocshow_time, odshow_time, .func (PySem.W.fnOf "show_time" "show_time" (defArgs sShow) (defBody sShow) (defScope sShow) .none kVshow_time dcshow_time pmshow_time anshow_time cdshow_time ctshow_time), slshow_time⟩) (cshow_time : PySem.W.codeIn K cdshow_time "show_time" = true) (kshow_time : PySem.W.keepIn K (.ref fshow_time) = true)
    (ameet : PySem.W.nsIn K mainGlobals "meet" = some (some (.ref fmeet))) (lmeet : K.lookup fmeet = some ⟨ocmeet, odmeet, .func (PySem.W.fnOf "meet" "meet" (defArgs sMeet) (defBody sMeet) (defScope sMeet) .none kVmeet dcmeet pmmeet anmeet cdmeet ctmeet), slmeet⟩) (cmeet : PySem.W.codeIn K cdmeet "meet" = true) (kmeet : PySem.W.keepIn K (.ref fmeet) = true)
    (ajoined : PySem.W.nsIn K mainGlobals "joined" = some (some (.ref fjoined))) (ljoined : K.lookup fjoined = some ⟨ocjoined, odjoined, .func (PySem.W.fnOf "joined" "joined" (defArgs sJoined) (defBody sJoined) (defScope sJoined) (.ref Tjoined) kVjoined dcjoined pmjoined anjoined (.ref ccjoined) ctjoined), sljoined⟩) (cjoined : PySem.W.codeIn K (.ref ccjoined) "joined" = true) (kjoined : PySem.W.keepIn K (.ref fjoined) = true)
    (xljoined : K.lookup ccjoined = some ⟨xojoined, xdjoined, .fields xvjoined, xsjoined⟩) (xpjoined : (xvjoined[11]? : Option Value) = some (.ref cpjoined)) (tljoined : K.lookup cpjoined = none) (hcjoined : PySem.W.codeHdIn K ccjoined cpjoined = true) (mpjoined : cpjoined ∈ ts)
    (djoined : K.lookup Tjoined = some ⟨ocTjoined, odTjoined, .seq #[.int 0 tdjoined_0] nTjoined, slTjoined⟩)
    (agaps : PySem.W.nsIn K mainGlobals "gaps" = some (some (.ref fgaps))) (lgaps : K.lookup fgaps = some ⟨ocgaps, odgaps, .func (PySem.W.fnOf "gaps" "gaps" (defArgs sGaps) (defBody sGaps) (defScope sGaps) .none kVgaps dcgaps pmgaps angaps cdgaps ctgaps), slgaps⟩) (cgaps : PySem.W.codeIn K cdgaps "gaps" = true) (kgaps : PySem.W.keepIn K (.ref fgaps) = true)
    (aminutes_in : PySem.W.nsIn K mainGlobals "minutes_in" = some (some (.ref fminutes_in))) (lminutes_in : K.lookup fminutes_in = some ⟨ocminutes_in, odminutes_in, .func (PySem.W.fnOf "minutes_in" "minutes_in" (defArgs sMinutesIn) (defBody sMinutesIn) (defScope sMinutesIn) .none kVminutes_in dcminutes_in pmminutes_in anminutes_in cdminutes_in ctminutes_in), slminutes_in⟩) (cminutes_in : PySem.W.codeIn K cdminutes_in "minutes_in" = true) (kminutes_in : PySem.W.keepIn K (.ref fminutes_in) = true)
    (a_law_tape : PySem.W.nsIn K mainGlobals "_law_tape" = some (some (.ref f_law_tape))) (l_law_tape : K.lookup f_law_tape = some ⟨oc_law_tape, od_law_tape, .func (PySem.W.fnOf "_law_tape" "_law_tape" (defArgs sTape) (defBody sTape) (defScope sTape) .none kV_law_tape dc_law_tape pm_law_tape an_law_tape cd_law_tape ct_law_tape), sl_law_tape⟩) (c_law_tape : PySem.W.codeIn K cd_law_tape "_law_tape" = true) (k_law_tape : PySem.W.keepIn K (.ref f_law_tape) = true)
    (a_law_draw : PySem.W.nsIn K mainGlobals "_law_draw" = some (some (.ref f_law_draw))) (l_law_draw : K.lookup f_law_draw = some ⟨oc_law_draw, od_law_draw, .func (PySem.W.fnOf "_law_draw" "_law_draw" (defArgs sDraw) (defBody sDraw) (defScope sDraw) .none kV_law_draw dc_law_draw pm_law_draw an_law_draw cd_law_draw ct_law_draw), sl_law_draw⟩) (c_law_draw : PySem.W.codeIn K cd_law_draw "_law_draw" = true) (k_law_draw : PySem.W.keepIn K (.ref f_law_draw) = true)
    (a_law_pick : PySem.W.nsIn K mainGlobals "_law_pick" = some (some (.ref f_law_pick))) (l_law_pick : K.lookup f_law_pick = some ⟨oc_law_pick, od_law_pick, .func (PySem.W.fnOf "_law_pick" "_law_pick" (defArgs sPick) (defBody sPick) (defScope sPick) .none kV_law_pick dc_law_pick pm_law_pick an_law_pick cd_law_pick ct_law_pick), sl_law_pick⟩) (c_law_pick : PySem.W.codeIn K cd_law_pick "_law_pick" = true) (k_law_pick : PySem.W.keepIn K (.ref f_law_pick) = true)
    (a_law_made : PySem.W.nsIn K mainGlobals "_law_made" = some (some (.ref f_law_made))) (l_law_made : K.lookup f_law_made = some ⟨oc_law_made, od_law_made, .func (PySem.W.fnOf "_law_made" "_law_made" (defArgs sMade) (defBody sMade) (defScope sMade) .none kV_law_made dc_law_made pm_law_made an_law_made cd_law_made ct_law_made), sl_law_made⟩) (c_law_made : PySem.W.codeIn K cd_law_made "_law_made" = true) (k_law_made : PySem.W.keepIn K (.ref f_law_made) = true)
    (a_law_beside : PySem.W.nsIn K mainGlobals "_law_beside" = some (some (.ref f_law_beside))) (l_law_beside : K.lookup f_law_beside = some ⟨oc_law_beside, od_law_beside, .func (PySem.W.fnOf "_law_beside" "_law_beside" (defArgs sBeside) (defBody sBeside) (defScope sBeside) .none kV_law_beside dc_law_beside pm_law_beside an_law_beside cd_law_beside ct_law_beside), sl_law_beside⟩) (c_law_beside : PySem.W.codeIn K cd_law_beside "_law_beside" = true) (k_law_beside : PySem.W.keepIn K (.ref f_law_beside) = true)
    (a_law_inside : PySem.W.nsIn K mainGlobals "_law_inside" = some (some (.ref f_law_inside))) (l_law_inside : K.lookup f_law_inside = some ⟨oc_law_inside, od_law_inside, .func (PySem.W.fnOf "_law_inside" "_law_inside" (defArgs sInside) (defBody sInside) (defScope sInside) .none kV_law_inside dc_law_inside pm_law_inside an_law_inside cd_law_inside ct_law_inside), sl_law_inside⟩) (c_law_inside : PySem.W.codeIn K cd_law_inside "_law_inside" = true) (k_law_inside : PySem.W.keepIn K (.ref f_law_inside) = true)
    (alaw : PySem.W.nsIn K mainGlobals "law" = some (some (.ref flaw))) (llaw : K.lookup flaw = some ⟨oclaw, odlaw, .func (PySem.W.fnOf "law" "law" (defArgs sLaw) (defBody sLaw) (defScope sLaw) .none kVlaw dclaw pmlaw anlaw (.ref cclaw) ctlaw), sllaw⟩) (claw : PySem.W.codeIn K (.ref cclaw) "law" = true) (klaw : PySem.W.keepIn K (.ref flaw) = true)
    (xllaw : K.lookup cclaw = some ⟨xolaw, xdlaw, .fields xvlaw, xslaw⟩) (xplaw : (xvlaw[11]? : Option Value) = some (.ref cplaw)) (tllaw : K.lookup cplaw = none) (hclaw : PySem.W.codeHdIn K cclaw cplaw = true) (mplaw : cplaw ∈ ts)
    (ncjoined_law : cpjoined ≠ cplaw)
    (aDAY : PySem.W.nsIn K mainGlobals "DAY" = some (some (.int 1440 tDAY)))
    (aHOUR : PySem.W.nsIn K mainGlobals "HOUR" = some (some (.int 60 tHOUR)))
    (zArithmeticError : PySem.W.nsIn K mainGlobals "ArithmeticError" = some none)
    (zdivmod : PySem.W.nsIn K mainGlobals "divmod" = some none)
    (zisinstance : PySem.W.nsIn K mainGlobals "isinstance" = some none)
    (zlen : PySem.W.nsIn K mainGlobals "len" = some none)
    (zmax : PySem.W.nsIn K mainGlobals "max" = some none)
    (zmin : PySem.W.nsIn K mainGlobals "min" = some none)
    (zrange : PySem.W.nsIn K mainGlobals "range" = some none)
    (zsorted : PySem.W.nsIn K mainGlobals "sorted" = some none)
    (zsum : PySem.W.nsIn K mainGlobals "sum" = some none)
    : ∃ (fd : FuncData) (cs : List (Addr × Addr)) (sp : Sp), (∀ t ∈ cs, t.2 ∈ ts ∧ PySem.W.codeHdIn K t.1 t.2 = true ∧ K.lookup t.2 = none) ∧ (∀ (s : Shared) (u : Value), BindsTo s fd ⟨[u], []⟩ [("_law_script", u)]) ∧ (∀ (H : Hp) (a : Addr) (ns : List Int), ns.length ≤ 63 → (∀ t ∈ cs, H t.2 = some (.tbl #[])) → SqL K H a (ns.map V.int) → sp [.ref a] H (fun v _ => v = .bl true) fun _ _ _ => False) ∧ ∀ base : Heap, K.In base → base.Ns mainGlobals mg → (∀ t ∈ cs, LamX.TabB base mg t.1 t.2) → FnOkG l.prog w K mg base CX0 7 fa fd ["_law_script"] sp := by
  have e := hfa.symm.trans (PySem.W.mg_of X G alaw)
  cases e
  have gshow_time := PySem.W.mg_of X G ashow_time
  have Fshow_time := fun_mk (st := sShow) lshow_time cshow_time kshow_time
  have bshow_time := Fshow_time.binds (ps := ["minute"]) fun _ _ _ _ _ _ us hl => match us, hl with | [_], _ => rfl
  have gmeet := PySem.W.mg_of X G ameet
  have Fmeet := fun_mk (st := sMeet) lmeet cmeet kmeet
  have bmeet := Fmeet.binds (ps := ["one", "other"]) fun _ _ _ _ _ _ us hl => match us, hl with | [_, _], _ => rfl
  have gjoined := PySem.W.mg_of X G ajoined
  have Fjoined : FunDf_joined K fjoined _ := ⟨⟨_, _, _, _, _, _, _, _, _, _, rfl, ljoined, cjoined, .inr ⟨by simp, Tjoined, _, [.int 0 tdjoined_0], _, rfl, djoined, rfl, .cons ⟨_, rfl⟩ (.nil)⟩, .inl rfl⟩, kjoined⟩
  have ggaps := PySem.W.mg_of X G agaps
  have Fgaps := fun_mk (st := sGaps) lgaps cgaps kgaps
  have bgaps := Fgaps.binds (ps := ["some", "within"]) fun _ _ _ _ _ _ us hl => match us, hl with | [_, _], _ => rfl
  have gminutes_in := PySem.W.mg_of X G aminutes_in
  have Fminutes_in := fun_mk (st := sMinutesIn) lminutes_in cminutes_in kminutes_in
  have bminutes_in := Fminutes_in.binds (ps := ["some"]) fun _ _ _ _ _ _ us hl => match us, hl with | [_], _ => rfl
  have g_law_tape := PySem.W.mg_of X G a_law_tape
  have F_law_tape := fun_mk (st := sTape) l_law_tape c_law_tape k_law_tape
  have b_law_tape := F_law_tape.binds (ps := ["_law_script"]) fun _ _ _ _ _ _ us hl => match us, hl with | [_], _ => rfl
  have g_law_draw := PySem.W.mg_of X G a_law_draw
  have F_law_draw := fun_mk (st := sDraw) l_law_draw c_law_draw k_law_draw
  have b_law_draw := F_law_draw.binds (ps := ["_law_tape_here", "_law_many"]) fun _ _ _ _ _ _ us hl => match us, hl with | [_, _], _ => rfl
  have g_law_pick := PySem.W.mg_of X G a_law_pick
  have F_law_pick := fun_mk (st := sPick) l_law_pick c_law_pick k_law_pick
  have b_law_pick := F_law_pick.binds (ps := ["_law_tape_here", "_law_some"]) fun _ _ _ _ _ _ us hl => match us, hl with | [_, _], _ => rfl
  have g_law_made := PySem.W.mg_of X G a_law_made
  have F_law_made := fun_mk (st := sMade) l_law_made c_law_made k_law_made
  have b_law_made := F_law_made.binds (ps := ["_law_tape_here"]) fun _ _ _ _ _ _ us hl => match us, hl with | [_], _ => rfl
  have g_law_beside := PySem.W.mg_of X G a_law_beside
  have F_law_beside := fun_mk (st := sBeside) l_law_beside c_law_beside k_law_beside
  have b_law_beside := F_law_beside.binds (ps := ["_law_some", "_law_whole"]) fun _ _ _ _ _ _ us hl => match us, hl with | [_, _], _ => rfl
  have g_law_inside := PySem.W.mg_of X G a_law_inside
  have F_law_inside := fun_mk (st := sInside) l_law_inside c_law_inside k_law_inside
  have b_law_inside := F_law_inside.binds (ps := ["_law_one", "_law_other"]) fun _ _ _ _ _ _ us hl => match us, hl with | [_, _], _ => rfl
  have glaw := PySem.W.mg_of X G alaw
  have Flaw := fun_mk (st := sLaw) llaw claw klaw
  have blaw := Flaw.binds (ps := ["_law_script"]) fun _ _ _ _ _ _ us hl => match us, hl with | [_], _ => rfl
  have oxNoStretch := oex_of PySem.F.excBase_ArithmeticError PySem.F.store_ArithmeticError xlNoStretch (by decide +kernel) hdNoStretch saNoStretch exNoStretch tyNoStretch kcNoStretch
  have gCStretch := PySem.W.mg_of X G aStretch
  have FStretch___init__ : FunDf_Stretch___init__ K fStretch___init__ _ := ⟨⟨_, _, _, _, _, _, _, _, _, _, rfl, lStretch___init__, cStretch___init__, .inr ⟨by simp, TStretch___init__, _, [.none], _, rfl, dStretch___init__, rfl, .cons rfl (.nil)⟩, .inl rfl⟩, kStretch___init__⟩
  have FStretch___eq__ := fun_mk (st := sSEq) lStretch___eq__ cStretch___eq__ kStretch___eq__
  have bStretch___eq__ := FStretch___eq__.binds (ps := ["self", "other"]) fun _ _ _ _ _ _ us hl => match us, hl with | [_, _], _ => rfl
  have FStretch___len__ := fun_mk (st := sSLen) lStretch___len__ cStretch___len__ kStretch___len__
  have bStretch___len__ := FStretch___len__.binds (ps := ["self"]) fun _ _ _ _ _ _ us hl => match us, hl with | [_], _ => rfl
  have FStretch___str__ := fun_mk (st := sSStr) lStretch___str__ cStretch___str__ kStretch___str__
  have bStretch___str__ := FStretch___str__.binds (ps := ["self"]) fun _ _ _ _ _ _ us hl => match us, hl with | [_], _ => rfl
  have FStretch___repr__ := fun_mk (st := sSRepr) lStretch___repr__ cStretch___repr__ kStretch___repr__
  have bStretch___repr__ := FStretch___repr__.binds (ps := ["self"]) fun _ _ _ _ _ _ us hl => match us, hl with | [_], _ => rfl
  have gCNoStretch := PySem.W.mg_of X G aNoStretch
  have FNoStretch___init__ := fun_mk (st := sNInit) lNoStretch___init__ cNoStretch___init__ kNoStretch___init__
  have bNoStretch___init__ := FNoStretch___init__.binds (ps := ["self", "first", "behind"]) fun _ _ _ _ _ _ us hl => match us, hl with | [_, _, _], _ => rfl
  have mDAY := PySem.W.mg_of X G aDAY
  have mHOUR := PySem.W.mg_of X G aHOUR
  have mArithmeticError := PySem.W.mg_none_of X G zArithmeticError
  have mdivmod := PySem.W.mg_none_of X G zdivmod
  have misinstance := PySem.W.mg_none_of X G zisinstance
  have mlen := PySem.W.mg_none_of X G zlen
  have mmax := PySem.W.mg_none_of X G zmax
  have mmin := PySem.W.mg_none_of X G zmin
  have mrange := PySem.W.mg_none_of X G zrange
  have msorted := PySem.W.mg_none_of X G zsorted
  have msum := PySem.W.mg_none_of X G zsum
  refine ⟨_, [(ccjoined, cpjoined), (cclaw, cplaw)], spLawT K [(cpjoined, "joined" ++ ".<locals>." ++ "<lambda>"), (cplaw, "law" ++ ".<locals>." ++ "<lambda>")], ?_, fun s v => .of_eq rfl, fun H a ns hl hH hS => ⟨a, ns, rfl, hS, hl, tabs0 ?_, fun _ => rfl⟩, fun base _ _ h3 => ok_law ({ fshow_time := _, fdshow_time := _, Fshow_time := Fshow_time, bshow_time := bshow_time, gshow_time := gshow_time, fmeet := _, fdmeet := _, Fmeet := Fmeet, bmeet := bmeet, gmeet := gmeet, fjoined := _, fdjoined := _, Fjoined := Fjoined, gjoined := gjoined, fgaps := _, fdgaps := _, Fgaps := Fgaps, bgaps := bgaps, ggaps := ggaps, fminutes_in := _, fdminutes_in := _, Fminutes_in := Fminutes_in, bminutes_in := bminutes_in, gminutes_in := gminutes_in, f_law_tape := _, fd_law_tape := _, F_law_tape := F_law_tape, b_law_tape := b_law_tape, g_law_tape := g_law_tape, f_law_draw := _, fd_law_draw := _, F_law_draw := F_law_draw, b_law_draw := b_law_draw, g_law_draw := g_law_draw, f_law_pick := _, fd_law_pick := _, F_law_pick := F_law_pick, b_law_pick := b_law_pick, g_law_pick := g_law_pick, f_law_made := _, fd_law_made := _, F_law_made := F_law_made, b_law_made := b_law_made, g_law_made := g_law_made, f_law_beside := _, fd_law_beside := _, F_law_beside := F_law_beside, b_law_beside := b_law_beside, g_law_beside := g_law_beside, f_law_inside := _, fd_law_inside := _, F_law_inside := F_law_inside, b_law_inside := b_law_inside, g_law_inside := g_law_inside, flaw := _, fdlaw := _, Flaw := Flaw, blaw := blaw, glaw := glaw, fStretch___init__ := _, fdStretch___init__ := _, FStretch___init__ := FStretch___init__, fStretch___eq__ := _, fdStretch___eq__ := _, FStretch___eq__ := FStretch___eq__, bStretch___eq__ := bStretch___eq__, fStretch___len__ := _, fdStretch___len__ := _, FStretch___len__ := FStretch___len__, bStretch___len__ := bStretch___len__, fStretch___str__ := _, fdStretch___str__ := _, FStretch___str__ := FStretch___str__, bStretch___str__ := bStretch___str__, fStretch___repr__ := _, fdStretch___repr__ := _, FStretch___repr__ := FStretch___repr__, bStretch___repr__ := bStretch___repr__, fNoStretch___init__ := _, fdNoStretch___init__ := _, FNoStretch___init__ := FNoStretch___init__, bNoStretch___init__ := bNoStretch___init__, ccjoined := _, cpjoined := _, cclaw := _, cplaw := _, ncjoined_law := ncjoined_law, tDAY := _, mDAY := mDAY, tHOUR := _, mHOUR := mHOUR, mArithmeticError := mArithmeticError, mdivmod := mdivmod, misinstance := misinstance, mlen := mlen, mmax := mmax, mmin := mmin, mrange := mrange, msorted := msorted, msum := msum, CStretch := _, CNoStretch := _, gCNoStretch := gCNoStretch, oxNoStretch := oxNoStretch, exNoStretch := exNoStretch, hdNoStretch := hdNoStretch, tyNoStretch := tyNoStretch, icNoStretch := icNoStretch, seNoStretch := seNoStretch, upNoStretch := upNoStretch, gaNoStretch := gaNoStretch, ggNoStretch := ggNoStretch, haNoStretch := haNoStretch, hnNoStretch := hnNoStretch, htNoStretch := htNoStretch, hmNoStretch := hmNoStretch, nNoStretch_first := nNoStretch_first, nNoStretch_behind := nNoStretch_behind, aNoStretch___init__ := aNoStretch___init__, iNoStretch___init__ := iNoStretch___init__, kNoStretch___init__ := kNoStretch___init__, gCStretch := gCStretch, pgStretch := pgStretch, hdStretch := hdStretch, poStretch := poStretch, saStretch := saStretch, mkStretch := mkStretch, kcStretch := kcStretch, haStretch := haStretch, hnStretch := hnStretch, htStretch := htStretch, hmStretch := hmStretch, nfStretch := nfStretch, nStretch_first := nStretch_first, nStretch_behind := nStretch_behind, neStretch := neStretch, icStretch := icStretch, tyStretch := tyStretch, subStretch_NoneType := subStretch_NoneType, kitStretch_NoneType := kitStretch_NoneType, ntStretch_NoneType := ntStretch_NoneType, subStretch_int := subStretch_int, kitStretch_int := kitStretch_int, ntStretch_int := ntStretch_int, subStretch_str := subStretch_str, kitStretch_str := kitStretch_str, ntStretch_str := ntStretch_str, subStretch_list := subStretch_list, kitStretch_list := kitStretch_list, ntStretch_list := ntStretch_list, subStretch_tuple := subStretch_tuple, kitStretch_tuple := kitStretch_tuple, ntStretch_tuple := ntStretch_tuple, subStretch_dict := subStretch_dict, kitStretch_dict := kitStretch_dict, ntStretch_dict := ntStretch_dict, aStretch___init__ := aStretch___init__, iStretch___init__ := iStretch___init__, kStretch___init__ := kStretch___init__, aStretch___eq__ := aStretch___eq__, iStretch___eq__ := iStretch___eq__, kStretch___eq__ := kStretch___eq__, aStretch___len__ := aStretch___len__, iStretch___len__ := iStretch___len__, kStretch___len__ := kStretch___len__, aStretch___str__ := aStretch___str__, iStretch___str__ := iStretch___str__, kStretch___str__ := kStretch___str__, aStretch___repr__ := aStretch___repr__, iStretch___repr__ := iStretch___repr__, kStretch___repr__ := kStretch___repr__, tbjoined := h3 _ (.head _), cdjoined := rfl, tblaw := h3 _ (.tail _ (.head _)), cdlaw := rfl } : Ev K mg base)⟩
  · intro t ht
    simp only [List.mem_cons, List.not_mem_nil, or_false] at ht
    rcases ht with rfl | rfl
    · exact ⟨mpjoined, hcjoined, tljoined⟩
    · exact ⟨mplaw, hclaw, tllaw⟩
  · intro p hp
    simp only [List.mem_cons, List.not_mem_nil, or_false] at hp
    rcases hp with rfl | rfl
    · exact hH _ (.head _)
    · exact hH _ (.tail _ (.head _))
end Bb
open PySem PySem.W PyProof.Rows
set_option maxHeartbeats 0 in
theorem PySem.Challenge.cw_boatbridge_k07_whole_stretches_part_the_holds : PySem.Challenge.rw_boatbridge_k07_whole_stretches_part_the.Holds := by
  w_on; o_law; k_head; (case hw => w_witness2)
  k_fill
  refine Bb.walkM (l := PySem.Challenge.rw_boatbridge_k07_whole_stretches_part_the) (n := 63) (k := 7) (x := "_law_script") rfl (by decide) rfl ⟨rfl, by decide, by decide⟩ (fun w h Y => PySem.W.km_in_of Y) (fun w h Y => PySem.W.km_tabs_of Y) ?F
  case F =>
    intro w mg fa h KX G hmg
    refine' Bb.all_mk KX G hmg ?aNoStretch ?xlNoStretch ?hdNoStretch ?saNoStretch ?exNoStretch ?tyNoStretch ?kcNoStretch ?icNoStretch ?seNoStretch ?upNoStretch ?gaNoStretch ?ggNoStretch ?haNoStretch ?hnNoStretch ?htNoStretch ?hmNoStretch ?nNoStretch_first ?nNoStretch_behind ?aStretch ?pgStretch ?hdStretch ?poStretch ?saStretch ?mkStretch ?kcStretch ?haStretch ?hnStretch ?htStretch ?hmStretch ?nfStretch ?nStretch_first ?nStretch_behind ?neStretch ?icStretch ?tyStretch ?subStretch_NoneType ?kitStretch_NoneType ?ntStretch_NoneType ?subStretch_int ?kitStretch_int ?ntStretch_int ?subStretch_str ?kitStretch_str ?ntStretch_str ?subStretch_list ?kitStretch_list ?ntStretch_list ?subStretch_tuple ?kitStretch_tuple ?ntStretch_tuple ?subStretch_dict ?kitStretch_dict ?ntStretch_dict ?aStretch___init__ ?iStretch___init__ ?lStretch___init__ ?cStretch___init__ ?kStretch___init__ ?dStretch___init__ ?aStretch___eq__ ?iStretch___eq__ ?lStretch___eq__ ?cStretch___eq__ ?kStretch___eq__ ?aStretch___len__ ?iStretch___len__ ?lStretch___len__ ?cStretch___len__ ?kStretch___len__ ?aStretch___str__ ?iStretch___str__ ?lStretch___str__ ?cStretch___str__ ?kStretch___str__ ?aStretch___repr__ ?iStretch___repr__ ?lStretch___repr__ ?cStretch___repr__ ?kStretch___repr__ ?aNoStretch___init__ ?iNoStretch___init__ ?lNoStretch___init__ ?cNoStretch___init__ ?kNoStretch___init__ ?ashow_time ?lshow_time ?cshow_time ?kshow_time ?ameet ?lmeet ?cmeet ?kmeet ?ajoined ?ljoined ?cjoined ?kjoined ?xljoined ?xpjoined ?tljoined ?hcjoined ?mpjoined ?djoined ?agaps ?lgaps ?cgaps ?kgaps ?aminutes_in ?lminutes_in ?cminutes_in ?kminutes_in ?a_law_tape ?l_law_tape ?c_law_tape ?k_law_tape ?a_law_draw ?l_law_draw ?c_law_draw ?k_law_draw ?a_law_pick ?l_law_pick ?c_law_pick ?k_law_pick ?a_law_made ?l_law_made ?c_law_made ?k_law_made ?a_law_beside ?l_law_beside ?c_law_beside ?k_law_beside ?a_law_inside ?l_law_inside ?c_law_inside ?k_law_inside ?alaw ?llaw ?claw ?klaw ?xllaw ?xplaw ?tllaw ?hclaw ?mplaw ?ncjoined_law ?aDAY ?aHOUR ?zArithmeticError ?zdivmod ?zisinstance ?zlen ?zmax ?zmin ?zrange ?zsorted ?zsum
    (case aNoStretch => k_is)
    (case xlNoStretch => k_is)
    (case hdNoStretch => k_is)
    (case saNoStretch => k_is)
    (case exNoStretch => k_is)
    (case tyNoStretch => k_is)
    (case kcNoStretch => k_is)
    (case icNoStretch => k_is)
    (case seNoStretch => k_is)
    (case upNoStretch => k_is)
    (case gaNoStretch => k_is)
    (case ggNoStretch => k_is)
    (case haNoStretch => k_is)
    (case hnNoStretch => k_is)
    (case htNoStretch => k_is)
    (case hmNoStretch => k_is)
    (case nNoStretch_first => k_is)
    (case nNoStretch_behind => k_is)
    (case aStretch => k_is)
    (case pgStretch => k_is)
    (case hdStretch => k_is)
    (case poStretch => k_is)
    (case saStretch => k_is)
    (case mkStretch => k_is)
    (case kcStretch => k_is)
    (case haStretch => k_is)
    (case hnStretch => k_is)
    (case htStretch => k_is)
    (case hmStretch => k_is)
    (case nfStretch => k_is)
    (case nStretch_first => k_is)
    (case nStretch_behind => k_is)
    (case neStretch => k_is)
    (case icStretch => k_is)
    (case tyStretch => k_is)
    (case subStretch_NoneType => k_is)
    (case kitStretch_NoneType => k_is)
    (case ntStretch_NoneType => k_is)
    (case subStretch_int => k_is)
    (case kitStretch_int => k_is)
    (case ntStretch_int => k_is)
    (case subStretch_str => k_is)
    (case kitStretch_str => k_is)
    (case ntStretch_str => k_is)
    (case subStretch_list => k_is)
    (case kitStretch_list => k_is)
    (case ntStretch_list => k_is)
    (case subStretch_tuple => k_is)
    (case kitStretch_tuple => k_is)
    (case ntStretch_tuple => k_is)
    (case subStretch_dict => k_is)
    (case kitStretch_dict => k_is)
    (case ntStretch_dict => k_is)
    (case aStretch___init__ => k_is)
    (case iStretch___init__ => k_is)
    (case lStretch___init__ => k_is)
    (case cStretch___init__ => k_is)
    (case kStretch___init__ => k_is)
    (case dStretch___init__ => k_is)
    (case aStretch___eq__ => k_is)
    (case iStretch___eq__ => k_is)
    (case lStretch___eq__ => k_is)
    (case cStretch___eq__ => k_is)
    (case kStretch___eq__ => k_is)
    (case aStretch___len__ => k_is)
    (case iStretch___len__ => k_is)
    (case lStretch___len__ => k_is)
    (case cStretch___len__ => k_is)
    (case kStretch___len__ => k_is)
    (case aStretch___str__ => k_is)
    (case iStretch___str__ => k_is)
    (case lStretch___str__ => k_is)
    (case cStretch___str__ => k_is)
    (case kStretch___str__ => k_is)
    (case aStretch___repr__ => k_is)
    (case iStretch___repr__ => k_is)
    (case lStretch___repr__ => k_is)
    (case cStretch___repr__ => k_is)
    (case kStretch___repr__ => k_is)
    (case aNoStretch___init__ => k_is)
    (case iNoStretch___init__ => k_is)
    (case lNoStretch___init__ => k_is)
    (case cNoStretch___init__ => k_is)
    (case kNoStretch___init__ => k_is)
    (case ashow_time => k_is)
    (case lshow_time => k_is)
    (case cshow_time => k_is)
    (case kshow_time => k_is)
    (case ameet => k_is)
    (case lmeet => k_is)
    (case cmeet => k_is)
    (case kmeet => k_is)
    (case ajoined => k_is)
    (case ljoined => k_is)
    (case cjoined => k_is)
    (case kjoined => k_is)
    (case xljoined => k_is)
    (case xpjoined => rfl)
    (case tljoined => first | rfl | k_is | kernel_rfl)
    (case hcjoined => first | rfl | k_is | kernel_rfl)
    (case mpjoined => decide)
    (case djoined => k_is)
    (case agaps => k_is)
    (case lgaps => k_is)
    (case cgaps => k_is)
    (case kgaps => k_is)
    (case aminutes_in => k_is)
    (case lminutes_in => k_is)
    (case cminutes_in => k_is)
    (case kminutes_in => k_is)
    (case a_law_tape => k_is)
    (case l_law_tape => k_is)
    (case c_law_tape => k_is)
    (case k_law_tape => k_is)
    (case a_law_draw => k_is)
    (case l_law_draw => k_is)
    (case c_law_draw => k_is)
    (case k_law_draw => k_is)
    (case a_law_pick => k_is)
    (case l_law_pick => k_is)
    (case c_law_pick => k_is)
    (case k_law_pick => k_is)
    (case a_law_made => k_is)
    (case l_law_made => k_is)
    (case c_law_made => k_is)
    (case k_law_made => k_is)
    (case a_law_beside => k_is)
    (case l_law_beside => k_is)
    (case c_law_beside => k_is)
    (case k_law_beside => k_is)
    (case a_law_inside => k_is)
    (case l_law_inside => k_is)
    (case c_law_inside => k_is)
    (case k_law_inside => k_is)
    (case alaw => k_is)
    (case llaw => k_is)
    (case claw => k_is)
    (case klaw => k_is)
    (case xllaw => k_is)
    (case xplaw => rfl)
    (case tllaw => first | rfl | k_is | kernel_rfl)
    (case hclaw => first | rfl | k_is | kernel_rfl)
    (case mplaw => decide)
    (case ncjoined_law => decide)
    (case aDAY => k_is)
    (case aHOUR => k_is)
    (case zArithmeticError => k_is)
    (case zdivmod => k_is)
    (case zisinstance => k_is)
    (case zlen => k_is)
    (case zmax => k_is)
    (case zmin => k_is)
    (case zrange => k_is)
    (case zsorted => k_is)
    (case zsum => k_is)
