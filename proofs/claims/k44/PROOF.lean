import PyProof.Rows.All
import Wide.All
import OpenK.AllK
import Wide.FinOn
import PyProof.FString3
import PyProof.InstNe
import HandS.ForMost
import HandS.FStr
import HandS.StrMore
import HandS.IsInst
import HandS.Codes
import HandS.TryOnly
import HandS.SlotsOwn
import HandS.Defaults
import HandS.MakeKw
import HandS.MakeKwOnly
import HandS.OwnEq
import KE.KCallOwn
import KE.KFmtOwn
import HandS.ExcInit
import HandS.ExcIs
import HandS.ExcField
import HandS.ExcValue
import KE.KExcIs
import KE.KExcInit
import HandS.Conv
import OpenK.KOps
import PyProof.Rows.Range3
import PyProof.ListRange
import HandS.Style
import PyProof.ReprRoads
import PyProof.ExcBaseAll.LookupError
import HandS.SortInts
import HandS.SortKw
import HandS.Star
import HandS.Flow
import HandS.FStrTup
import HandS.CallSlots
import PySem.Challenge.RW_boatbridge_k44_last_calls
set_option Elab.async false
set_option linter.all false
set_option maxRecDepth 100000
namespace Bb
open PySem PySem.Spec PyProof.Rows L2 PySem.W
open C8 (pss_cut)
open TL (tl ext_tl partition_app partition_none)
def topS (i : Nat) : Stmt := PySem.Challenge.pw_boatbridge_k44_last_calls.main.body.getD i (.Pass ⟨0, 0, 0, 0⟩)
abbrev sFeed : Stmt := topS 19
abbrev NFeed : List Str := ["_law_script"]
theorem scFeed : FnScope NFeed ["_law_script"] (defScope sFeed) := ⟨rfl, rfl, rfl, by decide +kernel, rfl, by decide +kernel, by decide +kernel⟩
abbrev sDraw : Stmt := topS 20
abbrev NDraw : List Str := ["_law_feed_here", "_law_many", "_law_found", "_law_spot", "_law_cell", "_law_mixed"]
theorem scDraw : FnScope NDraw ["_law_feed_here", "_law_many"] (defScope sDraw) := ⟨rfl, rfl, rfl, by decide +kernel, rfl, by decide +kernel, by decide +kernel⟩
abbrev sOf : Stmt := topS 21
abbrev NOf : List Str := ["_law_feed_here", "_law_some"]
theorem scOf : FnScope NOf ["_law_feed_here", "_law_some"] (defScope sOf) := ⟨rfl, rfl, rfl, by decide +kernel, rfl, by decide +kernel, by decide +kernel⟩

/-- the tape at T: the cells' list, the draws done (at most n), the rest of a great cell -/
structure Tape (H : Hp) (T c : Addr) (n : Nat) : Prop where
  ex : ∃ (t r : Int) (ns : List Int), H T = some (.lst [.ref c, .int t, .int r]) ∧ H c = some (.lst (ns.map V.int)) ∧ c ≠ T ∧ 0 ≤ t ∧ t ≤ n ∧ ns.length ≤ 63
/-- all but the tape stands as it stood -/
def Keep (T : Addr) (H H' : Hp) : Prop := ∀ a o, a ≠ T → H a = some o → H' a = some o
theorem Keep.refl {T : Addr} {H : Hp} : Keep T H H := fun _ _ _ e => e
theorem Keep.trans {T : Addr} {H H1 H2 : Hp} (a : Keep T H H1) (b : Keep T H1 H2) : Keep T H H2 := fun x o n e => b x o n (a x o n e)
theorem Keep.updT {T : Addr} {H H1 : Hp} {o : HO} (a : Keep T H H1) : Keep T H (upd H1 T o) := fun x o n e => by
  rw [upd_ne n]; exact a x o n e
theorem Keep.new {T : Addr} {H H1 : Hp} {p : Addr} {o : HO} (a : Keep T H H1) (h : H1 p = none) : Keep T H (upd H1 p o) := fun x o n e => by
  have z := a x o n e
  rw [upd_ne (ne_of_none z h)]; exact z
theorem Tape.mono {H : Hp} {T c : Addr} {n m : Nat} (h : Tape H T c n) (l : n ≤ m) : Tape H T c m := by
  obtain ⟨t, r, ns, h1, h2, h3, h4, h5, h6⟩ := h.ex
  exact ⟨t, r, ns, h1, h2, h3, h4, by omega, h6⟩
theorem Tape.upd {H : Hp} {T c : Addr} {n : Nat} {p : Addr} {o : HO} (h : Tape H T c n) (n1 : p ≠ T) (n2 : p ≠ c) : Tape (upd H p o) T c n := by
  obtain ⟨t, r, ns, h1, h2, h3, h4, h5, h6⟩ := h.ex
  exact ⟨t, r, ns, by rw [upd_ne n1.symm]; exact h1, by rw [upd_ne n2.symm]; exact h2, h3, h4, h5, h6⟩
theorem Tape.new {H : Hp} {T c : Addr} {n : Nat} {p : Addr} {o : HO} (h : Tape H T c n) (hp : H p = none) : Tape (L2.upd H p o) T c n := by
  obtain ⟨t, r, ns, h1, h2, h3, h4, h5, h6⟩ := h.ex
  exact ⟨t, r, ns, by rw [upd_ne (ne_of_none h1 hp)]; exact h1, by rw [upd_ne (ne_of_none h2 hp)]; exact h2, h3, h4, h5, h6⟩
theorem Tape.nec {H : Hp} {T c : Addr} {n : Nat} {p : Addr} (h : Tape H T c n) (hp : H p = none) : p ≠ c := by
  obtain ⟨t, r, ns, _, h2, _⟩ := h.ex
  exact (ne_of_none h2 hp).symm
theorem Tape.ne {H : Hp} {T c : Addr} {n : Nat} {p : Addr} (h : Tape H T c n) (hp : H p = none) : p ≠ T := by
  obtain ⟨t, r, ns, h1, _⟩ := h.ex
  exact (ne_of_none h1 hp).symm
theorem upd_at {H : Hp} {p a : Addr} {o z : HO} (hp : H p = none) (h : H a = some z) : (upd H p o) a = some z := by
  rw [upd_ne (ne_of_none h hp)]; exact h
def spTape (K : PySem.W.Frag) : Sp := fun vs H Q _ => ∃ (a : Addr) (ns : List Int), vs = [.ref a] ∧ SqL K H a (ns.map V.int) ∧ ns.length ≤ 63 ∧
  ∀ T c H', H T = none → H c = none → Same H H' → Tape H' T c 0 → Q (.ref T) H'
def spDraw : Sp := fun vs H Q _ => ∃ (T c : Addr) (b : Int) (n : Nat), vs = [.ref T, .int b] ∧ 0 < b ∧ b < 1073741824 ∧ n < 1000000 ∧ Tape H T c n ∧
  ∀ d H', 0 ≤ d → d < b → Tape H' T c (n + 1) → Keep T H H' → Q (.int d) H'
/-- an item of a list, any one -/
def spPick : Sp := fun vs H Q _ => ∃ (T c p : Addr) (xs : List V) (n : Nat), vs = [.ref T, .ref p] ∧ H p = some (.lst xs) ∧ p ≠ T ∧ 0 < xs.length ∧ xs.length < 1000000 ∧ n < 1000000 ∧ Tape H T c n ∧
  ∀ (j : Nat) (x : V) H', xs[j]? = some x → Tape H' T c (n + 1) → Keep T H H' → Q x H'
theorem dp_ints {K : PySem.W.Frag} {H : Hp} : ∀ ns : List Int, DpAll K H (ns.map V.int) (ns.map PyData.int)
  | [] => .nil
  | _ :: r => .cons (.int _) (dp_ints r)
theorem cut63 {ns : List Int} (h : ns.length ≤ 63) : cutV (ns.map V.int) none (some 63) = ns.map V.int := by
  unfold cutV
  rw [HT.sIx_none, show HT.sIx (ns.map V.int).length (ns.map V.int).length (some 63) = min 63 (ns.map V.int).length from HT.sIx_nat _ _ 63, List.length_map, Nat.min_eq_right h]
  show ((ns.map V.int).take (ns.length - 0)) = _
  rw [Nat.sub_zero]
  exact List.take_of_length_le (by rw [List.length_map]; exact Nat.le_refl _)
theorem fmod_in {a b : Int} (h : 0 < b) : 0 ≤ a.fmod b ∧ a.fmod b < b := by
  rw [Int.fmod_eq_emod_of_nonneg a (Int.le_of_lt h)]; exact ⟨Int.emod_nonneg a (by omega), Int.emod_lt_of_pos a h⟩
/-- what the law's helpers ask of the module's names -/
structure Txt0 (mg : Str → Option Value) : Prop where
  mlen : mg "len" = none
structure TxtF (mg : Str → Option Value) : Prop where
  mlist : mg "list" = none
section
variable {P : Program} {w : World} {K : PySem.W.Frag} {mg : Str → Option Value} {base : Heap}
theorem ok_draw {f : Addr} {fd : FuncData} {k : Nat} (F : Fun K "_law_draw" "_law_draw" sDraw f fd) (T : Txt0 mg) : FnOk P w K mg base CX0 (k + 1) f fd ["_law_feed_here", "_law_many"] spDraw := by
  refine F.ok scDraw (fun vs H Q E h => ?_) (fun cdv A outer s H vs Q E hr h => ?_)
  · obtain ⟨T, c, b, n, rfl, _⟩ := h
    rfl
  · obtain ⟨a, c, b, n, rfl, hb0, hb1, hn, hT, q⟩ := h
    obtain ⟨t, r, ns, h1, h2, h3, h4, h5, h6⟩ := hT.ex
    refine ⟨_,
      (pss_cons (ps_if (pt_cmpR op_gt (pe_ix ix_list (pv 0) pe_int (fun _ _ => rfl)) pe_int (nomark _))
      (pss_cons (ps_set (i := 2) scDraw.nd rfl (.inl rfl) (pe_op op_modN (pe_ix ix_list (pv 0) pe_int (fun _ _ => rfl)) (pv 1)))
      (pss_cons (ps_asg (pe_op op_fdivN (pe_ix ix_list (pv 0) pe_int (fun _ _ => rfl)) (pv 1)) (pg_sub (pv 0) pe_int set_list))
      (pss_one (ps_ret (pv 2)))))
      pss_nil)
      (pss_cons (ps_set (i := 3) scDraw.nd rfl (.inl rfl) (pe_ix ix_list (pv 0) pe_int (fun _ _ => rfl)))
      (pss_cut (ps_asg (pe_op op_add (pv 3) pe_int) (pg_sub (pv 0) pe_int set_list))
      (pss_cut (ps_set (i := 4) scDraw.nd rfl (.inl rfl) (pe_ifExp (pt_cmpR (op_neD hr.units) (pe_ix ix_list (pv 0) pe_int (fun _ _ => rfl)) (pe_lst pa_nil) (nomark _)) (pe_ix ix_list (pe_ix ix_list (pv 0) pe_int (fun _ _ => rfl)) (pe_op op_modN (pv 3) (pe_callB call_len_seq (by rfl) T.mlen PySem.boot_len (pa_cons (pe_ix ix_list (pv 0) pe_int (fun _ _ => rfl)) pa_nil))) (fun _ _ => rfl)) (pe_op op_add (pe_op op_mul pe_int (pv 3)) pe_int)))
      (pss_cut (ps_if (PW.pt (pw_and (pt_cmpR op_lt (pv 3) (pe_callB call_len_seq (by rfl) T.mlen PySem.boot_len (pa_cons (pe_ix ix_list (pv 0) pe_int (fun _ _ => rfl)) pa_nil)) (nomark _)) (pw_and1 (pt_cmpR op_ge (pv 4) (pe_op op_pow pe_int pe_int) (nomark _)))))
      (pss_cons (ps_asg (pe_op op_fdivN (pv 4) (pv 1)) (pg_sub (pv 0) pe_int set_list))
      (pss_one (ps_ret (pe_op op_modN (pv 4) (pv 1)))))
      pss_nil)
      (pss_cut (ps_set (i := 5) scDraw.nd rfl (.inl rfl) (pe_op op_modN (pe_op op_pow (pe_op op_add (pe_op op_add (pe_op op_modN (pv 4) pe_int) (pe_op op_mul pe_int (pv 3))) pe_int) pe_int) pe_int))
      (pss_cut (ps_set (i := 5) scDraw.nd rfl (.inl rfl) (pe_op op_modN (pe_op op_mul (pe_op op_add (pe_op op_fdivN (pv 5) pe_int) pe_int) (pe_op op_add (pe_op op_modN (pe_op op_mul pe_int (pv 3)) pe_int) pe_int)) pe_int))
      (pss_one (ps_ret (pe_op op_modN (pe_op op_fdivN (pv 5) pe_int) (pv 1)))))))))))
      , ?_⟩
    -- if feed[2] > 0
    refine ⟨_, rfl, a, _, 2, _, rfl, rfl, SqL.of h1, atI_nat (j := 2) rfl, _, _, rfl, rfl, _, rfl, ite2 (fun _ => ?_) (fun _ => ?_)⟩
    · obtain ⟨e1, e2⟩ := fmod_in (a := r) hb0
      refine ⟨_, rfl, a, _, 2, _, rfl, rfl, SqL.of h1, atI_nat (j := 2) rfl, _, rfl, _, _, rfl, rfl, by omega, ?_⟩
      refine ⟨_, rfl, a, _, 2, _, rfl, rfl, SqL.of h1, atI_nat (j := 2) rfl, _, rfl, _, _, rfl, rfl, ⟨by omega, by omega⟩, ?_⟩
      refine ⟨_, rfl, a, _, 2, 2, rfl, rfl, h1, rfl, ?_⟩
      refine ⟨_, rfl, q _ _ e1 e2 ⟨t, _, ns, upd_same, ?_, h3, h4, by omega, h6⟩ Keep.refl.updT⟩
      rw [upd_ne h3]; exact h2
    · refine ⟨_, rfl, a, _, 1, _, rfl, rfl, SqL.of h1, atI_nat (j := 1) rfl, ?_⟩
      refine ⟨fun σ H2 => σ = [some (.ref a), some (.int b), none, some (.int t), none, none] ∧ H2 a = some (.lst [.ref c, .int (t + 1), .int r]) ∧ H2 c = some (.lst (ns.map V.int)) ∧ Keep a H H2, ?_, ?_⟩
      · refine ⟨_, rfl, _, _, rfl, rfl, _, rfl, a, _, 1, 1, rfl, rfl, h1, rfl, rfl, upd_same, ?_, Keep.refl.updT⟩
        rw [upd_ne h3]; exact h2
      rintro σ H1 ⟨rfl, g1, g2, k0⟩
      refine ⟨fun σ H2 => ∃ cell : Int, σ = [some (.ref a), some (.int b), none, some (.int t), some (.int cell), none] ∧ H2 a = some (.lst [.ref c, .int (t + 1), .int r]) ∧ H2 c = some (.lst (ns.map V.int)) ∧ Keep a H H2, ?_, ?_⟩
      · refine ⟨_, rfl, a, _, 0, _, rfl, rfl, SqL.of g1, atI_nat (j := 0) rfl, Nat.zero_le _, fun l hl => ?_⟩
        have u1 := upd_at (o := .lst []) hl g1
        have u2 := upd_at (o := .lst []) hl g2
        refine ⟨_, .list [], .lst (SqL.of u2) (dp_ints _), .lst (SqL.of upd_same) .nil, ke_shaped_ints ns, ke_shaped_ints [], _, rfl, ?_⟩
        cases hns : ns with
        | nil =>
          refine iteF ⟨_, rfl, _, _, rfl, rfl, .inl ⟨by decide, by decide⟩, _, _, rfl, rfl, _, rfl, u1, by rw [← hns]; exact u2, k0.new hl⟩
        | cons z zs =>
          refine iteT ?_
          rw [← hns]
          have hpos : 0 < (ns.length : Int) := by rw [hns]; simp
          refine ⟨_, rfl, a, _, 0, _, rfl, rfl, SqL.of u1, atI_nat (j := 0) rfl, _, rfl, _, rfl, a, _, 0, _, rfl, rfl, SqL.of u1, atI_nat (j := 0) rfl, c, _, rfl, .inl (SqL.of u2), _, _, rfl, rfl, ?_, ?_⟩
          · rw [List.length_map]; omega
          · obtain ⟨e1, e2⟩ := fmod_in (a := t) hpos
            obtain ⟨j, hj⟩ := Int.eq_ofNat_of_zero_le e1
            have hj2 : j < ns.length := by omega
            refine ⟨c, _, (j : Int), .int ns[j], rfl, ?_, SqL.of u2, atI_nat ?_, _, rfl, u1, u2, k0.new hl⟩
            · exact congrArg V.int (by rw [List.length_map]; exact hj)
            · rw [List.getElem?_map, List.getElem?_eq_getElem hj2]; rfl
      · rintro σ H2 ⟨cell, rfl, u1, u2, k2⟩
        have tp : ∀ (r' : Int) (H3 : Hp), H3 a = some (.lst [.ref c, .int (t + 1), .int r']) → H3 c = some (.lst (ns.map V.int)) → Tape H3 a c (n + 1) := fun r' H3 x1 x2 => ⟨t + 1, r', ns, x1, x2, h3, by omega, by omega, h6⟩
        refine ⟨fun σ H3 => σ = [some (.ref a), some (.int b), none, some (.int t), some (.int cell), none] ∧ H3 = H2, ?_, ?_⟩
        · refine ⟨_, rfl, _, rfl, a, _, 0, _, rfl, rfl, SqL.of u1, atI_nat (j := 0) rfl, c, _, rfl, .inl (SqL.of u2), _, _, rfl, rfl, _, rfl, ite2 (fun _ => ?_) (fun _ => iteF ⟨rfl, rfl⟩)⟩
          refine ⟨_, rfl, _, _, rfl, rfl, ⟨by decide, by decide, by decide⟩, _, _, rfl, rfl, _, rfl, ite2 (fun _ => ?_) (fun _ => ⟨rfl, rfl⟩)⟩
          refine ⟨_, rfl, _, rfl, _, _, rfl, rfl, ⟨by omega, by omega⟩, _, rfl, a, _, 2, 2, rfl, rfl, u1, rfl, ?_⟩
          refine ⟨_, rfl, _, rfl, _, _, rfl, rfl, by omega, ?_⟩
          exact q _ _ (fmod_in hb0).1 (fmod_in hb0).2 (tp _ _ upd_same (by rw [upd_ne h3]; exact u2)) k2.updT
        · rintro σ H3 ⟨rfl, rfl⟩
          obtain ⟨c0, c1⟩ := fmod_in (a := cell) (b := 2147483629) (by decide)
          refine ⟨fun σ H4 => ∃ m1 : Int, σ = [some (.ref a), some (.int b), none, some (.int t), some (.int cell), some (.int m1)] ∧ H4 = H3, ?_, ?_⟩
          · refine ⟨_, rfl, _, _, rfl, rfl, (by show (2147483629 : Int) ≠ 0; decide), _, rfl, _, _, rfl, rfl, .inl ⟨by decide, by decide⟩, _, _, rfl, rfl, _, _, rfl, rfl, _, _, rfl, rfl, ⟨by decide, by decide, by omega⟩, _, _, rfl, rfl, (by show (2147483647 : Int) ≠ 0; decide), _, rfl, rfl⟩
          rintro σ H4 ⟨m1, rfl, rfl⟩
          refine ⟨fun σ H5 => ∃ m2 : Int, σ = [some (.ref a), some (.int b), none, some (.int t), some (.int cell), some (.int m2)] ∧ H5 = H4, ?_, ?_⟩
          · obtain ⟨f0, f1⟩ := fmod_in (a := 48271 * t) (b := 65521) (by decide)
            refine ⟨_, rfl, _, _, rfl, rfl, ⟨by decide, by decide⟩, _, _, rfl, rfl, _, rfl, _, _, rfl, rfl, .inl ⟨by decide, by decide⟩, _, _, rfl, rfl, (by show (65521 : Int) ≠ 0; decide), _, _, rfl, rfl, _, _, rfl, rfl, .inr ⟨by omega, by omega⟩, _, _, rfl, rfl, (by show (2147483587 : Int) ≠ 0; decide), _, rfl, rfl⟩
          rintro σ H5 ⟨m2, rfl, rfl⟩
          refine ⟨_, rfl, _, _, rfl, rfl, ⟨by decide, by decide⟩, _, rfl, _, _, rfl, rfl, by omega, ?_⟩
          exact q _ _ (fmod_in hb0).1 (fmod_in hb0).2 (tp _ _ u1 u2) k2
/-- an item of a list by a draw -/
theorem ok_of {f fD : Addr} {fd fdD : FuncData} {k : Nat} (F : Fun K "_law_of" "_law_of" sOf f fd) (T : Txt0 mg) (F_law_draw : Fun K "_law_draw" "_law_draw" sDraw fD fdD) (g_law_draw : mg "_law_draw" = some (.ref fD)) (b_law_draw : Binds K fdD ["_law_feed_here", "_law_many"] []) :
    FnOk P w K mg base CX0 (k + 2) f fd ["_law_feed_here", "_law_some"] spPick := by
  have G_law_draw : FnOk P w K mg base CX0 (k + 1) fD fdD ["_law_feed_here", "_law_many"] spDraw := ok_draw F_law_draw T
  refine F.ok scOf (fun vs H Q E h => ?_) (fun cdv A outer s H vs Q E hr h => ?_)
  · obtain ⟨T, c, p, xs, n, rfl, _⟩ := h
    rfl
  · obtain ⟨a, c, p, xs, n, rfl, hS, hpa, hx0, hx1, hn, hT, q⟩ := h
    have hr_law_draw := hr
    refine ⟨_,
      (pss_one (ps_ret (pe_ix ix_list (pv 1) (pe_call G_law_draw hr_law_draw (by rfl) g_law_draw F_law_draw.kp b_law_draw .nil pass0 (pa_cons (pv 0) (pa_cons (pe_callB call_len_seq (by rfl) T.mlen PySem.boot_len (pa_cons (pv 1) pa_nil)) pa_nil))) (fun _ _ => rfl))))
      , ?_⟩
    refine ⟨_, rfl, _, rfl, _, rfl, p, xs, rfl, .inl (SqL.of hS), a, c, xs.length, n, rfl, by omega, by omega, hn, hT, fun d H' d0 d1 T' k' => ?_⟩
    obtain ⟨j, rfl⟩ := Int.eq_ofNat_of_zero_le d0
    have hj : j < xs.length := by omega
    exact ⟨p, xs, (j : Int), xs[j], rfl, rfl, SqL.of (k' p _ hpa hS), atI_nat (List.getElem?_eq_getElem hj), q j _ _ (List.getElem?_eq_getElem hj) T' k'⟩
/-- the tape's making: the cells in a list of their own -/
theorem ok_feed {f : Addr} {fd : FuncData} {k : Nat} (F : Fun K "_law_feed" "_law_feed" sFeed f fd) (T : TxtF mg) : FnOk P w K mg base CX0 (k + 1) f fd ["_law_script"] (spTape K) := by
  refine F.ok scFeed (fun vs H Q E h => ?_) (fun cdv A outer s H vs Q E hr h => ?_)
  · obtain ⟨a, ns, rfl, _⟩ := h
    rfl
  · obtain ⟨a, ns, rfl, hS, hlen, q⟩ := h
    refine ⟨_,
      (pss_one (ps_ret (pe_lst (pa_cons (pe_callTy call_list_of (by rfl) T.mlist (by decide +kernel) (pa_cons (pe_slice sl_list (pv 0) po_none (po_some pe_int)) pa_nil)) (pa_cons pe_int (pa_cons pe_int pa_nil))))))
      , ?_⟩
    refine ⟨_, rfl, _, rfl, a, _, rfl, hS, fun p0 hp0 => ?_⟩
    refine ⟨p0, _, rfl, .inl (SqL.of upd_same), fun p hp => ?_⟩
    refine ⟨by show 3 ≤ sizeLine; decide, fun l hl => ?_⟩
    have nlp : p ≠ l := fun e => by rw [e, upd_same] at hl; cases hl
    have hp1 : H p = none := by
      by_cases e : p = p0
      · rw [e, upd_same] at hp; cases hp
      · rw [upd_ne e] at hp; exact hp
    have hl0 : H l = none := by
      rw [upd_ne nlp.symm] at hl
      by_cases e : l = p0
      · rw [e, upd_same] at hl; cases hl
      · rw [upd_ne e] at hl; exact hl
    refine q l p _ hl0 hp1 (fun b o e => upd_at hl (upd_at hp (upd_at hp0 e))) ⟨0, 0, ns, upd_same, ?_, nlp, by omega, by omega, hlen⟩
    rw [upd_ne nlp, upd_same, cut63 hlen]
end
/-! ### heaps that grow -/
theorem Tape.same {H H' : Hp} {T c : Addr} {n : Nat} (h : Tape H T c n) (s : Same H H') : Tape H' T c n := by
  obtain ⟨t, r, ns, h1, h2, h3, h4, h5, h6⟩ := h.ex
  exact ⟨t, r, ns, s _ _ h1, s _ _ h2, h3, h4, h5, h6⟩
theorem Keep.same {T : Addr} {H H1 H2 : Hp} (a : Keep T H H1) (b : Same H1 H2) : Keep T H H2 := fun x o n e => b x o (a x o n e)
theorem same_upd {H : Hp} {p : Addr} {o : HO} (h : H p = none) : Same H (upd H p o) := fun b x e => by
  rw [upd_ne (ne_of_none e h)]; exact e
theorem same_refl {H : Hp} : Same H H := fun _ _ e => e
theorem small_line {n : Nat} (h : n ≤ 100) : n ≤ sizeLine := Nat.le_trans h (by decide)
/-! ### a call with keywords alone -/
section
variable {X : Cx} {CX : CXT} {k : Nat} {f : Addr} {fd : FuncData} {ps ks : List Str} {sp : Sp} {E : XK} {x : Str} {p pos : Pos} {kws : List Keyword} {tk : TA} {g : List Value → List Value → List Value} {gV : List V → List V → List V}
theorem pe_callK0 (F : FnOk X.prog X.w X.K X.mg X.base CX k f fd ps sp) (hr : Room k X.A) (hg : Gl X x) (hm : X.mg x = some (.ref f)) (hk : PySem.W.keepIn X.K (.ref f) = true) (hb : KBinds X.K fd ps ks g gV) (hx : Passes CX X E)
    (hkw : PK X kws tk) (hall : (backToKw pos (keywordEach kws X.env)).all (·.1.isSome) = true := by rfl) (hks : (backToKw pos (keywordEach kws X.env)).filterMap (·.1) = ks := by rfl)
    (hdb : (x == ("__debug__" : Str)) = false := by decide)
    (hpl : ((backTo pos (starEach [] X.env)).any (·.1) || (backToKw pos (keywordEach kws X.env)).any (·.1.isNone)) = false := by rfl) :
    PE X (.Call (.Name x p) [] kws pos) (tCallK sp gV E tNil tk) := by
  refine ⟨fun pins s σ H Q I h => ?_⟩
  refine wpAny_Call_Name_kw (ld_glob I hg hm ?_ hdb)
  refine PySem.W.callWith_KW0 (h₀ := X.base) I.ok.mod.kin hk hall ?_ hpl
  refine thn (hkw.run pos pins s σ H _ I h) fun ws s2 ⟨zs, H2, I2, rz, q2⟩ => ⟨I2.kIn, ?_⟩
  rw [hks]
  exact run_fnk F hr hb hx I2 .nil rz q2
/-- keywords in the parameters' own order -/
theorem fun_kbinds {K : Frag} {x qual : Str} {st : Stmt} {f : Addr} {fd : FuncData} {ps ks : List Str} (F : Fun K x qual st f fd)
    (h : ∀ (kV doc pm : Value) (an : Option Addr) (cdv ct : Value) (us ws : List Value), (us ++ ws).length = ps.length → bindArgs (PySem.W.fnOf x qual (defArgs st) (defBody st) (defScope st) .none kV doc pm an cdv ct) ⟨us, ks.zip ws⟩ = pure (ps.zip (us ++ ws))) :
    KBinds K fd ps ks (· ++ ·) (· ++ ·) := by
  obtain ⟨oc, od, kV, doc, pm, an, cdv, ct, osl, rfl, lk, hcd⟩ := F.ex
  exact ⟨fun s us ws _ hl => .of_eq (h kV doc pm an cdv ct us ws hl), fun a b => a.append b⟩
theorem vals_rev : ∀ {zs : List V} {ws : List Value}, Vals zs ws → Vals zs.reverse ws.reverse
  | _, _, .nil => .nil
  | _, _, .cons r t => by
    rw [List.reverse_cons, List.reverse_cons]
    exact (vals_rev t).append (.cons r .nil)
/-- all by keywords -/
def kwAll {α : Type} (n : Nat) (us ws : List α) : List α := if us.length = 0 ∧ ws.length = n then ws else []
theorem kwAll_vals {n : Nat} {vs zs : List V} {us ws : List Value} (a : Vals vs us) (b : Vals zs ws) : Vals (kwAll n vs zs) (kwAll n us ws) := by
  unfold kwAll
  rw [a.length, b.length]
  split
  · exact b
  · exact .nil
theorem fun_kbindsA {K : Frag} {x qual : Str} {st : Stmt} {f : Addr} {fd : FuncData} {ps ks : List Str} (F : Fun K x qual st f fd) (hn : ps ≠ [])
    (h : ∀ (kV doc pm : Value) (an : Option Addr) (cdv ct : Value) (ws : List Value), ws.length = ps.length → bindArgs (PySem.W.fnOf x qual (defArgs st) (defBody st) (defScope st) .none kV doc pm an cdv ct) ⟨[], ks.zip ws⟩ = pure (ps.zip ws)) :
    KBinds K fd ps ks (kwAll ps.length) (kwAll ps.length) := by
  obtain ⟨oc, od, kV, doc, pm, an, cdv, ct, osl, rfl, lk, hcd⟩ := F.ex
  refine ⟨fun s us ws _ hl => ?_, kwAll_vals⟩
  unfold kwAll at hl ⊢
  split at hl
  · rename_i c
    rw [if_pos c, List.eq_nil_of_length_eq_zero c.1]
    exact .of_eq (h kV doc pm an cdv ct ws c.2)
  · exact absurd (List.eq_nil_of_length_eq_zero hl.symm) hn
/-- all by keywords, in the parameters' order turned about -/
theorem fun_kbindsR {K : Frag} {x qual : Str} {st : Stmt} {f : Addr} {fd : FuncData} {ps ks : List Str} (F : Fun K x qual st f fd) (hn : ps ≠ [])
    (h : ∀ (kV doc pm : Value) (an : Option Addr) (cdv ct : Value) (ws : List Value), ws.length = ps.length → bindArgs (PySem.W.fnOf x qual (defArgs st) (defBody st) (defScope st) .none kV doc pm an cdv ct) ⟨[], ks.zip ws⟩ = pure (ps.zip ws.reverse)) :
    KBinds K fd ps ks (fun us ws => (kwAll ps.length us ws).reverse) (fun us ws => (kwAll ps.length us ws).reverse) := by
  obtain ⟨oc, od, kV, doc, pm, an, cdv, ct, osl, rfl, lk, hcd⟩ := F.ex
  refine ⟨fun s us ws _ hl => ?_, fun a b => vals_rev (kwAll_vals a b)⟩
  rw [List.length_reverse] at hl
  unfold kwAll at hl ⊢
  split at hl
  · rename_i c
    rw [if_pos c, List.eq_nil_of_length_eq_zero c.1]
    exact .of_eq (h kV doc pm an cdv ct ws c.2)
  · exact absurd (List.eq_nil_of_length_eq_zero hl.symm) hn
end
/-! ### defs that are called where no repr is under way (so that repr of lists and tuples is known) -/
structure FnOkG (P : Program) (w : World) (K : PySem.W.Frag) (mg : Str → Option Value) (base : Heap) (CX : CXT) (k : Nat) (f : Addr) (fd : FuncData) (ps : List Str) (sp : Sp) : Prop where
  many : ∀ vs H Q E, sp vs H Q E → vs.length = ps.length
  goes : ∀ (A : Around) (outer : List Env) (s : Shared) (H : Hp) (args : Args) (us : List Value) (vs : List V) (Q : VK) (E : XK), A.guards = some [] → Room k A → Env0 P w K mg base A outer s H → BindsTo s fd args (ps.zip us) → Vals vs us → sp vs H Q E →
    codeAny (model P w) A (.call (.ref f) args) (CR CX outer P w H s Q E) s
theorem FnOk.g {P : Program} {w : World} {K : PySem.W.Frag} {mg : Str → Option Value} {base : Heap} {CX : CXT} {k : Nat} {f : Addr} {fd : FuncData} {ps : List Str} {sp : Sp} (F : FnOk P w K mg base CX k f fd ps sp) : FnOkG P w K mg base CX k f fd ps sp :=
  ⟨F.len, fun A o s H a us vs Q E _ => F.run A o s H a us vs Q E⟩
section
variable {P : Program} {w : World} {K : PySem.W.Frag} {mg : Str → Option Value} {base : Heap}
theorem okG {x qual : Str} {st : Stmt} {f : Addr} {fd : FuncData} {N ps : List Str} {k : Nat} {sp : Sp} (F : Fun K x qual st f fd) (S : FnScope N ps (defScope st)) (hn : ∀ vs H Q E, sp vs H Q E → vs.length = ps.length)
    (hb : ∀ (cdv : Value) (A : Around) (outer : List Env) (s : Shared) (H : Hp) (vs : List V) (Q : VK) (E : XK), A.guards = some [] → Room k (A.deeper (envOfC qual (defScope st) s.heap.objs.size f cdv)) → sp vs H Q E →
      ∃ t, PSs (cxOf CX0 P w K mg base N qual (defScope st) f cdv A outer s H E).nox (defBody st) t ∧ t { nx := fun _ H' => Q .non H', rt := Q } (start N vs) H) : FnOkG P w K mg base CX0 (k + 1) f fd ps sp := by
  obtain ⟨oc, od, kV, doc, pm, an, cdv, ct, osl, rfl, lk, hcd⟩ := F.ex
  constructor
  · exact hn
  intro A outer s H args us vs Q E gd hr env bnd rel want
  have olds : ∀ z y, base.get? z = some y → s.heap.get? z = some y := fun z y e => (env.bs z y e).1
  have inK : K.In s.heap := env.mod.kin.keeps olds
  have vis : ∀ q ∈ ps.zip us, (defScope st).names.lookup q.1 = some .local ∨ ((defScope st).names.lookup q.1 = some .cell ∧ ((cellsFrom (s.heap.objs.size + 1) (defScope st).names []).lookup q.1).isSome = true) := by
    intro q hq
    obtain ⟨n, v⟩ := q
    exact (S.par n (List.of_mem_zip hq).1).elim Or.inl fun c => Or.inr ⟨c, PySem.W.cellsFrom_some _ _ _ (Or.inl c)⟩
  apply codeAny_call_function hr.depth (inK _ _ lk) rfl S.co S.gen rfl (PySem.W.codeRec_of inK hcd)
  apply bnd
  refine wpAny_newFunctionEnv_cells S.kind vis fun env' he s1 x => ?_
  cases he
  refine ⟨(env.mod.nolimit.keeps olds).keeps x.toInCall.keep, codeAny_func ?_⟩
  obtain ⟨t, ht, hq⟩ := hb cdv A outer s H vs Q E gd (hr.deeper _) want
  have ht := ht.nox
  have J0 : L2.Inv (cxOf CX0 P w K mg base N qual (defScope st) f cdv A outer s H E) [] (start N vs) H s1 := inv_start S hr.hd env (hn _ _ _ _ want) rel x
  refine wpAny_mono (ht.run [] s1 (start N vs) H _ J0 hq) (fun fl s' z => ?_) fun _ _ z => z
  match fl, z with
  | .ret u, ⟨v, σ', H', J, rv, q⟩ => exact ⟨v, H', J.os, J.bare, J.base, J.hok, rv, q⟩
  | .next, ⟨σ', H', J, q⟩ => exact ⟨V.non, H', J.os, J.bare, J.base, J.hok, rfl, q⟩
  | .brk, ⟨_, _, _, q⟩ => exact q.elim
  | .cont, ⟨_, _, _, q⟩ => exact q.elim
end
section
variable {X : Cx} {CX : CXT} {k : Nat} {f : Addr} {fd : FuncData} {ps : List Str} {sp : Sp} {dvs : List V} {ds : List Value} {E : XK} {x : Str} {p pos : Pos} {e : Expr} {es : List Expr} {t : TA}
/-- f(e, ..), f such a def -/
theorem pe_callG (F : FnOkG X.prog X.w X.K X.mg X.base CX k f fd ps sp) (gd : X.A.guards = some []) (hr : Room k X.A) (hg : Gl X x) (hm : X.mg x = some (.ref f)) (hk : PySem.W.keepIn X.K (.ref f) = true) (hb : L2.Binds X.K fd ps ds) (hd : Vals dvs ds) (hx : Passes CX X E)
    (ha : PA X (e :: es) t) (n1 : (x == ("__debug__" : Str)) = false := by decide) (n2 : starEach (e :: es) X.env = (false, eval e X.env) :: starEach es X.env := by rfl) (n3 : (backTo pos (starEach es X.env)).any (·.1) = false := by rfl) :
    PE X (.Call (.Name x p) (e :: es) [] pos) (tCall sp dvs E t) := by
  constructor
  intro pins s σ H Q I h
  apply wpAny_Call_Name_kw (ld_glob I hg hm ?_ n1)
  refine PySem.W.callWith_K (h₀ := X.base) I.ok.mod.kin hk (thn (ha.run pos pins s σ H _ I h) ?_) n2 n3
  rintro us s1 ⟨vs, H1, I1, r, q⟩
  refine ⟨I1.kIn, ?_⟩
  have rr : Vals (vs ++ dvs) (us ++ ds) := r.append hd
  have ll : (us ++ ds).length = ps.length := rr.length.symm.trans (F.many _ _ _ _ q)
  refine wpAny_call (codeAny_mono (F.goes X.A X.stack s1 H1 ⟨us, []⟩ (us ++ ds) (vs ++ dvs) Q E gd hr I1.env0 (hb s1 us I1.kIn ll) rr q) fun z s' hz => ?_)
  match z, hz with
  | .error er, hz => exact hx pins σ H1 s1 er s' I1 hz
  | .ok (.ret u), hz => exact I1.after hz
  | .ok .next, hz => exact (show False from hz).elim
  | .ok .brk, hz => exact (show False from hz).elim
  | .ok .cont, hz => exact (show False from hz).elim
/-- repr(x) of data -/
def rReprD (K : PySem.W.Frag) : List V → Hp → VK → Prop := fun xs H Q => ∃ x d, xs = [x] ∧ Dp K H x d ∧ SeqAt.shaped d = true ∧ d.showable = true ∧ d.shown.length ≤ sizeLine ∧ Q (.str d.shown) H
theorem call_reprD (gd : X.A.guards = some []) (hr : Room k X.A) : CallR X (.builtin "repr") (rReprD X.K) := by
  intro pins s σ H xs us Q I r h
  obtain ⟨y, d, rfl, hd, sh, sw, sz, q⟩ := h
  obtain ⟨u, rfl, ru⟩ := Vals.one r
  have dd := SeqAt.depth_of_shaped sh
  have un := hr.un
  have nd : d.hasDict = true → sysModules ∉ ([] : List Addr) := fun z => by rw [PyData.hasDict_of_canLay d (SeqAt.canLay_of_shaped sh)] at z; cases z
  cases hd with
  | non =>
    cases (show u = Value.none from ru)
    exact P.repr_of_none ⟨V.str "None", H, I.tok _, ⟨_, rfl⟩, by rw [PyData.shown] at q; exact q⟩
  | bl b =>
    cases (show u = Value.bool b from ru)
    exact P.repr_of_bool ⟨V.str (if b then "True" else "False"), H, I.tok _, ⟨_, rfl⟩, by rw [PyData.shown] at q; exact q⟩
  | int i =>
    obtain ⟨t, rfl⟩ := (show ∃ t, u = Value.int i t from ru)
    refine P.repr_of_int (of_decide_eq_true (by rw [PyData.showable] at sw; exact sw)) ⟨V.str (toString i), H, I.tok _, ⟨_, rfl⟩, by rw [PyData.shown] at q; exact q⟩
  | str z =>
    obtain ⟨t, rfl⟩ := (show ∃ t, u = Value.str z t from ru)
    exact P.repr_of_str ⟨V.str (reprText z), H, I.tok _, ⟨_, rfl⟩, by rw [PyData.shown] at q; exact q⟩ (by rw [PyData.shown] at sz; exact sz)
  | lst a b =>
    obtain ⟨as, rd⟩ := Dp.reads I _ _ u (.lst a b) ru
    cases ru
    exact repr_of_reads' rd sw (fun z => by rw [PyData.hasDict_of_canLay _ (SeqAt.canLay_of_shaped sh)] at z; cases z) gd (by omega) (fun _ _ z => z) (fun h' t' tk hk => ⟨V.str (PyData.shown _), H, I.kept hk, ⟨_, rfl⟩, q⟩) sz
  | tup a b =>
    obtain ⟨as, rd⟩ := Dp.reads I _ _ u (.tup a b) ru
    cases ru
    exact repr_of_reads' rd sw (fun z => by rw [PyData.hasDict_of_canLay _ (SeqAt.canLay_of_shaped sh)] at z; cases z) gd (by omega) (fun _ _ z => z) (fun h' t' tk hk => ⟨V.str (PyData.shown _), H, I.kept hk, ⟨_, rfl⟩, q⟩) sz
end
/-! ### the law's end, for such a law -/
section
variable {P : Program} {w : World} {K : PySem.W.Frag} {mg mb : Str → Option Value} {k : Nat} {fa a : Addr} {fd : FuncData} {x : Str} {sp : Sp} {s₁ : Shared} {vs : List Value} {ns : List Int}
/-- from a heap in which nothing but the script may stand -/
theorem lawG0 (KX : K.In s₁.heap) (g1 : s₁.heap.Ns mainGlobals mg) (g2 : s₁.heap.Ns builtinsNs mb) (g3 : ∀ x : Str, x ≠ "__name__" → mb x = bootBuiltins x) (g4 : s₁.heap.NoLimit) (g5 : s₁.gens = #[])
    (ha : s₁.heap.get? a = some { cls := .type "list", data := .seq vs.toArray }) (hr : Room k callerA)
    (F : ∀ base : Heap, K.In base → base.Ns mainGlobals mg → FnOkG P w K mg base CX0 k fa fd [x] sp) (bd : ∀ (s : Shared) (u : Value), BindsTo s fd ⟨[u], []⟩ [(x, u)])
    (H : Hp) (hO : Only H) (want : sp [.ref a] H (fun v _ => v = .bl true) fun _ _ _ => False) (ok : HOk P w H s₁.heap) (hA : ∀ b, H b ≠ none → b = a) (hK : H a ≠ none → K.lookup a = none) :
    codeAny (model P w) callerA (.call (.ref fa) ⟨[.ref a], []⟩) (fun r s' => r = .ok (.ret (.bool true)) ∧ OldK s₁.heap s'.heap ∧ s'.os = s₁.os ∧ AllBare s'.gens) s₁ := by
  have noA : ∀ {b : Addr} {o : Obj} {es : Array DictEntry} {ep : Nat}, s₁.heap.get? b = some o → o.data = .dict es ep → H b = none := by
    intro b o es ep e d
    apply Classical.byContradiction
    intro z
    have e2 := e
    rw [hA b z, ha] at e2
    cases e2
    exact nomatch (show Data.seq vs.toArray _ = Data.dict es ep from d)
  have nsK : ∀ {b : Addr} {m : Str → Option Value}, s₁.heap.Ns b m → (hidT s₁.heap H).Ns b m := by
    rintro b m ⟨o, es, ep, e, d, r⟩
    exact ⟨o, es, ep, hidT_get e (noA e d), d, r⟩
  have kb : K.In (hidT s₁.heap H) := by
    intro b o e
    refine hidT_get (KX b o e) (Classical.byContradiction fun z => ?_)
    have eb := hA b z
    subst eb
    rw [hK z] at e
    cases e
  have M : Mod K mg (hidT s₁.heap H) := by
    obtain ⟨mc, h1, h2⟩ := g4
    exact ⟨kb, nsK g1, ⟨mb, nsK g2, g3⟩, ⟨mc, nsK h1, h2⟩⟩
  have e0 : Env0 P w K mg (hidT s₁.heap H) callerA [] s₁ H :=
    { frames := rfl, mod := M, bs := fun b o e => of_hidT e, bsz := Nat.le_of_eq (hidT_size _ _), funs := trivial, frf := fun b z => absurd (show b ∈ ([] : List Addr) from z) (by simp), hok := ok, bare := .of_eq g5 }
  have run := (F _ kb (nsK g1)).goes callerA [] s₁ H ⟨[.ref a], []⟩ [.ref a] [.ref a] _ _ rfl hr e0 (bd s₁ (.ref a)) (.cons rfl .nil) want
  refine codeAny_mono run fun r s' h => ?_
  match r, h with
  | .error e, h => exact (show False from h).elim
  | .ok .next, h => exact (show False from h).elim
  | .ok .brk, h => exact (show False from h).elim
  | .ok .cont, h => exact (show False from h).elim
  | .ok (.ret u), ⟨v, H', os, bare, un, ok', rv, (qv : v = .bl true)⟩ =>
    cases qv
    cases (show u = Value.bool true from rv)
    refine ⟨rfl, OldK.of_keep fun b o e => ?_, os, bare⟩
    cases q : H b with
    | none => exact un.keep b o e q (fun z => absurd (show b ∈ ([] : List Addr) from z) (by simp)) (by simp)
    | some y =>
      rcases hO b with z | ⟨ob, xs, z⟩
      · rw [z] at q; cases q
      · have f1 := (ok b _ z).1
        have f2 := (ok' b _ (un.frzs b ob _ z)).1
        rw [f1] at e
        cases e
        exact f2
theorem lawG (KX : K.In s₁.heap) (g1 : s₁.heap.Ns mainGlobals mg) (g2 : s₁.heap.Ns builtinsNs mb) (g3 : ∀ x : Str, x ≠ "__name__" → mb x = bootBuiltins x) (g4 : s₁.heap.NoLimit) (g5 : s₁.gens = #[])
    (ha : s₁.heap.get? a = some { cls := .type "list", data := .seq vs.toArray }) (hi : IntsAre vs ns) (hl : ns.length ≤ sizeLine) (hr : Room k callerA)
    (F : ∀ base : Heap, K.In base → base.Ns mainGlobals mg → FnOkG P w K mg base CX0 k fa fd [x] sp) (bd : ∀ (s : Shared) (u : Value), BindsTo s fd ⟨[u], []⟩ [(x, u)])
    (want : ∀ H : Hp, Only H → SqL K H a (ns.map V.int) → sp [.ref a] H (fun v _ => v = .bl true) fun _ _ _ => False) :
    codeAny (model P w) callerA (.call (.ref fa) ⟨[.ref a], []⟩) (fun r s' => r = .ok (.ret (.bool true)) ∧ OldK s₁.heap s'.heap ∧ s'.os = s₁.os ∧ AllBare s'.gens) s₁ := by
  have rv := vals_ints hi
  rcases hk : K.lookup a with _ | o
  · let H : Hp := fun b => if b = a then some (.frz { cls := .type "list", data := .seq vs.toArray } (.lst (ns.map V.int))) else none
    have Ha : H a = some (.frz { cls := .type "list", data := .seq vs.toArray } (.lst (ns.map V.int))) := if_pos rfl
    have Hn : ∀ b, b ≠ a → H b = none := fun b n => if_neg n
    have hO : Only H := fun b => (Classical.em (b = a)).elim (fun e => .inr ⟨_, _, e ▸ Ha⟩) fun n => .inl (Hn b n)
    have hA : ∀ b, H b ≠ none → b = a := fun b z => Classical.byContradiction fun n => z (Hn b n)
    refine lawG0 KX g1 g2 g3 g4 g5 ha hr F bd H hO (want H hO (.inl (.inr ⟨_, Ha⟩))) (fun b u z => ?_) hA fun _ => hk
    have e := hA b (by rw [z]; intro y; cases y)
    subst e
    rw [Ha] at z
    cases z
    exact ⟨ha, by rw [List.length_map]; exact hl, vs, _, rv, ha⟩
  · have e := KX a o hk
    rw [ha] at e
    cases e
    refine lawG0 KX g1 g2 g3 g4 g5 ha hr F bd (fun _ => none) (fun _ => .inl rfl) (want _ (fun _ => .inl rfl) (.inr ⟨_, vs.toArray, _, hk, rfl, rfl, rfl, by rw [List.size_toArray, hi.length]; exact hl, by simpa using rv⟩)) (fun b u z => nomatch (show (none : Option HO) = some u from z)) (fun b z => absurd rfl z) fun z => absurd rfl z
end
theorem walkG {l : PySem.W.OpenLaw} {n k : Nat} {q : Program} {loose : List Str} {XP : (Str → Option Value) → Heap → Prop} {YP : World → Heap → Prop} {d : DefRec} {K : Params → PySem.W.Frag} {sp : World → Sp} {x : Str}
    (hn : l.most = some n) (hn2 : n ≤ sizeLine) (hdf : d.params.defaults = []) (hr : Room k callerA) (hY : ∀ (w : World) (h : Heap), YP w h → (K w.params).In h)
    (F : ∀ (w : World) (mg : Str → Option Value) (fa : Addr) (h : Heap), (K w.params).In h → h.Ns mainGlobals mg → mg d.name = some (.ref fa) →
      ∃ fd : FuncData, (∀ (s : Shared) (u : Value), BindsTo s fd ⟨[u], []⟩ [(x, u)]) ∧ ∀ base : Heap, (K w.params).In base → base.Ns mainGlobals mg → FnOkG l.prog w (K w.params) mg base CX0 k fa fd [x] (sp w))
    (want : ∀ (w : World) (H : Hp) (a : Addr) (ns : List Int), ns.length ≤ n → Only H → SqL (K w.params) H a (ns.map V.int) → sp w [.ref a] H (fun v _ => v = .bl true) fun _ _ _ => False) :
    PySem.W.WalkO q loose XP YP l.row.toRowW d [] (fun f vs => PySem.call f vs) := by
  apply Att.attach_call hn hdf
  intro w s₀ s₁ mg mb fa o pm cd doc a vs ns G Y ho hd hcd hmg hobj hints hlen hg
  have KX := hY w _ Y
  obtain ⟨fd, bd, hF⟩ := F w mg fa _ KX G.T.g hmg
  exact lawG KX G.T.g G.T.b G.T.builtins G.T.nolimit hg hobj hints (Nat.le_trans hlen hn2) hr hF bd fun H hO hS => want w H a ns hlen hO hS
/-! ### an exception that is kept past its clause -/
/-- at a: an exception object of the class cls, its own dict at d -/
def keptX (cls : Value) (d : Option Addr) (a : Addr) : HO := .ext fun h => ∃ (oe : Obj) (vs : Array Value), h.get? a = some oe ∧ Zc cls d oe ∧ oe.data = .fields vs
theorem keptX_ok {P : Program} {w : World} {H : Hp} {h : Heap} {cls : Value} {d : Option Addr} {a : Addr} {oe : Obj} {vs : Array Value} (g : h.get? a = some oe) (z : Zc cls d oe) (f : oe.data = .fields vs) : ObjOk P w H h a (keptX cls d a) :=
  ⟨⟨oe, vs, g, z, f⟩, ⟨oe, g⟩, fun _ _ ⟨o, v, q, r⟩ k => ⟨o, v, k o q, r⟩⟩
theorem keptX_at {P : Program} {w : World} {H : Hp} {h : Heap} {cls : Value} {d : Option Addr} {a : Addr} (hok : HOk P w H h) (e : H a = some (keptX cls d a)) : ∃ (oe : Obj) (vs : Array Value), h.get? a = some oe ∧ Zc cls d oe ∧ oe.data = .fields vs := by
  have x : ObjOk P w H h a (.ext fun h => ∃ (oe : Obj) (vs : Array Value), h.get? a = some oe ∧ Zc cls d oe ∧ oe.data = .fields vs) := hok a _ e
  exact x.1
section
variable {X : Cx} {pins : List (Addr × Obj)} {σ : L2.St} {H : Hp} {s sI : Shared}
/-- the caught object is told to the ledger: it is none of the objects of the state sI ahead of it -/
theorem inv_keep (J : Inv X pins σ H sI) (ge : sI.heap.get? a = none) (I : Inv X pins σ H s) (hx : X.ex = []) {oe : Obj} {vs : Array Value} {cls : Value} {d : Option Addr} (ha : s.heap.get? a = some oe) (hz : Zc cls d oe) (hd : oe.data = .fields vs) (na : H a = none) :
    Inv X pins σ (upd H a (keptX cls d a)) s := by
  have ne : ∀ {b : Addr} {o : Obj}, sI.heap.get? b = some o → b ≠ a := by
    intro b o e z
    rw [z, ge] at e
    cases e
  have n0 : ∀ {b : Addr} {o : Obj}, X.s_0.heap.get? b = some o → b ≠ a := by
    intro b o e
    obtain ⟨o', e'⟩ := J.base.there b o e (by rw [hx]; exact fun z => nomatch z)
    exact ne e'
  have bs : Un X.fs X.ex X.H_0 (upd H a (keptX cls d a)) X.s_0.heap s.heap := {
    keep := I.base.keep
    slot := I.base.slot
    there := I.base.there
    free := by
      intro b o e n q
      rw [upd_ne (n0 e)]
      exact I.base.free b o e n q
    tups := by
      intro b xs e
      have z := I.base.tups b xs e
      rw [upd_ne (ne_of_none z na)]
      exact z
    frzs := by
      intro b o u e
      have z := I.base.frzs b o u e
      rw [upd_ne (ne_of_none z na)]
      exact z
    tbls := by
      intro b ps e
      obtain ⟨m, z⟩ := I.base.tbls b ps e
      exact ⟨m, by rw [upd_ne (ne_of_none z na)]; exact z⟩ }
  have fr : X.env.locals ≠ a := by
    obtain ⟨m, ⟨o, es, ep, ho, _⟩, _⟩ := J.loc
    exact ne ho
  refine ⟨I.ok, I.os, I.bare, bs, I.loc, I.cell, ?_, ?_, ?_, ?_, I.len⟩
  · rw [upd_ne fr]
    exact I.free
  · intro x c e
    obtain ⟨v, o, ho, _⟩ := J.cell x c e
    rw [upd_ne (ne ho)]
    exact I.freeC x c e
  · intro p hp
    obtain ⟨e, n, r⟩ := I.pin p hp
    refine ⟨e, ?_, r⟩
    rw [upd_ne (ne (J.pin p hp).1)]
    exact n
  · intro b o e
    by_cases hb : b = a
    · subst hb
      rw [upd_same] at e
      cases e
      exact keptX_ok ha hz hd
    · rw [upd_ne hb] at e
      refine (I.hok b o e).stay (fun c v _ q => q) (fun c q => ?_) (fun c xs q => ?_)
      · rw [upd_ne (ne_of_none q na)]
        exact q
      · rw [upd_ne (ne_of_none q na)]
        exact q
/-- into the clause's suite, no object pinned -/
theorem inv_into (I : Inv X pins σ H s) (a : Addr) : Inv (X.suite a (X.pn ++ pins)) [] σ H s where
  ok := I.ok.suite a _
  os := I.os
  bare := I.bare
  base := I.base
  loc := I.loc
  cell := I.cell
  free := I.free
  freeC := I.freeC
  pin := by
    intro p hp
    rw [List.append_nil] at hp
    exact I.pin p hp
  hok := I.hok
  len := I.len
/-- and out of it -/
theorem inv_outof {a : Addr} {pn : List (Addr × Obj)} (I : Inv (X.suite a (X.pn ++ pins)) pn σ H s) (ok : X.Ok) : Inv X pins σ H s where
  ok := ok
  os := I.os
  bare := I.bare
  base := I.base
  loc := I.loc
  cell := I.cell
  free := I.free
  freeC := I.freeC
  pin := fun p hp => I.pin p (List.mem_append_left _ hp)
  hok := I.hok
  len := I.len
end
/-- what the clause leaves: its own name is gone -/
def goneE (i : Nat) (D : Ends) : Ends where
  nx := fun σ H => D.nx (σ.set i none) H
  rt := D.rt
  bk := fun σ H => D.bk (σ.set i none) H
  ct := fun σ H => D.ct (σ.set i none) H
/-- what the clause wishes of the body's exceptions: each is caught, and stays -/
def wKeep (K : PySem.W.Frag) (c : Value) (i : Nat) (ts : Addr → Value → Option Addr → TS) (D : Ends) : WX := fun cls d σ H =>
  PySem.W.exmOne K cls c = some true ∧ ∀ a, H a = none → ts a cls d (goneE i D) (σ.set i (some (.ref a))) (upd H a (keptX cls d a))
section
variable {X : Cx} {x n : Str} {c : Value} {i : Nat} {body suite : List Stmt} {b₀ : Stmt} {np pos pos' : Pos} {tb : WX → TS} {ts : Addr → Value → Option Addr → TS}
theorem ps_try_keep (hs : X.stack = X.env :: X.outer) (hf : X.env.frame = some X.env.locals) (hex : X.ex = []) (hN : X.N.Nodup) (hi : X.N[i]? = some n) (hln : X.env.kindOf n = some .local) (hc : Names X x c)
    (hb : ∀ (W : WX) (pn : List (Addr × Obj)) (xe : Value → Shared → Prop), Takes (X.tr pn xe) W → PassesOwn (model X.prog X.w) X.A X.env xe → PSs (X.tr pn xe) body (tb W))
    (hsu : ∀ (a : Addr) (cls : Value) (d : Option Addr) (pn : List (Addr × Obj)), PSs (X.suite a pn) (b₀ :: suite) (ts a cls d)) :
    PS X (.Try body [.ExceptHandler (some (.Name x np)) (some n) (b₀ :: suite) pos'] [] [] pos) (fun D σ H => tb (wKeep X.K c i ts D) D σ H) := by
  constructor
  intro pins s σ H D I h
  have ok := I.ok
  have fr0 : X.A.frames = some (X.env :: X.outer) := by
    rw [ok.frames, hs]
  refine wpAny_Try_except ?_
  let xe' : Value → Shared → Prop := fun e s₁ => wpAny (model X.prog X.w) X.A (noteFrame e X.env) (fun _ s₂ => wpAny (model X.prog X.w) X.A (setFlight e none) (fun _ s₃ =>
    wpAny (model X.prog X.w) X.A (handleBy e X.env [.ExceptHandler (some (.Name x np)) (some n) (b₀ :: suite) pos']) (SP X pins D) X.xe s₃) X.xe s₂) X.xe s₁
  have catches : Takes (X.tr (X.pn ++ pins) xe') (wKeep X.K c i ts D) := by
    rintro u s' ⟨a, B, sI, pins', σ', H', cls, d, rfl, J', nb, up, sky, na, os, ag, hm, hyes⟩
    have J : Inv X pins σ' H' sI := J'.ofTry ok
    rw [show (X.tr (X.pn ++ pins) xe').stack = X.env :: X.outer from hs] at sky
    show wpAny (model X.prog X.w) X.A (noteFrame (.ref a) X.env) _ _ _
    refine Sky.land Zc.steady fr0 hf sky ?_
    intro h3 fl3 up3
    have J3 : Inv X pins σ' H' { s' with heap := h3 } := J.landed nb fl3.1 (up.trans up3) os ag
    refine wpAny_handleBy_cons (codeAny_handlers_test ?_) (fun q => nomatch q)
    -- the class is looked up and held against
    have look : PySem.W.Looks (model X.prog X.w) h3 (typeOf (.ref a)) cls := by
      obtain ⟨o3, v3, e3, z3, d3⟩ := fl3.there
      intro A Q E s k q
      refine wpAny_typeOf_ref (k _ _ e3) ?_
      rw [z3.1]
      exact q
    have hit := PySem.W.exm_one (M := model X.prog X.w) J3.kIn look hm
    have named : ∀ {Q : Value → Shared → Prop} {E : Value → Shared → Prop}, Q c { s' with heap := h3 } → wpAny (model X.prog X.w) (X.A.mark (some (.ref a))) (eval (.Name x np) X.env) Q E { s' with heap := h3 } := by
      intro Q E q
      have S3 := inv_into J3 a
      obtain ⟨hg, hdb, hv⟩ := hc
      rcases hv with hv | ⟨hv, hw, hn⟩
      · exact ld_glob (X := X.suite a (X.pn ++ pins)) S3 hg hv q hdb
      · exact ld_blt (X := X.suite a (X.pn ++ pins)) S3 hg hv hw q hn hdb
    refine named (hit.here (codeAny_handlers_suite_as (HandSPX.lands_againZ fl3 ?_)))
    intro h4 fl4 up4
    have J4 : Inv X pins σ' H' { s' with heap := h4 } := J.landed nb fl4.1 ((up.trans up3).trans up4) os ag
    obtain ⟨o4, v4, e4, z4, d4⟩ := fl4.there
    have ge : sI.heap.get? a = none := by
      cases q : sI.heap.get? a with
      | none => rfl
      | some o =>
        exfalso
        by_cases hm' : a ∈ frs (X.env :: X.outer)
        · obtain ⟨_, o', q', nf⟩ := fl4.2.2.1.mem hm'
          rw [e4] at q'
          cases q'
          exact nf _ d4
        · have z := nb a o q (by rw [show (X.tr (X.pn ++ pins) xe').stack = X.env :: X.outer from hs]; exact hm')
          rw [fl4.2.1] at z
          cases z
    have S4 := inv_into (inv_keep J ge J4 hex e4 z4 d4 na) a
    refine store_ok (X := X.suite a (X.pn ++ pins)) (v := .ref a) S4 hN hi (.inl hln) rfl ?_ (.inr hln)
    intro s5 S5
    refine wpAny_mono ((hsu a cls d (X.pn ++ pins)).run [] s5 _ _ (goneE i D) S5 (hyes a na)) ?_ (fun _ _ z => False.elim z)
    intro f s6 sp
    have out : ∀ {σ6 : L2.St} {H6 : Hp} {Q : Shared → Prop}, Inv (X.suite a (X.pn ++ pins)) [] σ6 H6 s6 → (∀ s7, Inv X pins (σ6.set i none) H6 s7 → Q s7) →
        wpAny (model X.prog X.w) X.A (do bindName X.env n .none; unbindBehindTheSuite X.env n pos') (fun _ s7 => Q s7) X.xe s6 := by
      intro σ6 H6 Q S6 hq
      exact gone_ok (inv_outof S6 ok) hN hi hln hq
    match f, sp with
    | .next, ⟨_, _, S6, q⟩ => exact out S6 fun s7 J7 => ⟨_, _, J7, q⟩
    | .brk, ⟨_, _, S6, q⟩ => exact out S6 fun s7 J7 => ⟨_, _, J7, q⟩
    | .cont, ⟨_, _, S6, q⟩ => exact out S6 fun s7 J7 => ⟨_, _, J7, q⟩
    | .ret u, ⟨_, _, _, S6, r, q⟩ => exact out S6 fun s7 J7 => ⟨_, _, _, J7, r, q⟩
  refine wpAny_mono ((hb (wKeep X.K c i ts D) (X.pn ++ pins) xe' catches PassesOwn.looking).run [] s σ H D (I.toTry _) h) ?_ (fun _ _ z => z)
  intro f s1 sp
  match f, sp with
  | .next, ⟨σ', H', J, q⟩ => exact wpAny_execs_nil ⟨σ', H', J.ofTry ok, q⟩
  | .brk, ⟨σ', H', J, q⟩ => exact ⟨σ', H', J.ofTry ok, q⟩
  | .cont, ⟨σ', H', J, q⟩ => exact ⟨σ', H', J.ofTry ok, q⟩
  | .ret u, ⟨v, σ', H', J, r, q⟩ => exact ⟨v, σ', H', J.ofTry ok, r, q⟩
end
/-! ### own exceptions under a class that is made by another's __new__ (KeyError, by LookupError's) -/
section
open Builtin Builtin.ObjectAttr
variable {prog : Program} {w : World} {M : Model} {A : Around} {E : Value → Shared → Prop} {R : Result → Shared → Prop} {h : Heap} {g : Array GenState} {d : Drawn} {t : Nat} {os : OsState}
variable {nm q : Str} {C N : Addr} {bs bm bmB : List Value} {hdct : Bool} {sn : List Str} {sub : List Value} {ab : Bool} {col : Option Bool} {dd : Option Addr} {k0 k1 k2 k3 k5 : Option Value} {B newId initId : String}
/-- what is asked of the classes above -/
structure Above (B : String) (bm : List Value) : Prop where
  is : bm.contains (.type B) = true
  noA : bm.contains (.type "AttributeError") = false
  noN : bm.contains (.type "NameError") = false
theorem mk_check (F : ExcBaseFacts B newId initId bmB) (T : Above B bm) {rest : List Value} {Q : Unit → Shared → Prop}
    (hC : h.get? C = some (excClassObj nm q C N bs bm hdct sn sub ab col dd k0 k1 k2 k3 k5 newId)) (hq : Q () ⟨h, g, d, t, os⟩) : wpAny M A (checkBuiltinCall newId ⟨.ref C :: rest, []⟩) Q E ⟨h, g, d, t, os⟩ := by
  have c1 : (Value.ref C :: bm).contains (.type B) = true := by
    rw [List.contains_cons, T.is, Bool.or_true]
  have c2 := F.noStar
  simp only [F.newKind, F.newSplit, F.newRow, checkBuiltinCall]
  repeat (first
    | refine wpAny_loadPart_at hC ?_
    | (refine wpAny_isSubtype_exc hC ?_; rw [c1])
    | refine wpAny_staticBase_exc hC ?_
    | refine wpAny_madeBy_exc hC ?_
    | simp only [bne_self_eq_false, Bool.false_eq_true, if_false]
    | wp_step)
  exact hq
theorem mk_new (F : ExcBaseFacts B newId initId bmB) (T : Above B bm) {rest : List Value}
    (hC : h.get? C = some (excClassObj nm q C N bs bm hdct sn sub ab col dd k0 k1 k2 k3 k5 newId)) (hz : rest.length ≤ sizeLine)
    (hq : R (.ok (.ret (.ref (h.objs.size + 1)))) ⟨(h.push (PySem.W.kdv_tup rest)).push (PySem.HandSPX.excO C h.objs.size), g, d, t, os⟩) :
    codeAny (model prog w) A (.builtin newId ⟨.ref C :: rest, []⟩) R ⟨h, g, d, t, os⟩ := by
  have ends := F.ends
  have c1 : (Value.ref C :: bm).contains (.type B) = true := by
    rw [List.contains_cons, T.is, Bool.or_true]
  have c2 : (Value.ref C :: bm).contains (.type "AttributeError") = false := by
    rw [List.contains_cons, T.noA]
    rfl
  have c3 : (Value.ref C :: bm).contains (.type "NameError") = false := by
    rw [List.contains_cons, T.noN]
    rfl
  refine PySem.codeAny_builtinAt F.entry ?_
  unfold Builtin.«BaseException.__new__»
  refine PySem.wpAt_bind ?_
  show PySem.wpAt _ _ _ (stack >>= _) _ _ _
  refine PySem.wpAt_bind (PySem.wpAt_stack ?_)
  intro p below
  refine PySem.wpAt_of_wpAny ?_
  wp_walk
  refine PySem.wpAt_of_wpAny ?_
  rw [F.owner]
  repeat (first
    | with_reducible refine wpAny_madeHere_exc F.canon hC ?_
    | with_reducible refine wpAny_loadPart_at hC ?_
    | (with_reducible refine wpAny_isSubtype_exc hC ?_; first | rw [c1] | rw [c2] | rw [c3])
    | wp_step)
  show R _ _
  rw [Heap.size_push]
  exact hq
theorem mk_type (F : ExcBaseFacts B newId initId bmB) (T : Above B bm) {rest : List Value} {fI : Addr} {Q : Fin → Shared → Prop}
    (hC : h.get? C = some (excClassObj nm q C N bs bm hdct sn sub ab col dd k0 k1 k2 k3 k5 newId)) (hi : PySem.W.Looks (model prog w) h (typeLookup (.ref C) "__init__") (some (.ref fI)))
    (hb : ∀ self, PySem.W.Looks (model prog w) h (bindSpecial (.ref fI) self) (.ref fI, [self])) (hz : rest.length ≤ sizeLine)
    (hq : codeAny (model prog w) A (.call (.ref fI) ⟨.ref (h.objs.size + 1) :: rest, []⟩) (fun r s' => match r with | .ok (.ret v) => v = .none ∧ Q (.done (.ret (.ref (h.objs.size + 1)))) s' | .ok _ => False | .error e => E e s')
      ⟨(h.push (PySem.W.kdv_tup rest)).push (PySem.HandSPX.excO C h.objs.size), g, d, t, os⟩) :
    wpAny (model prog w) A (Builtin.«type.__call__» ⟨.ref C :: rest, []⟩) Q E ⟨h, g, d, t, os⟩ := by
  have k : ∀ b o, h.get? b = some o → ((h.push (PySem.W.kdv_tup rest)).push (PySem.HandSPX.excO C h.objs.size)).get? b = some o := by
    intro b o e
    exact Heap.get?_push_of_some _ (Heap.get?_push_of_some _ e)
  have hC1 := k _ _ hC
  have got : ((h.push (PySem.W.kdv_tup rest)).push (PySem.HandSPX.excO C h.objs.size)).get? (h.objs.size + 1) = some (PySem.HandSPX.excO C h.objs.size) := by heap_get
  have self : (Value.ref C :: bm).contains (.ref C) = true := by simp
  repeat (first
    | with_reducible refine wpAny_loadPart_at hC ?_
    | with_reducible refine wpAny_madeBy_exc hC ?_
    | wp_step)
  refine codeAny_call_builtin_code (Code.quiet_builtin _ F.quiet) (mk_check F T hC (mk_new F T hC hz ?_))
  show wpAny _ _ _ _ _ _
  have look := hi.keeps k
  have bind := (hb (.ref (h.objs.size + 1))).keeps k
  unfold isInstance
  repeat (first
    | with_reducible refine wpAny_loadPart_at got ?_
    | (with_reducible refine wpAny_isSubtype_exc hC1 ?_; rw [self])
    | wp_step)
  show wpAny _ _ (typeLookup (.ref C) _) _ _ _
  refine look.at (wpAny_holding (wpAny_bind (bind.at (wpAny_bind (wpAny_call (codeAny_mono hq ?_))))))
  intro r s' z
  match r, z with
  | .error e, z => exact z
  | .ok (.ret v), ⟨e, z⟩ =>
    subst e
    first
      | exact wpAny_pure (wpAny_pure z)
      | (wp_walk; exact z)
theorem mk_call (F : ExcBaseFacts B newId initId bmB) (T : Above B bm) {rest : List Value} {fI : Addr}
    (hC : h.get? C = some (excClassObj nm q C N bs bm hdct sn sub ab col dd k0 k1 k2 k3 k5 newId)) (hi : PySem.W.Looks (model prog w) h (typeLookup (.ref C) "__init__") (some (.ref fI)))
    (hb : ∀ self, PySem.W.Looks (model prog w) h (bindSpecial (.ref fI) self) (.ref fI, [self])) (hz : rest.length ≤ sizeLine)
    (hq : codeAny (model prog w) (A.under (.builtin "type.__call__" ⟨.ref C :: rest, []⟩)) (.call (.ref fI) ⟨.ref (h.objs.size + 1) :: rest, []⟩) (PySem.W.InitBack (h.objs.size + 1) R)
      ⟨(h.push (PySem.W.kdv_tup rest)).push (PySem.HandSPX.excO C h.objs.size), g, d, t, os⟩) : codeAny (model prog w) A (.call (.ref C) ⟨rest, []⟩) R ⟨h, g, d, t, os⟩ := by
  have l1 := tc_lookup
  have l2 := tc_bind (.ref C)
  have ty : (⟨h, g, d, t, os⟩ : Shared).TypeIs (.ref C) "type" := ⟨_, hC, rfl⟩
  refine codeAny_of_tree ?_
  show wpAny _ _ (callAny (.ref C) _) _ _ _
  repeat (any_goals (first
    | assumption
    | with_reducible refine wpAny_loadPart_at hC ?_
    | wp_step))
  refine ⟨rfl, codeAny_call_builtin_at (Code.quiet_builtin _ (by decide +kernel)) entry_typeCall (wpAny_check_type_call_sub hC (mk_type F T hC hi hb hz (codeAny_mono hq ?_)))⟩
  intro r s' z
  rcases r with e | (v | _ | _ | _) <;> exact z
end
/-! ### own exceptions over any built-in class, with fields -/
section
open Builtin Builtin.ObjectAttr
/-- what the written part says of such a class -/
structure OexB (K : PySem.W.Frag) (C : Addr) : Prop where
  made : ∃ (B newId initId : String) (bmB bm : List Value) (nm q : Str) (N : Addr) (bs : List Value) (hdct : Bool) (sn : List Str) (sub : List Value) (ab : Bool) (col : Option Bool) (dd : Option Addr) (k0 k1 k2 k3 k5 : Option Value),
    PySem.ExcBaseFacts B newId initId bmB ∧ Above B bm ∧ K.lookup C = some (excClassObj nm q C N bs bm hdct sn sub ab col dd k0 k1 k2 k3 k5 newId)
  st : ∃ (T : String) (bmT : List Value), PySem.StoreFacts T bmT "object.__setattr__" "object" ∧ PySem.W.excOver K C bmT = true
  hd : PySem.W.hasDictIn K C = true
  sa : PySem.W.findIn K (.ref C) "__setattr__" = some (some (.builtin "object.__setattr__"))
  exC : PySem.W.subIn K (.ref C) (.type "BaseException") = some true
  tyC : PySem.W.typeIn K (.ref C) = some (.type "type")
  kC : PySem.W.keepIn K (.ref C) = true
theorem OexB.cd {K : PySem.W.Frag} {C : Addr} (T : OexB K C) : ∃ cd, PySem.W.clsIn K C = some cd ∧ cd.hasDict = true := PySem.W.any_some T.hd
theorem taker_none {K : PySem.W.Frag} {C : Addr} {f : Str} (h : PySem.W.findIn K (.ref C) f = some none) : PySem.W.takerIn K C f = some none := by
  unfold PySem.W.takerIn
  rw [h]
  rfl
variable {prog : Program} {w : World} {A : Around} {R : Result → Shared → Prop} {hp : Heap} {g : Array GenState} {d : Drawn} {t : Nat} {os : OsState} {K : PySem.W.Frag} {name : Str} {tk : Tok} {v : Value} {x C : Addr} {fv : Array Value}
theorem sa_first (T : OexB K C) (X : K.In hp) (hx : hp.get? x = some { cls := .ref C, data := .fields fv }) (ha : PySem.W.findIn K (.ref C) name = some none)
    (hq : ∀ h' tk' dx, (∀ b o, b ≠ x → hp.get? b = some o → h'.get? b = some o) → hp.objs.size ≤ dx → dx ≠ x → h'.get? x = some { cls := .ref C, dict := some dx, data := .fields fv } → h'.Ns1 dx (fun y => if y = name then some v else none) → R (.ok (.ret .none)) ⟨h', g, d, tk', os⟩) :
    codeAny (model prog w) A (.call (.builtin "object.__setattr__") ⟨[.ref x, .str name tk, v], []⟩) R ⟨hp, g, d, t, os⟩ := by
  obtain ⟨TT, bmT, SF, ov⟩ := T.st
  obtain ⟨cd, hcd, hdd⟩ := T.cd
  have I : PySem.W.InstAt hp x { cls := .ref C, data := .fields fv } C none := ⟨hx, rfl, rfl, trivial⟩
  have hxs : x ≠ hp.objs.size := Nat.ne_of_lt (Heap.lt_size hx)
  refine PySem.W.osa_openX SF X I ov (taker_none ha) (fun b => ?_)
  have lc : PySem.W.Looks (model prog w) hp (classData C) cd := PySem.W.looks_clsIn X hcd
  obtain ⟨z1, z2, z3, z4, z5, z6, z7, z8, z9, z10, z11⟩ := cd
  dsimp only at hdd
  subst hdd
  show wpAny _ _ (storeInOwnDict (.ref x) (.ref C) (.str name tk) name v b) _ _ _
  unfold storeInOwnDict ownDictForStores
  cases b <;>
  · repeat (first | with_reducible refine PySem.HandSPX.store_in_new ?_ ?_ | with_reducible refine wpAny_loadPart_at hx ?_ | with_reducible refine lc.at ?_ | wp_step)
    · exact ⟨_, #[], _, (Heap.get?_update_ne _ _ _ _ hxs.symm).trans (Heap.get?_push_at rfl rfl), rfl, fun e he => absurd he (by simp), fun _ => rfl⟩
    · intro h' tk' hn' hs
      have hx1 : (hp.push { cls := .type "dict", data := .dict #[] }).get? x = some { cls := .ref C, data := .fields fv } := Heap.get?_push_of_some _ hx
      refine hq h' tk' hp.objs.size ?_ (Nat.le_refl _) hxs.symm ?_ hn'
      · intro b o hb ho
        have e1 := hs.2 b (Nat.ne_of_lt (Heap.lt_size ho))
        rw [e1, Heap.get?_update_ne _ _ _ _ hb]
        exact Heap.get?_push_of_some _ ho
      · rw [hs.2 x hxs]
        exact Heap.get?_update_self _ hx1 rfl
theorem sa_further {dx : Addr} {m0 : Str → Option Value} {nl : List Str} (T : OexB K C) (X : K.In hp) (hx : hp.get? x = some { cls := .ref C, dict := some dx, data := .fields fv }) (hns : hp.Ns1 dx m0) (hw : Within m0 nl) (hz : nl.length ≤ 1000) (ha : PySem.W.findIn K (.ref C) name = some none)
    (hq : ∀ h' tk', (∀ b o, b ≠ dx → hp.get? b = some o → h'.get? b = some o) → h'.Ns1 dx (fun y => if y = name then some v else m0 y) → R (.ok (.ret .none)) ⟨h', g, d, tk', os⟩) :
    codeAny (model prog w) A (.call (.builtin "object.__setattr__") ⟨[.ref x, .str name tk, v], []⟩) R ⟨hp, g, d, t, os⟩ := by
  obtain ⟨TT, bmT, SF, ov⟩ := T.st
  obtain ⟨cd, hcd, hdd⟩ := T.cd
  obtain ⟨oD, _, _, hoD, _, _⟩ := hns.count hw
  have I : PySem.W.InstAt hp x { cls := .ref C, dict := some dx, data := .fields fv } C (some oD) := ⟨hx, rfl, rfl, hoD⟩
  refine PySem.W.osa_openX SF X I ov (taker_none ha) (fun b => ?_)
  have lc : PySem.W.Looks (model prog w) hp (classData C) cd := PySem.W.looks_clsIn X hcd
  obtain ⟨z1, z2, z3, z4, z5, z6, z7, z8, z9, z10, z11⟩ := cd
  dsimp only at hdd
  subst hdd
  show wpAny _ _ (storeInOwnDict (.ref x) (.ref C) (.str name tk) name v b) _ _ _
  unfold storeInOwnDict ownDictForStores
  cases b <;>
  · repeat (first | with_reducible refine PySem.OEX.store_in_old hns hw hz ?_ | with_reducible refine wpAny_loadPart_at hx ?_ | with_reducible refine lc.at ?_ | wp_step)
    intro h' tk' hn' hs
    exact hq h' tk' (fun b o hb ho => (hs.2 b hb).trans ho) hn'
end
section
variable {X : Cx} {pins : List (Addr × Obj)} {σ : L2.St} {H : Hp} {s : Shared} {a C dx : Addr} {f : Str} {y : V} {u : Value} {fs : List (Str × V)} {Q : Unit → Shared → Prop} {E : Value → Shared → Prop} {A : Around}
theorem put_first (T : OexB X.K C) (I : Inv X pins σ H s) (e : H a = some (exo a C none)) (hno : PySem.W.findIn X.K (.ref C) f = some none) (ry : RelV y u)
    (h : ∀ dx s', H dx = none → dx ≠ a → Inv X pins σ (upd (upd H dx (exd dx [(f, y)])) a (exo a C (some dx))) s' → Q () s') : wpAny (model X.prog X.w) A (setAttr (.ref a) f u) Q E s := by
  obtain ⟨t1, ho⟩ := exo_at I.hok e
  obtain ⟨hp, g, d, t, os⟩ := s
  refine PySem.W.set_plain I.kIn (od := none) ⟨ho, rfl, rfl, trivial⟩ T.sa (sa_first T I.kIn ho hno ?_)
  intro h' tk' dx k big ne hx hn
  have fresh : H dx = none := I.hok.fresh big
  have notd : ∀ {b : Addr} {o : Obj}, hp.get? b = some o → b ≠ dx := by
    intro b o q
    exact Nat.ne_of_lt (Nat.lt_of_lt_of_le (Heap.lt_size q) big)
  have nota : ∀ {b : Addr}, H b = none → b ≠ a := by
    intro b n z
    rw [z, e] at n
    cases n
  have step : Un X.fs [] H (upd (upd H dx (exd dx [(f, y)])) a (exo a C (some dx))) hp h' := by
    constructor
    case keep => exact fun b o q n _ _ => k b o (nota n) q
    case slot => exact fun b o q n _ _ => ⟨o.slots, k b o (nota n) q⟩
    case free =>
      intro b o q n _
      rw [upd_ne (nota n), upd_ne (notd q)]
      exact n
    case there =>
      intro b o q _
      by_cases hb : b = a
      · subst hb
        exact ⟨_, hx⟩
      · exact ⟨o, k b o hb q⟩
    case tups =>
      intro b xs q
      rw [upd_ne (at_ne e q exo_tup), upd_ne (ne_of_none q fresh)]
      exact q
    case frzs =>
      intro b o v q
      rw [upd_ne (at_ne e q exo_frz), upd_ne (ne_of_none q fresh)]
      exact q
    case tbls =>
      intro b ps q
      refine ⟨#[], ?_⟩
      rw [upd_ne (at_ne e q exo_tbl), upd_ne (ne_of_none q fresh), q]
      simp
  refine h dx _ fresh ne (I.un (t' := tk') step ?_)
  intro b o q
  by_cases hb : b = a
  · subst hb
    rw [upd_same] at q
    cases q
    exact exo_ok hx
  rw [upd_ne hb] at q
  by_cases hd : b = dx
  · subst hd
    rw [upd_same] at q
    cases q
    exact exd_ok hn (relO_put (fs := []) ry fun _ => True.intro)
  rw [upd_ne hd] at q
  refine (I.hok b o q).stay (fun c v hc z => k c v ?_ z) (fun c hc => ?_) (fun c xs hc => ?_)
  · rcases hc with rfl | hc
    · exact hb
    · exact at_ne e hc exo_own
  · rw [upd_ne (at_ne e hc exo_own), upd_ne (ne_of_none hc fresh)]
    exact hc
  · rw [upd_ne (at_ne e hc exo_tup), upd_ne (ne_of_none hc fresh)]
    exact hc
theorem put_further (T : OexB X.K C) (I : Inv X pins σ H s) (e : H a = some (exo a C (some dx))) (ed : H dx = some (exd dx fs)) (hl : fs.length ≤ 900) (hno : PySem.W.findIn X.K (.ref C) f = some none) (ry : RelV y u)
    (h : ∀ s', Inv X pins σ (upd H dx (exd dx ((f, y) :: fs))) s' → Q () s') : wpAny (model X.prog X.w) A (setAttr (.ref a) f u) Q E s := by
  obtain ⟨t1, ho⟩ := exo_at I.hok e
  obtain ⟨mA, hns, rel⟩ := exd_at I.hok ed
  have hw := within_of rel
  obtain ⟨hp, g, d, t, os⟩ := s
  obtain ⟨oD, _, _, hoD, _, _⟩ := hns.count hw
  refine PySem.W.set_plain I.kIn (od := some oD) ⟨ho, rfl, rfl, hoD⟩ T.sa (sa_further T I.kIn ho hns hw ?_ hno ?_)
  · rw [List.length_map]
    omega
  · intro h' tk' k hn
    have there : ∃ o, h'.get? dx = some o := by
      obtain ⟨o, _, _, e', _⟩ := hn
      exact ⟨o, e'⟩
    refine h _ (I.write (t' := tk') (x := dx) (e := dx) (o := exd dx ((f, y) :: fs)) ?_ (.inl rfl) k there (exd_ok hn (relO_put ry rel)))
    rw [ed]
    exact True.intro
end
/-- self.f = y in the __init__ of an exception -/
def tPut (K : PySem.W.Frag) (f : Str) (to te : TE) : TS := fun D σ H => te σ H fun y H1 => to σ H1 fun x H2 => ∃ a C : Addr, x = .ref a ∧ OexB K C ∧ PySem.W.findIn K (.ref C) f = some none ∧
  ((H2 a = some (exo a C none) ∧ ∀ dx, H2 dx = none → dx ≠ a → D.nx σ (upd (upd H2 dx (exd dx [(f, y)])) a (exo a C (some dx)))) ∨
    ∃ (dx : Addr) (fs : List (Str × V)), H2 a = some (exo a C (some dx)) ∧ H2 dx = some (exd dx fs) ∧ fs.length ≤ 900 ∧ D.nx σ (upd H2 dx (exd dx ((f, y) :: fs))))
section
variable {X : Cx} {o e : Expr} {es : List Expr} {to te : TE} {ta : TA} {f : Str} {p p' pos : Pos}
theorem ps_put (ho : PE X o to) (he : PE X e te) (hs : swapsWith e (some (.Attribute o f p')) pos.line X.env = pure false := by rfl) : PS X (.Assign [.Attribute o f p'] e pos) (tPut X.K f to te) := by
  constructor
  intro pins s σ H D I h
  refine plainObj_wpAny_Assign_Attribute (thn (he.run pins s σ H _ I h) ?_) hs
  rintro v s1 ⟨y, H1, I1, r1, q1⟩
  refine thn (ho.run pins s1 σ H1 _ I1 q1) ?_
  rintro u s2 ⟨x, H2, I2, r2, a, C, rfl, T, hno, q⟩
  obtain rfl : u = Value.ref a := r2
  rcases q with ⟨ea, q⟩ | ⟨dx, fs, ea, ed, hl, q⟩
  · exact put_first T I2 ea hno r1 fun dx s' n ne J => ⟨σ, _, J, q dx n ne⟩
  · exact put_further T I2 ea ed hl hno r1 fun s' J => ⟨σ, _, J, q⟩
/-- C(e, ..) of such a class, to be raised -/
theorem pmk_oexB {CX : CXT} {x : Str} {C fI : Addr} {k : Nat} {fd : FuncData} {ps : List Str} {sp : Sp} (T : OexB X.K C) (iC : PySem.W.findIn X.K (.ref C) "__init__" = some (some (.ref fI))) (tI : PySem.W.typeIn X.K (.ref fI) = some (.type "function"))
    (G : FnOk X.prog X.w X.K X.mg X.base CX k fI fd ps sp) (hr : Room (k + 1) X.A) (hb : Binds X.K fd ps []) (hx : Passes CX X (fun _ _ _ => False)) (hg : Gl X x) (hm : X.mg x = some (.ref C)) (ha : PA X (e :: es) ta)
    (hdb : (x == ("__debug__" : Str)) = false := by decide) (he : starEach (e :: es) X.env = (false, eval e X.env) :: starEach es X.env := by rfl) (hpl : (backTo pos (starEach es X.env)).any (·.1) = false := by rfl) :
    PMk X (.Call (.Name x p) (e :: es) [] pos) (tMkO C sp [] ta) := by
  intro pins s σ H Q I h
  obtain ⟨B, newId, initId, bmB, bm, nm, qn, N, bs, hdct, sn, sub, ab, col, dd, k0, k1, k2, k3, k5, FB, hT, hC0⟩ := T.made
  refine wpAny_Call_Name_kw (ld_glob I hg hm ?_ hdb)
  refine PySem.W.callWith_K (h₀ := X.base) I.ok.mod.kin T.kC (thn (ha.run pos pins s σ H _ I h) ?_) he hpl
  rintro us s1 ⟨vs, H1, I1, r1, hz, q1⟩
  refine ⟨I1.kIn, ?_⟩
  show wpAny _ _ (call (.ref C) us) _ _ _
  obtain ⟨hp, g, dr, tk, os⟩ := s1
  have hC := I1.kIn _ _ hC0
  let A1 := hp.objs.size + 1
  let hp2 := (hp.push (PySem.W.kdv_tup us)).push (PySem.HandSPX.excO C hp.objs.size)
  have big : hp.objs.size ≤ A1 := Nat.le_succ _
  have q2 := q1 A1 (I1.hok.fresh big)
  have kk : ∀ b o, hp.get? b = some o → hp2.get? b = some o := fun b o e => Heap.get?_push_of_some _ (Heap.get?_push_of_some _ e)
  have got : hp2.get? A1 = some (PySem.HandSPX.excO C hp.objs.size) := by
    show ((hp.push (PySem.W.kdv_tup us)).push (PySem.HandSPX.excO C hp.objs.size)).get? (hp.objs.size + 1) = _
    heap_get
  have I2 : Inv X pins σ (upd H1 A1 (exo A1 C none)) ⟨hp2, g, dr, tk, os⟩ := I1.laid (t' := tk) (a := A1) (o := exo A1 C none) (h' := hp2) kk big (exo_ok got)
  have r2 : Vals (V.ref A1 :: (vs ++ [])) (Value.ref A1 :: us) := by
    rw [List.append_nil]
    exact .cons rfl r1
  have hlen : (Value.ref A1 :: us).length = ps.length := by
    rw [← r2.length]
    exact G.len _ _ _ _ q2
  have hus : us.length ≤ sizeLine := by
    rw [← Paired.length r1, sizeLine_eq]
    omega
  have bd := hb ⟨hp2, g, dr, tk, os⟩ (Value.ref A1 :: us) I2.kIn (by rw [List.append_nil]; exact hlen)
  rw [List.append_nil] at bd
  refine wpAny_call (mk_call FB hT hC (PySem.W.looks_findIn I1.kIn iC) (fun self => PySem.W.bind_fn I1.kIn self tI) hus ?_)
  refine codeAny_mono (G.run _ X.stack _ _ ⟨Value.ref A1 :: us, []⟩ (Value.ref A1 :: us) _ _ (fun _ _ _ => False) (hr.make C us []) (I2.env0.make C us []) bd r2 q2) ?_
  intro r s' hq'
  match r, hq' with
  | .error er, hq' => exact hx pins σ _ _ er s' I2 hq'
  | .ok (.ret u), ⟨v, H2, os2, bare2, un2, hok2, rv, ev, d, fs, ea, ed, hd1, q3⟩ =>
    subst ev
    obtain ⟨h2, g2, d2, t2, os'⟩ := s'
    exact ⟨rv, mk_end (raises_own T.exC T.tyC) I1 big kk un2 hok2 os2 bare2 ea ed hd1 q3⟩
end
/-! ### a kept exception, looked at -/
/-- at a stands a kept exception of the class C with these fields -/
def KeptE (H : Hp) (a C : Addr) (fs : List (Str × V)) : Prop := ∃ dd : Addr, H a = some (keptX (.ref C) (some dd) a) ∧ H dd = some (.xd fs)
theorem keptE_inst {X : Cx} {pins : List (Addr × Obj)} {σ : L2.St} {H : Hp} {s : Shared} {a C : Addr} {fs : List (Str × V)} (I : Inv X pins σ H s) (h : KeptE H a C fs) : ∃ (ox od : Obj), PySem.W.InstAt s.heap a ox C (some od) ∧
    ∀ f, ∃ u, RelO (fs.lookup f) u ∧ PySem.W.lookIn f od = some u := by
  obtain ⟨dd, ea, ed⟩ := h
  obtain ⟨oe, vs, ho, hz, hd⟩ := keptX_at I.hok ea
  have hx : ObjOk X.prog X.w H s.heap dd (.xd fs) := I.hok dd _ ed
  obtain ⟨mA, hns, hr⟩ := hx
  obtain ⟨od, h1, hl⟩ := lookIn_ns hns
  refine ⟨oe, od, ⟨ho, hz.1, ?_, ?_⟩, fun f => ⟨mA f, hr f, hl f⟩⟩
  · unfold PySem.W.notCls
    rw [hd] <;> rfl
  · rw [hz.2]
    exact h1
/-- e.f, e a kept exception -/
def tFldX (K : PySem.W.Frag) (f : Str) (te : TE) : TE := fun σ H Q => te σ H fun x H1 => ∃ (a C : Addr) (fs : List (Str × V)) (v : V), x = .ref a ∧ XfC K C ∧ PySem.W.findIn K (.ref C) f = some none ∧ KeptE H1 a C fs ∧ fs.lookup f = some v ∧ Q v H1
theorem pe_fldX {X : Cx} {e : Expr} {te : TE} {pos : Pos} {n : Str} (he : PE X e te) (hb : attributeBase e n X.env (eval e X.env) = eval e X.env := by rfl) : PE X (.Attribute e n pos) (tFldX X.K n te) := by
  constructor
  intro pins s σ H Q I h
  refine attr_of hb (thn (he.run pins s σ H _ I h) ?_)
  rintro u s1 ⟨x, H1, I1, rx, a, C, fs, v, rfl, T, hno, hk, l, q⟩
  obtain rfl : u = Value.ref a := rx
  obtain ⟨ox, od, J, look⟩ := keptE_inst I1 hk
  obtain ⟨m, r, hl⟩ := look n
  obtain ⟨u, hu, ru⟩ := RelO.some_of (v := v) (o := m) (by rw [← l]; exact r)
  exact HandSPX.exc_get I1.kIn J T.ga T.gg T.exC (PySem.W.findObj_own T.hdC hno rfl (by rw [hl, hu])) (handed_of ru) ⟨v, H1, I1.tok _, ru, q⟩
theorem keptE_kit {K : PySem.W.Frag} {a C : Addr} {od : Option Obj} {ox : Obj} (T : ExcC K C) : PySem.W.KitX K (.ref a) (.ref C) (fun h => PySem.W.InstAt h a ox C od) := by
  obtain ⟨cd, hc, _⟩ := PySem.W.any_some T.hd
  exact PySem.W.kitx_exc (by rw [hc]; rfl) T.hg T.hk T.hs T.ha T.hn T.ht T.hm
/-- isinstance(e, c) of a kept exception, or of what the layer knows already -/
def rIsO (K : PySem.W.Frag) : List V → Hp → VK → Prop := fun xs H Q => rIsi K xs H Q ∨ ∃ (a C : Addr) (fs : List (Str × V)) (c : V) (u : Value) (b : Bool), xs = [.ref a, c] ∧ KeptE H a C fs ∧ ExcC K C ∧ ClsV c u ∧ PySem.W.kitOne K (.ref C) u = some b ∧ Q (.bl b) H
theorem call_isO {X : Cx} : CallR X (.builtin "isinstance") (rIsO X.K) := by
  intro pins s σ H xs us Q I r h
  rcases h with h | ⟨a, C, fs, c, u, b, rfl, hk, T, k, e, q⟩
  · exact call_isi pins s σ H xs us Q I r h
  obtain ⟨u1, u2, rfl, r1, r2⟩ := vals2 r
  obtain rfl : u1 = Value.ref a := r1
  have e2 := k.eq r2
  subst e2
  obtain ⟨ox, od, J, _⟩ := keptE_inst I hk
  exact PySem.W.kia_one (keptE_kit T) I.kIn J e (fun z => nomatch z) fun tk => ⟨.bl b, H, I.tok tk, rfl, q⟩
/-- isinstance(e, (c1, c2, ..)) of a kept exception, or of what the layer knows already -/
def rIsOT (K : PySem.W.Frag) : List V → Hp → VK → Prop := fun xs H Q => rIsiT K xs H Q ∨ ∃ (a C : Addr) (fs : List (Str × V)) (tp : Addr) (cs : List V) (us : List Value) (b : Bool), xs = [.ref a, .ref tp] ∧ KeptE H a C fs ∧ ExcC K C ∧ H tp = some (.tup cs) ∧ Paired ClsV cs us ∧
  PySem.W.kitAny K (.ref C) us = some b ∧ Q (.bl b) H
theorem call_isOT {X : Cx} : CallR X (.builtin "isinstance") (rIsOT X.K) := by
  intro pins s σ H xs us Q I r h
  rcases h with h | ⟨a, C, fs, tp, cs, ws, b, rfl, hk, T, hT, k, e, q⟩
  · exact call_isiT pins s σ H xs us Q I r h
  obtain ⟨u1, u2, rfl, r1, r2⟩ := vals2 r
  obtain rfl : u1 = Value.ref a := r1
  obtain rfl : u2 = Value.ref tp := r2
  obtain ⟨ox, od, J, _⟩ := keptE_inst I hk
  have ht : ObjOk X.prog X.w H s.heap tp (.tup cs) := I.hok tp _ hT
  obtain ⟨_, its, rv, o, h1, h2, n, h3⟩ := ht
  have e3 := ClsV.all k rv
  subst e3
  obtain ⟨oc, od', dt, sl⟩ := o
  simp only at h2 h3
  subst h2 h3
  exact PySem.W.kia_tup (keptE_kit T) I.kIn J h1 e (fun z => nomatch z) fun tk => ⟨.bl b, H, I.tok tk, rfl, q⟩
/-! ### an object made that may refuse -/
section
variable {X : Cx} {CX : CXT} {k : Nat} {f C : Addr} {fd : FuncData} {ps : List Str} {sp : Sp} {dvs : List V} {ds : List Value} {E : L2.St → XK} {x : Str} {p pos : Pos} {e : Expr} {es : List Expr} {t : TA}
def tMakeS (C : Addr) (sp : Sp) (dvs : List V) (E : L2.St → XK) (t : TA) : TE := fun σ H Q => t σ H fun vs H1 => ∀ x dx, H1 x = none → H1 dx = none → dx ≠ x → sp (.ref x :: (vs ++ dvs)) (upd (upd H1 dx (.own x)) x (.ins C dx [])) (fun v H2 => v = .non ∧ Q (.ref x) H2) (E σ)
theorem pe_makeS (M : Mk X.K C f) (G : FnOk X.prog X.w X.K X.mg X.base CX k f fd ps sp) (hr : Room (k + 1) X.A) (hg : Gl X x) (hm : X.mg x = some (.ref C)) (hb : Binds X.K fd ps ds) (hd : Vals dvs ds) (hx : ∀ σ, PassesAt CX X σ (E σ))
    (ha : PA X (e :: es) t) (hdb : (x == ("__debug__" : Str)) = false := by decide) (he : starEach (e :: es) X.env = (false, eval e X.env) :: starEach es X.env := by rfl) (hpl : (backTo pos (starEach es X.env)).any (·.1) = false := by rfl) :
    PE X (.Call (.Name x p) (e :: es) [] pos) (tMakeS C sp dvs E t) := by
  constructor
  intro pins s σ H Q I h
  refine wpAny_Call_Name_kw (ld_glob I hg hm ?_ hdb)
  refine PySem.W.callWith_K (h₀ := X.base) I.ok.mod.kin M.kp (thn (ha.run pos pins s σ H _ I h) ?_) he hpl
  rintro us s1 ⟨vs, H1, I1, r, q⟩
  refine ⟨I1.kIn, ?_⟩
  have q2 := q (s1.heap.objs.size + 1) s1.heap.objs.size (I1.hok.fresh (Nat.le_succ _)) (I1.hok.fresh (Nat.le_refl _)) (Nat.ne_of_lt (Nat.lt_succ_self _))
  have J := Inv.made (C := C) I1
  have r2 : Vals (V.ref (s1.heap.objs.size + 1) :: (vs ++ dvs)) (Value.ref (s1.heap.objs.size + 1) :: (us ++ ds)) := .cons rfl (r.append hd)
  have hl : (Value.ref (s1.heap.objs.size + 1) :: us ++ ds).length = ps.length := by
    have e := r2.length
    rw [G.len _ _ _ _ q2] at e
    exact e.symm
  refine wpAny_call (make_map (f := f) I1.kIn M.makes M.init (beq_iff_eq.mp M.fn) (codeAny_mono (G.run _ X.stack _ _ ⟨Value.ref (s1.heap.objs.size + 1) :: us, []⟩ (Value.ref (s1.heap.objs.size + 1) :: (us ++ ds)) _ _ (E σ) (hr.make C us [])
    (J.env0.make C us []) (hb _ (Value.ref (s1.heap.objs.size + 1) :: us) J.kIn hl) r2 q2) ?_))
  intro r s' hq
  match r, hq with
  | .error er, hq => exact hx σ pins _ _ er s' J hq
  | .ok (.ret u), hq =>
    obtain ⟨v, H', I3, rv, ev, q3⟩ := J.after hq
    subst ev
    exact ⟨rv, ⟨V.ref (s1.heap.objs.size + 1), H', I3, rfl, q3⟩⟩
end
/-! ### a block by a reading of one's own -/
theorem pss_imp {X : Cx} {b : List Stmt} {t t' : TS} (h : PSs X b t) (i : ∀ D σ H, t' D σ H → t D σ H) : PSs X b t' := ⟨fun pins s σ H D I z => h.run pins s σ H D I (i _ _ _ z)⟩
/-! ### o.m(e, .., k = v, ..), what is raised wished for at the caller's slots -/
section
variable {X : Cx} {CX : CXT} {k n : Nat} {f C : Addr} {fd : FuncData} {ps ks : List Str} {sp : Sp} {E : L2.St → XK} {m : Str} {apos pos : Pos} {o e : Expr} {es : List Expr} {kws : List Keyword} {ta : TE} {t tk : TA} {g : List Value → List Value → List Value} {gV : List V → List V → List V}
theorem passNo {P : Program} {w : World} {σ : L2.St} (hP : X.prog = P) (hw : X.w = w) : PassesAt (L2.CX P w) X σ E0 := by
  intro pins H s e s' I h
  obtain ⟨_, _, _, _, _, _, _, _, _, _, _, _, z⟩ := h
  exact (show False from z).elim
theorem run_kbn {pins : List (Addr × Obj)} {σ : L2.St} {H : Hp} {s : Shared} {Q : VK} {us ws : List Value} {vs zs : List V} (F : FnOk X.prog X.w X.K X.mg X.base CX k f fd ps sp) (hr : Room k X.A) (hb : KBn X.K fd ps n ks g gV) (hx : PassesAt CX X σ (E σ))
    (I : L2.Inv X pins σ H s) (r : Vals vs us) (rz : Vals zs ws) (l1 : vs.length = n) (l2 : zs.length = ks.length) (h : sp (gV vs zs) H Q (E σ)) : wpAny (model X.prog X.w) X.A (call (.ref f) us (ks.zip ws)) (EP X pins σ Q) X.xe s := by
  have bd := hb.to s us ws I.kIn (r.length.symm.trans l1) (rz.length.symm.trans l2)
  refine wpAny_call (codeAny_mono (F.run X.A X.stack s H ⟨us, ks.zip ws⟩ (g us ws) (gV vs zs) Q (E σ) hr I.env0 bd (hb.rel r rz) h) fun z s' hz => ?_)
  match z, hz with
  | .error er, hz => exact hx pins H s er s' I hz
  | .ok (.ret u), hz => exact I.after hz
  | .ok .next, hz => exact (show False from hz).elim
  | .ok .brk, hz => exact (show False from hz).elim
  | .ok .cont, hz => exact (show False from hz).elim
def tMethA (C : Addr) (m : Str) (n nk : Nat) (sp : Sp) (gV : List V → List V → List V) (E : L2.St → XK) (ta : TE) (t tk : TA) : TE := fun σ H Q => ta σ H fun x H1 => ∃ a dx fs, x = .ref a ∧ H1 a = some (.ins C dx fs) ∧ fs.lookup m = none ∧
  t σ H1 fun vs H2 => tk σ H2 fun zs H3 => vs.length = n ∧ zs.length = nk ∧ sp (gV (.ref a :: vs) zs) H3 Q (E σ)
theorem pe_methA {pl : Sem Bool} (he : PE X o ta) (c : Cls X.K C) (hm : Meth X.K C m f) (F : FnOk X.prog X.w X.K X.mg X.base CX k f fd ps sp) (hr : Room k X.A) (hb : KBn X.K fd ps (n + 1) ks g gV) (hx : ∀ σ, PassesAt CX X σ (E σ))
    (ha : PA X (e :: es) t) (hkw : PK X kws tk) (n1 : (backToKw pos (keywordEach kws X.env)).all (·.1.isSome) = true := by rfl) (n2 : (backToKw pos (keywordEach kws X.env)).filterMap (·.1) = ks := by rfl)
    (n3 : starEach (e :: es) X.env = (false, eval e X.env) :: starEach es X.env := by rfl) (n4 : ((backTo pos (starEach (e :: es) X.env)).any (·.1) || (backToKw pos (keywordEach kws X.env)).any (·.1.isNone)) = false := by rfl)
    (n5 : eval (.Call (.Attribute o m apos) (e :: es) kws pos) X.env = (do
      let ov ← eval o X.env
      standAt apos.atName
      let (f, first) ← holding [ov] (getMethod ov m pl)
      callWith pos f first (backTo pos (starEach (e :: es) X.env)) (backToKw pos (keywordEach kws X.env))) := by rfl) :
    PE X (.Call (.Attribute o m apos) (e :: es) kws pos) (tMethA C m n ks.length sp gV E ta t tk) := by
  constructor
  intro pins s σ H Q I h
  refine PySem.W.methodCall_KW (pl := pl) (thn (he.run pins s σ H _ I h) ?_) n5
  rintro u s1 ⟨x, H1, I1, rx, a, dx, fs, rfl, ea, l, q⟩
  cases (show u = Value.ref a from rx)
  refine getmeth_ok I1 ea c hm l ?_
  refine PySem.W.callWith_KW (first := [.ref a]) (h₀ := X.base) I.ok.mod.kin hm.kp n1 (thn (ha.run pos pins s1 σ H1 _ I1 q) ?_) n4 n3
  rintro us s2 ⟨vs, H2, I2, r, q2⟩
  refine thn (hkw.run pos pins s2 σ H2 _ I2 q2) ?_
  rintro ws s3 ⟨zs, H3, I3, rz, l1, l2, q3⟩
  refine ⟨I3.kIn, ?_⟩
  rw [n2]
  exact run_kbn (us := .ref a :: us) (vs := .ref a :: vs) F hr hb (hx σ) I3 (.cons rfl r) rz (congrArg Nat.succ l1) l2 q3
/-- o.m(k = v, ..) -/
theorem pe_methA0 {pl : Sem Bool} (he : PE X o ta) (c : Cls X.K C) (hm : Meth X.K C m f) (F : FnOk X.prog X.w X.K X.mg X.base CX k f fd ps sp) (hr : Room k X.A) (hb : KBn X.K fd ps 1 ks g gV) (hx : ∀ σ, PassesAt CX X σ (E σ))
    (hkw : PK X kws tk) (n1 : (backToKw pos (keywordEach kws X.env)).all (·.1.isSome) = true := by rfl) (n2 : (backToKw pos (keywordEach kws X.env)).filterMap (·.1) = ks := by rfl)
    (n4 : ((backTo pos (starEach [] X.env)).any (·.1) || (backToKw pos (keywordEach kws X.env)).any (·.1.isNone)) = false := by rfl)
    (n5 : eval (.Call (.Attribute o m apos) [] kws pos) X.env = (do
      let ov ← eval o X.env
      standAt apos.atName
      let (f, first) ← holding [ov] (getMethod ov m pl)
      callWith pos f first (backTo pos (starEach [] X.env)) (backToKw pos (keywordEach kws X.env))) := by rfl) :
    PE X (.Call (.Attribute o m apos) [] kws pos) (tMethA C m 0 ks.length sp gV E ta tNil tk) := by
  constructor
  intro pins s σ H Q I h
  refine PySem.W.methodCall_KW (pl := pl) (thn (he.run pins s σ H _ I h) ?_) n5
  rintro u s1 ⟨x, H1, I1, rx, a, dx, fs, rfl, ea, l, q⟩
  cases (show u = Value.ref a from rx)
  refine getmeth_ok I1 ea c hm l ?_
  refine PySem.W.callWith_KW0 (first := [.ref a]) (h₀ := X.base) I.ok.mod.kin hm.kp n1 ?_ n4
  refine thn (hkw.run pos pins s1 σ H1 _ I1 q) ?_
  rintro ws s3 ⟨zs, H3, I3, rz, l1, l2, q3⟩
  refine ⟨I3.kIn, ?_⟩
  rw [n2]
  exact run_kbn (us := [.ref a]) (vs := [.ref a]) F hr hb (hx σ) I3 (.cons rfl .nil) rz rfl l2 q3
/-- places alone, as a case of both -/
theorem kbn_of {K : Frag} {ds : List Value} {dvs : List V} (hb : L2.Binds K fd ps ds) (hd : Vals dvs ds) (hn : n + ds.length = ps.length) : KBn K fd ps n [] (fun us _ => us ++ ds) (fun vs _ => vs ++ dvs) :=
  ⟨fun s us ws X l1 l2 => hb s us X (by rw [List.length_append, l1, hn]), fun a _ => a.append hd⟩
end
abbrev sGInit : Stmt := inClass (topS 16) 0
abbrev NGInit : List Str := ["self", "lag", "high", "top", "thin", "thick"]
theorem scGInit : FnScope NGInit ["self", "lag", "high", "top", "thin", "thick"] (defScope sGInit) := ⟨rfl, rfl, rfl, by decide +kernel, rfl, by decide +kernel, by decide +kernel⟩
abbrev sGStand : Stmt := inClass (topS 16) 1
abbrev NGStand : List Str := ["self", "readings", "minute", "water", "ice"]
theorem scGStand : FnScope NGStand ["self", "readings", "minute"] (defScope sGStand) := ⟨rfl, rfl, rfl, by decide +kernel, rfl, by decide +kernel, by decide +kernel⟩
abbrev sNumAt : Stmt := topS 17
abbrev NNumAt : List Str := ["readings", "kind", "until", "latest", "told", "minute", "read", "number"]
theorem scNumAt : FnScope NNumAt ["readings", "kind", "until"] (defScope sNumAt) := ⟨rfl, rfl, rfl, by decide +kernel, rfl, by decide +kernel, by decide +kernel⟩
/-! ### o.m(k = v, ..) -/
section
variable {X : Cx} {CX : CXT} {k : Nat} {f C : Addr} {fd : FuncData} {ps ks : List Str} {sp : Sp} {E : XK} {m : Str} {apos pos : Pos} {o : Expr} {kws : List Keyword} {ta : TE} {tk : TA} {g : List Value → List Value → List Value} {gV : List V → List V → List V}
def tMethK0 (C : Addr) (m : Str) (sp : Sp) (gV : List V → List V → List V) (E : XK) (ta : TE) (tk : TA) : TE := fun σ H Q => ta σ H fun x H1 => ∃ a dx fs, x = .ref a ∧ H1 a = some (.ins C dx fs) ∧ fs.lookup m = none ∧ tk σ H1 fun zs H2 => sp (gV [.ref a] zs) H2 Q E
theorem pe_methK0 {pl : Sem Bool} (he : PE X o ta) (c : Cls X.K C) (hm : Meth X.K C m f) (F : FnOk X.prog X.w X.K X.mg X.base CX k f fd ps sp) (hr : Room k X.A) (hb : KBinds X.K fd ps ks g gV) (hx : Passes CX X E)
    (hkw : PK X kws tk) (hall : (backToKw pos (keywordEach kws X.env)).all (·.1.isSome) = true := by rfl) (hks : (backToKw pos (keywordEach kws X.env)).filterMap (·.1) = ks := by rfl)
    (hpl : ((backTo pos (starEach [] X.env)).any (·.1) || (backToKw pos (keywordEach kws X.env)).any (·.1.isNone)) = false := by rfl)
    (ht : eval (.Call (.Attribute o m apos) [] kws pos) X.env = (do
      let ov ← eval o X.env
      standAt apos.atName
      let (f, first) ← holding [ov] (getMethod ov m pl)
      callWith pos f first (backTo pos (starEach [] X.env)) (backToKw pos (keywordEach kws X.env))) := by rfl) :
    PE X (.Call (.Attribute o m apos) [] kws pos) (tMethK0 C m sp gV E ta tk) := by
  refine ⟨fun pins s σ H Q I h => ?_⟩
  refine PySem.W.methodCall_KW (pl := pl) (thn (he.run pins s σ H _ I h) fun u s1 ⟨x, H1, I1, rx, a, dx, fs, ex, ea, l, q⟩ => ?_) ht
  subst ex
  obtain rfl : u = Value.ref a := rx
  refine getmeth_ok I1 ea c hm l ?_
  refine PySem.W.callWith_KW0 (first := [.ref a]) (h₀ := X.base) I.ok.mod.kin hm.kp hall ?_ hpl
  refine thn (hkw.run pos pins s1 σ H1 _ I1 q) fun ws s2 ⟨zs, H2, I2, rz, q2⟩ => ⟨I2.kIn, ?_⟩
  rw [hks]
  exact run_fnk (us := [.ref a]) (vs := [.ref a]) F hr hb hx I2 (.cons rfl .nil) rz q2
/-- n values by their places, m by keywords, these turned about -/
def kwN {α : Type} (n m : Nat) (us ws : List α) : List α := if us.length = n ∧ ws.length = m then us ++ ws.reverse else []
theorem kwN_vals {n m : Nat} {vs zs : List V} {us ws : List Value} (a : Vals vs us) (b : Vals zs ws) : Vals (kwN n m vs zs) (kwN n m us ws) := by
  unfold kwN
  rw [a.length, b.length]
  split
  · exact a.append (vals_rev b)
  · exact .nil
theorem fun_kbindsN {K : Frag} {x qual : Str} {st : Stmt} {f : Addr} {fd : FuncData} {ps ks : List Str} (n : Nat) (F : Fun K x qual st f fd) (hn : ps ≠ [])
    (h : ∀ (kV doc pm : Value) (an : Option Addr) (cdv ct : Value) (us ws : List Value), us.length = n → ws.length = ks.length → bindArgs (PySem.W.fnOf x qual (defArgs st) (defBody st) (defScope st) .none kV doc pm an cdv ct) ⟨us, ks.zip ws⟩ = pure (ps.zip (us ++ ws.reverse))) :
    KBinds K fd ps ks (kwN n ks.length) (kwN n ks.length) := by
  obtain ⟨oc, od, kV, doc, pm, an, cdv, ct, osl, rfl, lk, hcd⟩ := F.ex
  refine ⟨fun s us ws _ hl => ?_, kwN_vals⟩
  unfold kwN at hl ⊢
  split at hl
  · rename_i c
    rw [if_pos c]
    exact .of_eq (h kV doc pm an cdv ct us ws c.1 c.2)
  · exact absurd (List.eq_nil_of_length_eq_zero hl.symm) hn
end
/-! ### a Gauge -/
structure Gg where
  lag : Int
  high : Int
  top : Int
  thin : Int
  thick : Int
def ggF (g : Gg) : List (Str × V) := putF "thick" (.int g.thick) (putF "thin" (.int g.thin) (putF "top" (.int g.top) (putF "high" (.int g.high) (putF "lag" (.int g.lag) []))))
theorem ggF_lag (g : Gg) : (ggF g).lookup ("lag" : Str) = some (.int g.lag) := by
  unfold ggF; repeat (rw [lookup_putF]; first | rw [if_pos rfl] | rw [if_neg (by decide +kernel)])
theorem ggF_high (g : Gg) : (ggF g).lookup ("high" : Str) = some (.int g.high) := by
  unfold ggF; repeat (rw [lookup_putF]; first | rw [if_pos rfl] | rw [if_neg (by decide +kernel)])
theorem ggF_top (g : Gg) : (ggF g).lookup ("top" : Str) = some (.int g.top) := by
  unfold ggF; repeat (rw [lookup_putF]; first | rw [if_pos rfl] | rw [if_neg (by decide +kernel)])
theorem ggF_thin (g : Gg) : (ggF g).lookup ("thin" : Str) = some (.int g.thin) := by
  unfold ggF; repeat (rw [lookup_putF]; first | rw [if_pos rfl] | rw [if_neg (by decide +kernel)])
theorem ggF_thick (g : Gg) : (ggF g).lookup ("thick" : Str) = some (.int g.thick) := by
  unfold ggF; repeat (rw [lookup_putF]; first | rw [if_pos rfl] | rw [if_neg (by decide +kernel)])
/-- a name that is no field -/
theorem ggF_no (g : Gg) {x : Str} (h1 : ¬ x = "lag") (h2 : ¬ x = "high") (h3 : ¬ x = "top") (h4 : ¬ x = "thin") (h5 : ¬ x = "thick") : (ggF g).lookup x = none := by
  unfold ggF
  rw [lookup_putF, if_neg h5, lookup_putF, if_neg h4, lookup_putF, if_neg h3, lookup_putF, if_neg h2, lookup_putF, if_neg h1]
  rfl
theorem ggF_stand (g : Gg) : (ggF g).lookup ("stand" : Str) = none := ggF_no g (by decide +kernel) (by decide +kernel) (by decide +kernel) (by decide +kernel) (by decide +kernel)
def GgAt (C : Addr) (H : Hp) (p : Addr) (g : Gg) : Prop := ∃ dx, H p = some (.ins C dx (ggF g))
theorem GgAt.same {C : Addr} {H H' : Hp} {p : Addr} {g : Gg} (h : GgAt C H p g) (s : Same H H') : GgAt C H' p g := by
  obtain ⟨dx, e⟩ := h; exact ⟨dx, s _ _ e⟩
theorem GgAt.keep {C T : Addr} {H H' : Hp} {p : Addr} {g : Gg} {xs : List V} (h : GgAt C H p g) (hT : H T = some (.lst xs)) (s : Keep T H H') : GgAt C H' p g := by
  obtain ⟨dx, e⟩ := h; exact ⟨dx, s _ _ (ne_of e hT (by intro z; cases z)) e⟩
theorem made_same {H H' : Hp} {x dx : Addr} {o1 o2 : HO} (hx : H x = none) (hdx : H dx = none) (k : ∀ y o, y ≠ x → (upd (upd H dx o1) x o2) y = some o → H' y = some o) : Same H H' := fun y o e =>
  k y o (ne_of_none e hx) (by rw [upd_ne (ne_of_none e hx), upd_ne (ne_of_none e hdx)]; exact e)
/-! ### readings -/
structure Rd where
  m : Int
  w : Bool
  n : Int
def kindS (w : Bool) : Str := if w then "water" else "ice"
theorem kindS_inj {w v : Bool} : kindS w = kindS v ↔ w = v := by
  have : ¬ (("water" : Str) = "ice") := by decide +kernel
  cases w <;> cases v <;> simp [kindS, this, Ne.symm this]
inductive Rds (H : Hp) : List V → List Rd → Prop
  | nil : Rds H [] []
  | cons {a : Addr} {r : Rd} {xs : List V} {rs : List Rd} : H a = some (.tup [.int r.m, .str (kindS r.w), .int r.n]) → Rds H xs rs → Rds H (.ref a :: xs) (r :: rs)
theorem Rds.len {H : Hp} {xs : List V} {rs : List Rd} (h : Rds H xs rs) : xs.length = rs.length := by
  induction h with
  | nil => rfl
  | cons _ _ ih => rw [List.length_cons, List.length_cons, ih]
theorem Rds.at {H : Hp} {xs : List V} {rs : List Rd} (h : Rds H xs rs) : ∀ {i : Nat} {y : V}, xs[i]? = some y → ∃ a r, y = .ref a ∧ rs[i]? = some r ∧ H a = some (.tup [.int r.m, .str (kindS r.w), .int r.n]) := by
  induction h with
  | nil => intro i y e; cases e
  | cons e _ ih =>
    intro i y z
    cases i with
    | zero => cases z; exact ⟨_, _, rfl, rfl, e⟩
    | succ i => exact ih z
theorem Rds.mono {H H' : Hp} {xs : List V} {rs : List Rd} (h : Rds H xs rs) (s : ∀ a ts, H a = some (.tup ts) → H' a = some (.tup ts)) : Rds H' xs rs := by
  induction h with
  | nil => exact .nil
  | cons e _ ih => exact .cons (s _ _ e) ih
theorem Rds.app {H : Hp} {xs ys : List V} {rs ss : List Rd} (h : Rds H xs rs) (h2 : Rds H ys ss) : Rds H (xs ++ ys) (rs ++ ss) := by
  induction h with
  | nil => exact h2
  | cons e _ ih => exact .cons e ih
def RdsAt (H : Hp) (p : Addr) (rs : List Rd) : Prop := ∃ xs, H p = some (.lst xs) ∧ Rds H xs rs
theorem RdsAt.same {H H' : Hp} {p : Addr} {rs : List Rd} (h : RdsAt H p rs) (s : Same H H') : RdsAt H' p rs := by
  obtain ⟨xs, e, r⟩ := h; exact ⟨xs, s _ _ e, r.mono fun a ts z => s _ _ z⟩
theorem RdsAt.keep {T : Addr} {H H' : Hp} {p : Addr} {rs : List Rd} {ys : List V} (h : RdsAt H p rs) (hT : H T = some (.lst ys)) (n : p ≠ T) (s : Keep T H H') : RdsAt H' p rs := by
  obtain ⟨xs, e, r⟩ := h; exact ⟨xs, s _ _ n e, r.mono fun a ts z => s _ _ (ne_of z hT (by intro z; cases z)) z⟩
/-- the last reading's place and number, so far -/
def nStep (w : Bool) (u : Int) (s : Int × Int) (r : Rd) : Int × Int := if r.w = w ∧ s.1 ≤ r.m ∧ r.m ≤ u then (r.m, r.n) else s
def nFold (w : Bool) (u : Int) (rs : List Rd) : Int × Int := rs.foldl (nStep w u) (0, 0)
def numAt (rs : List Rd) (w : Bool) (u : Int) : Int := (nFold w u rs).2
theorem nFold_succ {w : Bool} {u : Int} {rs : List Rd} {i : Nat} {r : Rd} (h : rs[i]? = some r) : nFold w u (rs.take (i + 1)) = nStep w u (nFold w u (rs.take i)) r := by
  unfold nFold
  rw [List.take_succ, h, List.foldl_append]
  rfl
def standS (g : Gg) (wa ic : Int) : Str := if wa ≥ g.top then "lost" else if ic ≥ g.thick then "shut" else if wa ≥ g.high ∨ ic ≥ g.thin then "slow" else "free"
def standG (g : Gg) (rs : List Rd) (m : Int) : Str := standS g (numAt rs true (m - g.lag)) (numAt rs false m)
structure GCl (K : PySem.W.Frag) (mg : Str → Option Value) (C : Addr) : Prop where
  cl : Cls K C
  nL : NoAttr K C "lag"
  nH : NoAttr K C "high"
  nT : NoAttr K C "top"
  nN : NoAttr K C "thin"
  nK : NoAttr K C "thick"
  gC : mg "Gauge" = some (.ref C)
/-- the module's words -/
structure TxtW (mg : Str → Option Value) : Prop where
  mWATER : ∃ t, mg "WATER" = some (.str "water" t)
  mICE : ∃ t, mg "ICE" = some (.str "ice" t)
  mLOST : ∃ t, mg "LOST" = some (.str "lost" t)
  mSHUT : ∃ t, mg "SHUT" = some (.str "shut" t)
  mSLOW : ∃ t, mg "SLOW" = some (.str "slow" t)
  mFREE : ∃ t, mg "FREE" = some (.str "free" t)
abbrev FunDf_Gauge___init__ (K : PySem.W.Frag) (f : Addr) (fd : FuncData) : Prop := FunD K "__init__" "Gauge.__init__" (defArgs sGInit) (defBody sGInit) (defScope sGInit) [.int 60, .int 200, .int 400, .int 5, .int 20] [] f fd
theorem gi_b5 {K : PySem.W.Frag} {f : Addr} {fd : FuncData} (F : FunDf_Gauge___init__ K f fd) : Binds K fd ["self", "lag", "high", "top", "thin", "thick"] [] := by
  obtain ⟨ds, r, b⟩ := FunD.binds1 (ps := ["self", "lag", "high", "top", "thin", "thick"]) F 6 5 (by intro z; cases z) rfl fun _ _ _ _ _ _ _ us its hu hi => match us, its, hu, hi with | [_, _, _, _, _, _], [_, _, _, _, _], _, _ => ⟨_, rfl, rfl⟩
  cases r
  exact b
theorem gi_b0 {K : PySem.W.Frag} {f : Addr} {fd : FuncData} (F : FunDf_Gauge___init__ K f fd) : ∃ ds, Vals [.int 60, .int 200, .int 400, .int 5, .int 20] ds ∧ Binds K fd ["self", "lag", "high", "top", "thin", "thick"] ds :=
  FunD.binds1 (ps := ["self", "lag", "high", "top", "thin", "thick"]) F 1 0 (by intro z; cases z) rfl fun _ _ _ _ _ _ _ us its hu hi => match us, its, hu, hi with | [_], [_, _, _, _, _], _, _ => ⟨_, rfl, rfl⟩
/-- all five by keywords, turned about -/
def kwB5 {α : Type} (us _its ws : List α) : List α := us ++ ws.reverse
theorem gi_kb {K : PySem.W.Frag} {f : Addr} {fd : FuncData} (F : FunDf_Gauge___init__ K f fd) : ∃ its : List Value, KBn K fd ["self", "lag", "high", "top", "thin", "thick"] 1 ["thick", "thin", "top", "high", "lag"] (fun us ws => kwB5 us its ws) (fun vs zs => kwB5 vs [.int 60, .int 200, .int 400, .int 5, .int 20] zs) :=
  FunD.kbindsD F 1 ["thick", "thin", "top", "high", "lag"] kwB5 (by intro z; cases z) (fun a _ c => a.append (vals_rev c)) fun _ _ _ _ _ _ _ us its ws hu hi hw => match us, its, ws, hu, hi, hw with | [_], [_, _, _, _, _], [_, _, _, _, _], _, _, _ => ⟨_, rfl, rfl⟩
def spGInit (C : Addr) : Sp := fun vs H Q _ => ∃ (p dx : Addr) (g : Gg), vs = [.ref p, .int g.lag, .int g.high, .int g.top, .int g.thin, .int g.thick] ∧ H p = some (.ins C dx []) ∧ ∀ H', GgAt C H' p g → (∀ x o, x ≠ p → H x = some o → H' x = some o) → Q .non H'
def spNum : Sp := fun vs H Q _ => ∃ (p : Addr) (rs : List Rd) (w : Bool) (u : Int), vs = [.ref p, .str (kindS w), .int u] ∧ RdsAt H p rs ∧ Q (.int (numAt rs w u)) H
def spStand (C : Addr) : Sp := fun vs H Q _ => ∃ (p q : Addr) (g : Gg) (rs : List Rd) (m : Int), vs = [.ref p, .ref q, .int m] ∧ GgAt C H p g ∧ RdsAt H q rs ∧ Q (.str (standG g rs m)) H
section
variable {P : Program} {w : World} {K : PySem.W.Frag} {mg : Str → Option Value} {base : Heap} {C : Addr}
theorem ok_ginit {f : Addr} {fd : FuncData} {k : Nat} (F : FunDf_Gauge___init__ K f fd) (T : GCl K mg C) : FnOk P w K mg base CX0 (k + 1) f fd ["self", "lag", "high", "top", "thin", "thick"] (spGInit C) := by
  refine F.ok scGInit (fun vs H Q E h => ?_) (fun cdv A outer s H vs Q E hr h => ?_)
  · obtain ⟨p, dx, g, rfl, _⟩ := h
    rfl
  · obtain ⟨p, dx, g, rfl, hp, q⟩ := h
    refine ⟨_,
      (pss_cons (ps_fld (pv 0) (pv 1) rfl)
      (pss_cons (ps_fld (pv 0) (pv 2) rfl)
      (pss_cons (ps_fld (pv 0) (pv 3) rfl)
      (pss_cons (ps_fld (pv 0) (pv 4) rfl)
      (pss_one (ps_fld (pv 0) (pv 5) rfl))))))
      , ?_⟩
    refine ⟨_, rfl, _, rfl, p, C, dx, _, rfl, hp, T.cl, T.nL, (by show 0 < 1000; decide), ?_⟩
    refine ⟨_, rfl, _, rfl, p, C, dx, _, rfl, upd_same, T.cl, T.nH, (by show 1 < 1000; decide), ?_⟩
    refine ⟨_, rfl, _, rfl, p, C, dx, _, rfl, upd_same, T.cl, T.nT, (by show 2 < 1000; decide), ?_⟩
    refine ⟨_, rfl, _, rfl, p, C, dx, _, rfl, upd_same, T.cl, T.nN, (by show 3 < 1000; decide), ?_⟩
    refine ⟨_, rfl, _, rfl, p, C, dx, _, rfl, upd_same, T.cl, T.nK, (by show 4 < 1000; decide), ?_⟩
    exact q _ ⟨dx, upd_same⟩ fun x o n e => by rw [upd_ne n, upd_ne n, upd_ne n, upd_ne n, upd_ne n]; exact e
theorem ok_num {f : Addr} {fd : FuncData} {k : Nat} (F : Fun K "_number_at" "_number_at" sNumAt f fd) : FnOk P w K mg base CX0 (k + 1) f fd ["readings", "kind", "until"] spNum := by
  refine F.ok scNumAt (fun vs H Q E h => ?_) (fun cdv A outer s H vs Q E hr h => ?_)
  · obtain ⟨p, rs, w, u, rfl, _⟩ := h
    rfl
  · obtain ⟨p, rs, w, u, rfl, ⟨xs, hp, hrs⟩, q⟩ := h
    refine ⟨_,
      (pss_cons (ps_set (i := 3) scNumAt.nd rfl (.inl rfl) pe_int)
      (pss_cons (ps_set (i := 4) scNumAt.nd rfl (.inl rfl) pe_int)
      (pss_cons (ps_for PassesOwn.never rfl (pi_list (pv 0)) (pg_tup rfl (pgs_cons (pg_name (i := 5) scNumAt.nd rfl (.inl rfl)) (pgs_cons (pg_name (i := 6) scNumAt.nd rfl (.inl rfl)) (pgs_cons (pg_name (i := 7) scNumAt.nd rfl (.inl rfl)) pgs_nil))))
      (pss_one (ps_if (PW.pt (pw_and (pt_cmpR op_eq (pv 6) (pv 1) (nomark _)) (pw_and1 (pt_chain op_le op_le (pv 3) (pv 5) (pv 2)))))
      (pss_cons (ps_set (i := 3) scNumAt.nd rfl (.inl rfl) (pv 5))
      (pss_one (ps_set (i := 4) scNumAt.nd rfl (.inl rfl) (pv 7))))
      pss_nil)))
      (pss_one (ps_ret (pv 4))))))
      , ?_⟩
    refine ⟨_, rfl, p, rfl, ⟨_, SqL.of hp⟩, for_list (K := K) (a := p) (xs := xs) (fun j σ H' => ∃ v5 v6 v7, σ = [some (.ref p), some (.str (kindS w)), some (.int u), some (.int (nFold w u (rs.take j)).1), some (.int (nFold w u (rs.take j)).2), v5, v6, v7] ∧ H' = H)
      ⟨_, _, _, rfl, rfl⟩ (fun j σ H' _ ⟨_, _, _, _, z⟩ => z ▸ SqL.of hp) ?_ ?_⟩
    · rintro j y σ H' hj ⟨v5, v6, v7, rfl, rfl⟩
      obtain ⟨a, r, rfl, hr2, ha⟩ := hrs.at hj
      have es := nFold_succ (w := w) (u := u) hr2
      refine ⟨a, _, rfl, SqT.of ha, rfl, _, _, rfl, _, _, rfl, _, _, rfl, rfl, ?_⟩
      refine ⟨_, rfl, _, rfl, rfl, _, rfl, ite2 (fun c1 => ?_) (fun c1 => iteF ?_)⟩
      · have e1 : r.w = w := kindS_inj.mp (V.str.inj (of_decide_eq_true c1))
        refine ⟨_, rfl, _, rfl, _, _, rfl, rfl, _, rfl, ite2 (fun c2 => ?_) (fun c2 => ?_)⟩
        · refine ⟨_, rfl, _, _, rfl, rfl, _, rfl, ite2 (fun c3 => ?_) (fun c3 => ?_)⟩
          · have e2 : nStep w u (nFold w u (rs.take j)) r = (r.m, r.n) := if_pos ⟨e1, of_decide_eq_true c2, of_decide_eq_true c3⟩
            rw [es, e2]
            exact ⟨_, rfl, _, rfl, _, _, _, rfl, rfl⟩
          · have e2 : nStep w u (nFold w u (rs.take j)) r = nFold w u (rs.take j) := if_neg fun z => c3 (decide_eq_true z.2.2)
            rw [es, e2]
            exact ⟨_, _, _, rfl, rfl⟩
        · have e2 : nStep w u (nFold w u (rs.take j)) r = nFold w u (rs.take j) := if_neg fun z => c2 (decide_eq_true z.2.1)
          rw [es, e2]
          exact ⟨_, rfl, iteF ⟨_, _, _, rfl, rfl⟩⟩
      · have e2 : nStep w u (nFold w u (rs.take j)) r = nFold w u (rs.take j) := if_neg fun z => c1 (decide_eq_true (congrArg V.str (kindS_inj.mpr z.1)))
        rw [es, e2]
        exact ⟨_, _, _, rfl, rfl⟩
    · rintro σ H' ⟨v5, v6, v7, rfl, rfl⟩
      rw [hrs.len, List.take_length] at *
      exact ⟨_, rfl, q⟩
theorem ok_stand {f fN : Addr} {fd fdN : FuncData} {k : Nat} (F : Fun K "stand" "Gauge.stand" sGStand f fd) (T : GCl K mg C) (TW : TxtW mg) (F_number_at : Fun K "_number_at" "_number_at" sNumAt fN fdN) (g_number_at : mg "_number_at" = some (.ref fN)) (b_number_at : Binds K fdN ["readings", "kind", "until"] []) :
    FnOk P w K mg base CX0 (k + 2) f fd ["self", "readings", "minute"] (spStand C) := by
  have G_number_at : FnOk P w K mg base CX0 (k + 1) fN fdN ["readings", "kind", "until"] spNum := ok_num F_number_at
  refine F.ok scGStand (fun vs H Q E h => ?_) (fun cdv A outer s H vs Q E hr h => ?_)
  · obtain ⟨p, r, g, rs, m, rfl, _⟩ := h
    rfl
  · obtain ⟨p, r, g, rs, m, rfl, hp, hrs, q⟩ := h
    have hr_number_at := hr
    obtain ⟨tw, mWATER⟩ := TW.mWATER
    obtain ⟨ti, mICE⟩ := TW.mICE
    obtain ⟨tl, mLOST⟩ := TW.mLOST
    obtain ⟨ts, mSHUT⟩ := TW.mSHUT
    obtain ⟨to, mSLOW⟩ := TW.mSLOW
    obtain ⟨tf, mFREE⟩ := TW.mFREE
    refine ⟨_,
      (pss_cons (ps_set (i := 3) scGStand.nd rfl (.inl rfl) (pe_call G_number_at hr_number_at (by rfl) g_number_at F_number_at.kp b_number_at .nil pass0 (pa_cons (pv 1) (pa_cons (pe_glob (v := .str "water") (by rfl) mWATER ⟨_, rfl⟩) (pa_cons (pe_op op_sub (pv 2) (pe_fld (pv 0) rfl)) pa_nil)))))
      (pss_cons (ps_set (i := 4) scGStand.nd rfl (.inl rfl) (pe_call G_number_at hr_number_at (by rfl) g_number_at F_number_at.kp b_number_at .nil pass0 (pa_cons (pv 1) (pa_cons (pe_glob (v := .str "ice") (by rfl) mICE ⟨_, rfl⟩) (pa_cons (pv 2) pa_nil)))))
      (pss_cons (ps_if (pt_cmpR op_ge (pv 3) (pe_fld (pv 0) rfl) (nomark _))
      (pss_one (ps_ret (pe_glob (v := .str "lost") (by rfl) mLOST ⟨_, rfl⟩)))
      pss_nil)
      (pss_cons (ps_if (pt_cmpR op_ge (pv 4) (pe_fld (pv 0) rfl) (nomark _))
      (pss_one (ps_ret (pe_glob (v := .str "shut") (by rfl) mSHUT ⟨_, rfl⟩)))
      pss_nil)
      (pss_cons (ps_if (PW.pt (pw_or (pt_cmpR op_ge (pv 3) (pe_fld (pv 0) rfl) (nomark _)) (pw_or1 (pt_cmpR op_ge (pv 4) (pe_fld (pv 0) rfl) (nomark _)))))
      (pss_one (ps_ret (pe_glob (v := .str "slow") (by rfl) mSLOW ⟨_, rfl⟩)))
      pss_nil)
      (pss_one (ps_ret (pe_glob (v := .str "free") (by rfl) mFREE ⟨_, rfl⟩))))))))
      , ?_⟩
    obtain ⟨dx, ep⟩ := id hp
    refine ⟨_, rfl, _, rfl, _, rfl, p, C, dx, _, _, rfl, ep, T.cl, T.nL, ggF_lag g, _, _, rfl, rfl, r, rs, true, _, rfl, hrs, ?_⟩
    refine ⟨_, rfl, _, rfl, r, rs, false, _, rfl, hrs, ?_⟩
    refine ⟨_, rfl, _, rfl, p, C, dx, _, _, rfl, ep, T.cl, T.nT, ggF_top g, _, _, rfl, rfl, _, rfl, ite2 (fun c1 => ?_) (fun c1 => ?_)⟩
    · have e : standG g rs m = "lost" := if_pos (of_decide_eq_true c1)
      rw [e] at q
      exact q
    refine ⟨_, rfl, _, rfl, p, C, dx, _, _, rfl, ep, T.cl, T.nK, ggF_thick g, _, _, rfl, rfl, _, rfl, ite2 (fun c2 => ?_) (fun c2 => ?_)⟩
    · have e : standG g rs m = "shut" := (if_neg fun z => c1 (decide_eq_true z)).trans (if_pos (of_decide_eq_true c2))
      rw [e] at q
      exact q
    have e0 : standG g rs m = (if numAt rs true (m - g.lag) ≥ g.high ∨ numAt rs false m ≥ g.thin then ("slow" : Str) else ("free" : Str)) := (if_neg fun z => c1 (decide_eq_true z)).trans (if_neg fun z => c2 (decide_eq_true z))
    rw [e0] at q
    refine ⟨_, rfl, _, rfl, p, C, dx, _, _, rfl, ep, T.cl, T.nH, ggF_high g, _, _, rfl, rfl, _, rfl, ite2 (fun c3 => iteT ?_) (fun c3 => ?_)⟩
    · rw [if_pos (Or.inl (of_decide_eq_true c3))] at q
      exact q
    refine ⟨_, rfl, _, rfl, p, C, dx, _, _, rfl, ep, T.cl, T.nN, ggF_thin g, _, _, rfl, rfl, _, rfl, ite2 (fun c4 => ?_) (fun c4 => ?_)⟩
    · rw [if_pos (Or.inr (of_decide_eq_true c4))] at q
      exact q
    · rw [if_neg (fun z => z.elim (fun z => c3 (decide_eq_true z)) (fun z => c4 (decide_eq_true z)))] at q
      exact q
end
abbrev sReadings : Stmt := topS 22
abbrev NReadings : List Str := ["_law_feed_here", "_law_many", "_law_base", "_law_found", "_law_k", "_law_moment", "_law_number"]
theorem scReadings : FnScope NReadings ["_law_feed_here", "_law_many"] (defScope sReadings) := ⟨rfl, rfl, rfl, by decide +kernel, rfl, by decide +kernel, by decide +kernel⟩
abbrev sBounds : Stmt := topS 23
abbrev NBounds : List Str := ["_law_feed_here", "_law_lag_drawn", "_law_waters", "_law_ices", "_law_k"]
theorem scBounds : FnScope NBounds ["_law_feed_here"] (defScope sBounds) := ⟨rfl, rfl, rfl, by decide +kernel, rfl, by decide +kernel, by decide +kernel⟩
/-! ### data of readings -/
def rdD (r : Rd) : PyData := .tuple [.int r.m, .str (kindS r.w), .int r.n]
theorem kind_ok (w : Bool) : PyData.strOk (kindS w) = true := by cases w <;> decide +kernel
theorem rds_lay : ∀ rs : List Rd, PyData.canLayAll0 (rs.map rdD) = true
  | [] => rfl
  | r :: t => by simp [PyData.canLayAll0, PyData.canLay0, rdD, kind_ok, rds_lay t]
theorem rds_depth : ∀ rs : List Rd, PyData.depthAll (rs.map rdD) ≤ 1
  | [] => by simp [PyData.depthAll]
  | r :: t => by
    have := rds_depth t
    simp only [List.map_cons, PyData.depthAll, rdD, PyData.depth]
    omega
theorem rds_shaped (rs : List Rd) : SeqAt.shaped (.list (rs.map rdD)) = true := by
  have h1 := rds_depth rs
  have h2 : PyData.depth (.list (rs.map rdD)) ≤ 64 := by simp only [PyData.depth]; omega
  show (PyData.canLay0 (.list (rs.map rdD)) && decide (PyData.depth (.list (rs.map rdD)) ≤ 64)) = true
  rw [decide_eq_true h2, Bool.and_true]
  show PyData.canLayAll0 _ = true
  exact rds_lay rs
theorem rds_dp {K : PySem.W.Frag} {H : Hp} {xs : List V} {rs : List Rd} (h : Rds H xs rs) : DpAll K H xs (rs.map rdD) := by
  induction h with
  | nil => exact .nil
  | cons e _ ih => exact .cons (.tup (SqT.of e) (.cons (.int _) (.cons (.str _) (.cons (.int _) .nil)))) ih
theorem rds_refl (rs : List Rd) : PyData.eqv (.list (rs.map rdD)) (.list (rs.map rdD)) = true := SeqAt.eqv_refl _ (SeqAt.canLay_of_shaped (rds_shaped rs))
theorem pickI {xs : List Int} {lo hi : Int} (h : ∀ z ∈ xs, lo ≤ z ∧ z ≤ hi) {j : Nat} {x : V} (e : (xs.map V.int)[j]? = some x) : ∃ z : Int, x = .int z ∧ lo ≤ z ∧ z ≤ hi := by
  rw [List.getElem?_map] at e
  cases e2 : xs[j]? with
  | none => rw [e2] at e; cases e
  | some z => rw [e2] at e; cases e; exact ⟨z, rfl, h z (List.mem_of_getElem? e2)⟩
def spReadings : Sp := fun vs H Q _ => ∃ (T c : Addr) (many : Int) (n : Nat), vs = [.ref T, .int many] ∧ 0 < many ∧ many ≤ 1000 ∧ n < 500000 ∧ Tape H T c n ∧
  ∀ (p : Addr) (rs : List Rd) H', RdsAt H' p rs → rs.length ≤ 1000 → (∀ r ∈ rs, 0 ≤ r.m ∧ r.m ≤ 1003000) → p ≠ T → H p = none → Tape H' T c (n + 20000) → Keep T H H' → Q (.ref p) H'
structure TxtR (mg : Str → Option Value) : Prop where
  mlen : mg "len" = none
  mrange : mg "range" = none
  msorted : mg "sorted" = none
def spBounds : Sp := fun vs H Q _ => ∃ (T c : Addr) (n : Nat), vs = [.ref T] ∧ n < 500000 ∧ Tape H T c n ∧
  ∀ (p : Addr) (g : Gg) H', H' p = some (.lst [.int g.lag, .int g.high, .int g.top, .int g.thin, .int g.thick]) → 0 ≤ g.lag → g.lag ≤ 1440 → 1 ≤ g.high → 1 ≤ g.top → 1 ≤ g.thin → 1 ≤ g.thick → p ≠ T → Tape H' T c (n + 30) → Keep T H H' → Q (.ref p) H'
section
variable {P : Program} {w : World} {K : PySem.W.Frag} {mg : Str → Option Value} {base : Heap} {C : Addr}
theorem ok_readings {f fD fO : Addr} {fd fdD fdO : FuncData} {k : Nat} (F : Fun K "_law_readings" "_law_readings" sReadings f fd) (T0 : Txt0 mg) (T : TxtR mg)
    (F_law_draw : Fun K "_law_draw" "_law_draw" sDraw fD fdD) (g_law_draw : mg "_law_draw" = some (.ref fD)) (b_law_draw : Binds K fdD ["_law_feed_here", "_law_many"] [])
    (F_law_of : Fun K "_law_of" "_law_of" sOf fO fdO) (g_law_of : mg "_law_of" = some (.ref fO)) (b_law_of : Binds K fdO ["_law_feed_here", "_law_some"] []) :
    FnOk P w K mg base CX0 (k + 3) f fd ["_law_feed_here", "_law_many"] spReadings := by
  have G_law_draw : FnOk P w K mg base CX0 (k + 2) fD fdD ["_law_feed_here", "_law_many"] spDraw := ok_draw F_law_draw T0
  have G_law_of : FnOk P w K mg base CX0 (k + 2) fO fdO ["_law_feed_here", "_law_some"] spPick := ok_of F_law_of T0 F_law_draw g_law_draw b_law_draw
  refine F.ok scReadings (fun vs H Q E h => ?_) (fun cdv A outer s H vs Q E hr h => ?_)
  · obtain ⟨a, c, m, n, rfl, _⟩ := h
    rfl
  · obtain ⟨a, c, many, n, rfl, hm0, hm1, hn, hT, q⟩ := h
    have hr_law_draw := hr
    have hr_law_of := hr
    refine ⟨_,
      (pss_cut (ps_par (i := 2) (j := 3) rfl scReadings.nd rfl rfl (by decide) rfl rfl (pa_cons (pe_call G_law_of hr_law_of (by rfl) g_law_of F_law_of.kp b_law_of .nil pass0 (pa_cons (pv 0) (pa_cons (pe_lst (pa_cons pe_int (pa_cons (pe_call G_law_draw hr_law_draw (by rfl) g_law_draw F_law_draw.kp b_law_draw .nil pass0 (pa_cons (pv 0) (pa_cons pe_int pa_nil))) (pa_cons (pe_call G_law_draw hr_law_draw (by rfl) g_law_draw F_law_draw.kp b_law_draw .nil pass0 (pa_cons (pv 0) (pa_cons (pe_op op_pow pe_int pe_int) pa_nil))) pa_nil)))) pa_nil))) (pa_cons (pe_lst pa_nil) pa_nil)) (by rfl))
      (pss_cons (ps_for PassesOwn.never rfl (pi_range1 (by rfl) T.mrange (pa_cons (pe_call G_law_draw hr_law_draw (by rfl) g_law_draw F_law_draw.kp b_law_draw .nil pass0 (pa_cons (pv 0) (pa_cons (pv 1) pa_nil))) pa_nil)) (pg_name (i := 4) scReadings.nd rfl (.inl rfl))
      (pss_cons (ps_set (i := 5) scReadings.nd rfl (.inl rfl) (pe_op op_add (pv 2) (pe_call G_law_of hr_law_of (by rfl) g_law_of F_law_of.kp b_law_of .nil pass0 (pa_cons (pv 0) (pa_cons (pe_lst (pa_cons pe_int (pa_cons (pe_call G_law_draw hr_law_draw (by rfl) g_law_draw F_law_draw.kp b_law_draw .nil pass0 (pa_cons (pv 0) (pa_cons pe_int pa_nil))) (pa_cons (pe_call G_law_draw hr_law_draw (by rfl) g_law_draw F_law_draw.kp b_law_draw .nil pass0 (pa_cons (pv 0) (pa_cons pe_int pa_nil))) (pa_cons (pe_call G_law_draw hr_law_draw (by rfl) g_law_draw F_law_draw.kp b_law_draw .nil pass0 (pa_cons (pv 0) (pa_cons pe_int pa_nil))) pa_nil))))) pa_nil)))))
      (pss_cut (ps_if (PW.pt (pw_and (pt_cmpR (op_neD hr.units) (pv 3) (pe_lst pa_nil) (nomark _)) (pw_and1 (pt_cmpR op_eq (pe_call G_law_draw hr_law_draw (by rfl) g_law_draw F_law_draw.kp b_law_draw .nil pass0 (pa_cons (pv 0) (pa_cons pe_int pa_nil))) pe_int (nomark _)))))
      (pss_one (ps_set (i := 5) scReadings.nd rfl (.inl rfl) (pe_ix ix_tup (pe_call G_law_of hr_law_of (by rfl) g_law_of F_law_of.kp b_law_of .nil pass0 (pa_cons (pv 0) (pa_cons (pv 3) pa_nil))) pe_int (fun _ _ => rfl))))
      pss_nil)
      (pss_cons (ps_set (i := 6) scReadings.nd rfl (.inl rfl) (pe_call G_law_of hr_law_of (by rfl) g_law_of F_law_of.kp b_law_of .nil pass0 (pa_cons (pv 0) (pa_cons (pe_lst (pa_cons pe_int (pa_cons pe_int (pa_cons (pe_call G_law_draw hr_law_draw (by rfl) g_law_draw F_law_draw.kp b_law_draw .nil pass0 (pa_cons (pv 0) (pa_cons pe_int pa_nil))) (pa_cons (pe_call G_law_draw hr_law_draw (by rfl) g_law_draw F_law_draw.kp b_law_draw .nil pass0 (pa_cons (pv 0) (pa_cons pe_int pa_nil))) (pa_cons (pe_call G_law_draw hr_law_draw (by rfl) g_law_draw F_law_draw.kp b_law_draw .nil pass0 (pa_cons (pv 0) (pa_cons pe_int pa_nil))) pa_nil)))))) pa_nil))))
      (pss_one (ps_expr (pe_bm PySem.F.plainAttrs_list PySem.F.slot_list_append PySem.F.type_list_append mt_append (pv 3) (pa_cons (pe_tup (pa_cons (pv 5) (pa_cons (pe_ix ix_list (pe_lst (pa_cons pe_str (pa_cons pe_str pa_nil))) (pe_call G_law_draw hr_law_draw (by rfl) g_law_draw F_law_draw.kp b_law_draw .nil pass0 (pa_cons (pv 0) (pa_cons pe_int pa_nil))) (fun _ _ => rfl)) (pa_cons (pv 6) pa_nil)))) pa_nil))))))))
      (pss_one (ps_ret (pv 3)))))
      , ?_⟩
    -- base, found
    refine ⟨fun σ H1 => ∃ (b : Int) (fp : Addr), 0 ≤ b ∧ b ≤ 1000000 ∧ σ = [some (.ref a), some (.int many), some (.int b), some (.ref fp), none, none, none] ∧ H1 fp = some (.lst []) ∧ H fp = none ∧ fp ≠ a ∧ fp ≠ c ∧ Tape H1 a c (n + 3) ∧ Keep a H H1, ?_, ?_⟩
    · refine ⟨_, rfl, _, rfl, a, c, 3000, n, rfl, by omega, by omega, by omega, hT, fun d1 H1 d10 d11 T1 k1 => ?_⟩
      refine ⟨_, rfl, _, _, rfl, rfl, ⟨by decide, by decide, by decide⟩, a, c, 1000000, n + 1, rfl, by omega, by omega, by omega, T1, fun d2 H2 d20 d21 T2 k2 => ⟨by show 3 ≤ sizeLine; decide, fun l hl => ?_⟩⟩
      refine ⟨a, c, l, _, n + 2, rfl, upd_same, T2.ne hl, by show 0 < 3; decide, by show 3 < 1000000; decide, by omega, T2.new hl, fun j x H3 hx T3 k3 => ?_⟩
      obtain ⟨z, rfl, hz0, hz1⟩ := pickI (xs := [0, d1, d2]) (lo := 0) (hi := 1000000) (by simp; omega) hx
      refine ⟨Nat.zero_le _, fun fp hfp => ?_⟩
      have kk : Keep a H H3 := ((k1.trans k2).new hl).trans k3
      have hfp0 : H fp = none := by
        cases e : H fp with
        | none => rfl
        | some o => have := kk fp o (T3.ne hfp) e; rw [hfp] at this; cases this
      exact ⟨_, _, rfl, z, fp, hz0, hz1, rfl, upd_same, hfp0, T3.ne hfp, T3.nec hfp, T3.new hfp, kk.new hfp⟩
    rintro σ H1 ⟨b, fp, hb0, hb1, rfl, e1, hfp, nfa, nfc, T1, k1⟩
    refine ⟨_, rfl, _, rfl, a, c, many, n + 3, rfl, hm0, by omega, by omega, T1, fun dm H2 dm0 dm1 T2 k2 => ⟨_, rfl, by omega, by omega, ?_⟩⟩
    refine for_range (lo := 0) (n := dm.toNat) (fun i σ H' => ∃ (v4 v5 v6 : Option V) (xs : List V) (rs : List Rd), σ = [some (.ref a), some (.int many), some (.int b), some (.ref fp), v4, v5, v6] ∧ H' fp = some (.lst xs) ∧ Rds H' xs rs ∧ rs.length = i ∧ (∀ r ∈ rs, 0 ≤ r.m ∧ r.m ≤ 1003000) ∧ Tape H' a c (n + 4 + 15 * i) ∧ Keep a H H')
      ⟨_, _, _, [], [], rfl, k2 _ _ nfa e1, .nil, rfl, fun r hr => (by cases hr), T2, k1.trans k2⟩ ?_ ?_
    · rintro i σ H3 hi ⟨v4, v5, v6, xs, rs, rfl, e3, hrs, hlen, hall, T3, k3⟩
      have hi2 : i < 1000 := by omega
      -- moment
      refine ⟨_, rfl, _, rfl, _, rfl, a, c, 12, n + 4 + 15 * i, rfl, by omega, by omega, by omega, T3, fun d1 H4 d10 d11 T4 k4 => ?_⟩
      refine ⟨_, rfl, a, c, 400, _, rfl, by omega, by omega, by omega, T4, fun d2 H5 d20 d21 T5 k5 => ?_⟩
      refine ⟨_, rfl, a, c, 3000, _, rfl, by omega, by omega, by omega, T5, fun d3 H6 d30 d31 T6 k6 => ⟨by show 4 ≤ sizeLine; decide, fun l hl => ?_⟩⟩
      refine ⟨a, c, l, _, _, rfl, upd_same, T6.ne hl, by show 0 < 4; decide, by show 4 < 1000000; decide, by omega, T6.new hl, fun j x H7 hx T7 k7 => ?_⟩
      obtain ⟨z, rfl, hz0, hz1⟩ := pickI (xs := [0, d1, d2, d3]) (lo := 0) (hi := 3000) (by simp; omega) hx
      refine ⟨_, _, rfl, rfl, ?_⟩
      have kk : Keep a H3 H7 := (((k4.trans k5).trans k6).new hl).trans k7
      have e7 := kk _ _ nfa e3
      obtain ⟨_, _, _, hTa, _⟩ := T3.ex
      have r7 : Rds H7 xs rs := hrs.mono fun x ts z => kk _ _ (ne_of z hTa (by intro z; cases z)) z
      -- if
      refine ⟨fun σ H8 => ∃ (mo : Int), 0 ≤ mo ∧ mo ≤ 1003000 ∧ σ = [some (.ref a), some (.int many), some (.int b), some (.ref fp), some (.int (0 + (i : Int))), some (.int mo), v6] ∧ Tape H8 a c (n + 4 + 15 * i + 6) ∧ Keep a H3 H8, ?_, ?_⟩
      · refine ⟨_, rfl, Nat.zero_le _, fun l8 hl8 => ?_⟩
        have u7 := upd_at (o := .lst []) hl8 e7
        have ru : Rds (upd H7 l8 (.lst [])) xs rs := r7.mono fun x ts z => upd_at hl8 z
        have ku : Keep a H3 (upd H7 l8 (.lst [])) := kk.new hl8
        have Tu := T7.new (o := .lst []) hl8
        refine ⟨.list (rs.map rdD), .list [], .lst (SqL.of u7) (rds_dp ru), .lst (SqL.of upd_same) .nil, rds_shaped rs, rds_shaped [], _, rfl, ?_⟩
        cases hrs' : rs with
        | nil => exact iteF (iteF ⟨b + z, by omega, by omega, rfl, Tu.mono (by omega), ku⟩)
        | cons r0 rt =>
          refine iteT ⟨_, rfl, a, c, 4, _, rfl, by omega, by omega, by omega, Tu, fun d4 H9 d40 d41 T9 k9 => ⟨rfl, _, rfl, ite2 (fun _ => ?_) (fun _ => ⟨b + z, by omega, by omega, rfl, T9.mono (by omega), ku.trans k9⟩)⟩⟩
          have e9 := k9 _ _ nfa u7
          have hxl : xs.length = rs.length := hrs.len
          refine ⟨_, rfl, _, rfl, a, c, fp, xs, _, rfl, e9, nfa, by rw [hxl, hrs']; exact Nat.succ_pos _, by omega, by omega, T9, fun j x H10 hx T10 k10 => ?_⟩
          have k39 : Keep a H3 H10 := (ku.trans k9).trans k10
          have r10 : Rds H10 xs rs := hrs.mono fun x ts z => k39 _ _ (ne_of z hTa (by intro z; cases z)) z
          obtain ⟨ad, r, rfl, hrj, had⟩ := r10.at hx
          exact ⟨ad, _, 0, _, rfl, rfl, SqT.of had, atI_nat (j := 0) rfl, r.m, (hall r (List.mem_of_getElem? hrj)).1, (hall r (List.mem_of_getElem? hrj)).2, rfl, T10.mono (by omega), k39⟩
      rintro σ H8 ⟨mo, hmo, hmo1, rfl, T8, k8⟩
      -- number
      refine ⟨_, rfl, _, rfl, a, c, 30, _, rfl, by omega, by omega, by omega, T8, fun f1 H9 f10 f11 T9 k9 => ?_⟩
      refine ⟨_, rfl, a, c, 600, _, rfl, by omega, by omega, by omega, T9, fun f2 H10 f20 f21 T10 k10 => ?_⟩
      refine ⟨_, rfl, a, c, 4096, _, rfl, by omega, by omega, by omega, T10, fun f3 H11 f30 f31 T11 k11 => ⟨by show 5 ≤ sizeLine; decide, fun l2 hl2 => ?_⟩⟩
      refine ⟨a, c, l2, _, _, rfl, upd_same, T11.ne hl2, by show 0 < 5; decide, by show 5 < 1000000; decide, by omega, T11.new hl2, fun j2 x2 H12 hx2 T12 k12 => ?_⟩
      obtain ⟨nu, rfl, hnu0, hnu1⟩ := pickI (xs := [0, 4095, f1, f2, f3]) (lo := 0) (hi := 5000) (by simp; omega) hx2
      have kk2 : Keep a H3 H12 := k8.trans ((((k9.trans k10).trans k11).new hl2).trans k12)
      have e12 := kk2 _ _ nfa e3
      -- append
      refine ⟨_, rfl, .inl ⟨rfl, _, SqL.of e12⟩, _, rfl, by show 2 ≤ sizeLine; decide, fun l3 hl3 => ⟨_, rfl, a, c, 2, _, rfl, by omega, by omega, by omega, T12.new hl3, fun dk H13 dk0 dk1 T13 k13 => ?_⟩⟩
      have hd : ∃ (j : Nat) (wq : Bool), dk = (j : Int) ∧ ([.str "water", .str "ice"] : List V)[j]? = some (.str (kindS wq)) := by
        have : dk = 0 ∨ dk = 1 := by omega
        rcases this with rfl | rfl
        · exact ⟨0, true, rfl, rfl⟩
        · exact ⟨1, false, rfl, rfl⟩
      obtain ⟨j3, wq, rfl, hw⟩ := hd
      have l13 := k13 _ _ (T12.ne hl3) (upd_same (H := H12) (a := l3) (o := .lst [.str "water", .str "ice"]))
      refine ⟨l3, _, (j3 : Int), _, rfl, rfl, SqL.of l13, atI_nat hw, _, rfl, by show 3 ≤ sizeLine; decide, fun t ht => ?_⟩
      have k3t : Keep a H3 (upd H13 t (.tup [.int mo, .str (kindS wq), .int nu])) := ((kk2.new hl3).trans k13).new ht
      have et := k3t _ _ nfa e3
      have hxl : xs.length = i := by rw [hrs.len, hlen]
      refine ⟨fp, _, _, rfl, rfl, et, Nat.lt_of_lt_of_le (show xs.length < 1001 by omega) (Nat.le_trans (show 1001 ≤ 100000 by decide) (by decide)), ?_⟩
      have rt : Rds (upd H13 t (.tup [.int mo, .str (kindS wq), .int nu])) xs rs := hrs.mono fun x ts z => k3t _ _ (ne_of z hTa (by intro z; cases z)) z
      have ntf : t ≠ fp := (ne_of_none (((kk2.new hl3).trans k13) _ _ nfa e3) ht).symm
      refine ⟨_, _, _, xs ++ [.ref t], rs ++ [⟨mo, wq, nu⟩], rfl, upd_same, ?_, by rw [List.length_append, hlen]; rfl, ?_, ?_, ?_⟩
      · refine (rt.mono fun x ts z => ?_).app (.cons (r := ⟨mo, wq, nu⟩) (by rw [upd_ne ntf]; exact upd_same) .nil)
        rw [upd_ne (ne_of z et (by intro z; cases z))]; exact z
      · intro r hr
        rcases List.mem_append.mp hr with hr | hr
        · exact hall r hr
        · rw [List.mem_singleton.mp hr]; exact ⟨hmo, hmo1⟩
      · exact ((T13.new ht).upd nfa nfc).mono (by omega)
      · exact fun x o nx e => by rw [upd_ne (ne_of_none e hfp)]; exact k3t x o nx (k3 x o nx e)
    · rintro σ H3 ⟨v4, v5, v6, xs, rs, rfl, e3, hrs, hlen, hall, T3, k3⟩
      exact ⟨_, rfl, q fp rs H3 ⟨xs, e3, hrs⟩ (by omega) hall nfa hfp (T3.mono (by omega)) k3⟩
theorem ok_bounds {f fD fO : Addr} {fd fdD fdO : FuncData} {k : Nat} (F : Fun K "_law_bounds" "_law_bounds" sBounds f fd) (T0 : Txt0 mg) (T : TxtR mg)
    (F_law_draw : Fun K "_law_draw" "_law_draw" sDraw fD fdD) (g_law_draw : mg "_law_draw" = some (.ref fD)) (b_law_draw : Binds K fdD ["_law_feed_here", "_law_many"] [])
    (F_law_of : Fun K "_law_of" "_law_of" sOf fO fdO) (g_law_of : mg "_law_of" = some (.ref fO)) (b_law_of : Binds K fdO ["_law_feed_here", "_law_some"] []) :
    FnOk P w K mg base CX0 (k + 3) f fd ["_law_feed_here"] spBounds := by
  have G_law_draw : FnOk P w K mg base CX0 (k + 2) fD fdD ["_law_feed_here", "_law_many"] spDraw := ok_draw F_law_draw T0
  have G_law_of : FnOk P w K mg base CX0 (k + 2) fO fdO ["_law_feed_here", "_law_some"] spPick := ok_of F_law_of T0 F_law_draw g_law_draw b_law_draw
  refine F.ok scBounds (fun vs H Q E h => ?_) (fun cdv A outer s H vs Q E hr h => ?_)
  · obtain ⟨a, c, n, rfl, _⟩ := h
    rfl
  · obtain ⟨a, c, n, rfl, hn, hT, q⟩ := h
    have hr_law_draw := hr
    have hr_law_of := hr
    refine ⟨_,
      (pss_cons (ps_set (i := 1) scBounds.nd rfl (.inl rfl) (pe_call G_law_of hr_law_of (by rfl) g_law_of F_law_of.kp b_law_of .nil pass0 (pa_cons (pv 0) (pa_cons (pe_lst (pa_cons pe_int (pa_cons pe_int (pa_cons pe_int (pa_cons (pe_call G_law_draw hr_law_draw (by rfl) g_law_draw F_law_draw.kp b_law_draw .nil pass0 (pa_cons (pv 0) (pa_cons pe_int pa_nil))) pa_nil))))) pa_nil))))
      (pss_cut (ps_set (i := 2) scBounds.nd rfl (.inl rfl) (pe_callB cr_sorted (by rfl) T.msorted (by decide +kernel) (pa_cons (pe_lc (own := [("_law_k", 4)]) (g := gName 4) (tt := tYes) rfl scBounds.nd (pi_range1 (by rfl) T.mrange (pa_cons pe_int pa_nil)) (blkOk_by (N := NBounds) (own := [("_law_k", 4)]) (sc := defScope sBounds) (by decide +kernel)) (fun _ _ _ _ _ => pg_name (i := 4) scBounds.nd rfl (Or.inl rfl)) (fun _ _ _ _ _ => pts_nil) (fun _ _ _ _ _ => (pe_op op_add pe_int (pe_call G_law_draw hr_law_draw (by rfl) g_law_draw F_law_draw.kp b_law_draw .nil pass0 (pa_cons (pv 0) (pa_cons (pe_call G_law_of hr_law_of (by rfl) g_law_of F_law_of.kp b_law_of .nil pass0 (pa_cons (pv 0) (pa_cons (pe_lst (pa_cons pe_int (pa_cons pe_int (pa_cons pe_int pa_nil)))) pa_nil))) pa_nil)))))) pa_nil)))
      (pss_cut (ps_set (i := 3) scBounds.nd rfl (.inl rfl) (pe_callB cr_sorted (by rfl) T.msorted (by decide +kernel) (pa_cons (pe_lc (own := [("_law_k", 4)]) (g := gName 4) (tt := tYes) rfl scBounds.nd (pi_range1 (by rfl) T.mrange (pa_cons pe_int pa_nil)) (blkOk_by (N := NBounds) (own := [("_law_k", 4)]) (sc := defScope sBounds) (by decide +kernel)) (fun _ _ _ _ _ => pg_name (i := 4) scBounds.nd rfl (Or.inl rfl)) (fun _ _ _ _ _ => pts_nil) (fun _ _ _ _ _ => (pe_op op_add pe_int (pe_call G_law_draw hr_law_draw (by rfl) g_law_draw F_law_draw.kp b_law_draw .nil pass0 (pa_cons (pv 0) (pa_cons (pe_call G_law_of hr_law_of (by rfl) g_law_of F_law_of.kp b_law_of .nil pass0 (pa_cons (pv 0) (pa_cons (pe_lst (pa_cons pe_int (pa_cons pe_int (pa_cons pe_int pa_nil)))) pa_nil))) pa_nil)))))) pa_nil)))
      (pss_one (ps_ret (pe_op op_cat (pe_op op_cat (pe_lst (pa_cons (pv 1) pa_nil)) (pv 2)) (pv 3)))))))
      , ?_⟩
    refine ⟨_, rfl, _, rfl, a, c, 90, n, rfl, by omega, by omega, by omega, hT, fun d1 H1 d10 d11 T1 k1 => ⟨by show 4 ≤ sizeLine; decide, fun l hl => ?_⟩⟩
    refine ⟨a, c, l, _, n + 1, rfl, upd_same, T1.ne hl, by show 0 < 4; decide, by show 4 < 1000000; decide, by omega, T1.new hl, fun j x H2 hx T2 k2 => ?_⟩
    obtain ⟨lag, rfl, hl0, hl1⟩ := pickI (xs := [0, 60, 1440, d1]) (lo := 0) (hi := 1440) (by simp; omega) hx
    have k02 : Keep a H H2 := (k1.new hl).trans k2
    -- waters
    refine ⟨fun σ H3 => ∃ (p : Addr) (u v : Int), σ = [some (.ref a), some (.int lag), some (.ref p), none, none] ∧ H3 p = some (.lst [.int u, .int v]) ∧ 1 ≤ u ∧ 1 ≤ v ∧ p ≠ a ∧ Tape H3 a c (n + 6) ∧ Keep a H H3, ?_, ?_⟩
    · refine ⟨2, rfl, by decide, by decide, fun D hD => ?_⟩
      have nDa : D ≠ a := T2.ne hD
      have nDc : D ≠ c := T2.nec hD
      refine lc_range (lo := 0) (n := 2) (fun i H' => ∃ ys : List Int, ys.length = i ∧ (∀ y ∈ ys, 1 ≤ y) ∧ H' D = some (.lst (ys.map V.int)) ∧ Tape H' a c (n + 2 + 2 * i) ∧ Keep a H H')
        ⟨[], rfl, fun y hy => (by cases hy), upd_same, T2.new hD, k02.new hD⟩ ?_ ?_
      · rintro i H' hi ⟨ys, ly, lo, eD, Ti, ki⟩
        have hD0 : H D = none := by
          cases e : H D with
          | none => rfl
          | some o => have := k02 D o nDa e; rw [hD] at this; cases this
        refine ⟨rfl, _, rfl, _, rfl, by show 3 ≤ sizeLine; decide, fun l5 hl5 => ?_⟩
        refine ⟨a, c, l5, _, _, rfl, upd_same, Ti.ne hl5, by show 0 < 3; decide, by show 3 < 1000000; decide, by omega, Ti.new hl5, fun j x H5 hx T5 k5 => ?_⟩
        obtain ⟨z, rfl, hz0, hz1⟩ := pickI (xs := [30, 500, 4095]) (lo := 1) (hi := 4095) (by simp) hx
        refine ⟨a, c, z, _, rfl, by omega, by omega, by omega, T5, fun d H6 d0 d1 T6 k6 => ?_⟩
        have k36 : Keep a H' H6 := (Keep.refl.new hl5).trans (k5.trans k6)
        refine ⟨_, _, rfl, rfl, _, k36 _ _ nDa eD, by rw [List.length_map]; exact Nat.lt_of_lt_of_le (show ys.length < 100 by omega) (small_line (by decide)), ys ++ [1 + d], by rw [List.length_append, ly]; rfl, ?_, ?_, ?_, ?_⟩
        · intro y hy
          rcases List.mem_append.mp hy with hy | hy
          · exact lo y hy
          · rw [List.mem_singleton.mp hy]; omega
        · rw [upd_same, List.map_append]; rfl
        · exact (T6.upd nDa nDc).mono (by omega)
        · exact fun x o nx e => by rw [upd_ne (ne_of_none e hD0)]; exact k36 x o nx (ki x o nx e)
      · rintro H' ⟨ys, ly, lo, eD, Ti, ki⟩
        refine ⟨D, ys, rfl, SqL.of eD, by omega, fun zs p perm _ new => ?_⟩
        have lz : zs.length = 2 := by rw [perm.length_eq, ly]
        match zs, lz with
        | [u, v], _ =>
          exact ⟨p, u, v, rfl, upd_same, lo u (perm.mem_iff.mp (by simp)), lo v (perm.mem_iff.mp (by simp)), Ti.ne new, Ti.new new, ki.new new⟩
    rintro σ H3 ⟨pw, u, v, rfl, ew, hu, hv, nwa, T3, k3⟩
    refine ⟨fun σ H4 => ∃ (p : Addr) (u2 v2 : Int), σ = [some (.ref a), some (.int lag), some (.ref pw), some (.ref p), none] ∧ H4 p = some (.lst [.int u2, .int v2]) ∧ H4 pw = some (.lst [.int u, .int v]) ∧ 1 ≤ u2 ∧ 1 ≤ v2 ∧ p ≠ a ∧ Tape H4 a c (n + 10) ∧ Keep a H H4, ?_, ?_⟩
    · refine ⟨2, rfl, by decide, by decide, fun D hD => ?_⟩
      have nDa : D ≠ a := T3.ne hD
      have nDc : D ≠ c := T3.nec hD
      have nDw : pw ≠ D := ne_of_none ew hD
      refine lc_range (lo := 0) (n := 2) (fun i H' => ∃ ys : List Int, ys.length = i ∧ (∀ y ∈ ys, 1 ≤ y) ∧ H' D = some (.lst (ys.map V.int)) ∧ H' pw = some (.lst [.int u, .int v]) ∧ Tape H' a c (n + 6 + 2 * i) ∧ Keep a H H')
        ⟨[], rfl, fun y hy => (by cases hy), upd_same, upd_at hD ew, T3.new hD, k3.new hD⟩ ?_ ?_
      · rintro i H' hi ⟨ys, ly, lo, eD, eW, Ti, ki⟩
        have hD0 : H D = none := by
          cases e : H D with
          | none => rfl
          | some o => have := k3 D o nDa e; rw [hD] at this; cases this
        refine ⟨rfl, _, rfl, _, rfl, by show 3 ≤ sizeLine; decide, fun l5 hl5 => ?_⟩
        refine ⟨a, c, l5, _, _, rfl, upd_same, Ti.ne hl5, by show 0 < 3; decide, by show 3 < 1000000; decide, by omega, Ti.new hl5, fun j x H5 hx T5 k5 => ?_⟩
        obtain ⟨z, rfl, hz0, hz1⟩ := pickI (xs := [12, 30, 4095]) (lo := 1) (hi := 4095) (by simp) hx
        refine ⟨a, c, z, _, rfl, by omega, by omega, by omega, T5, fun d H6 d0 d1 T6 k6 => ?_⟩
        have k36 : Keep a H' H6 := (Keep.refl.new hl5).trans (k5.trans k6)
        refine ⟨_, _, rfl, rfl, _, k36 _ _ nDa eD, by rw [List.length_map]; exact Nat.lt_of_lt_of_le (show ys.length < 100 by omega) (small_line (by decide)), ys ++ [1 + d], by rw [List.length_append, ly]; rfl, ?_, ?_, ?_, ?_, ?_⟩
        · intro y hy
          rcases List.mem_append.mp hy with hy | hy
          · exact lo y hy
          · rw [List.mem_singleton.mp hy]; omega
        · rw [upd_same, List.map_append]; rfl
        · rw [upd_ne nDw]; exact k36 _ _ nwa eW
        · exact (T6.upd nDa nDc).mono (by omega)
        · exact fun x o nx e => by rw [upd_ne (ne_of_none e hD0)]; exact k36 x o nx (ki x o nx e)
      · rintro H' ⟨ys, ly, lo, eD, eW, Ti, ki⟩
        refine ⟨D, ys, rfl, SqL.of eD, by omega, fun zs p perm _ new => ?_⟩
        have lz : zs.length = 2 := by rw [perm.length_eq, ly]
        match zs, lz with
        | [u2, v2], _ =>
          exact ⟨p, u2, v2, rfl, upd_same, upd_at new eW, lo u2 (perm.mem_iff.mp (by simp)), lo v2 (perm.mem_iff.mp (by simp)), Ti.ne new, Ti.new new, ki.new new⟩
    rintro σ H4 ⟨pi, u2, v2, rfl, ei, ew4, hu2, hv2, nia, T4, k4⟩
    refine ⟨_, rfl, by show 1 ≤ sizeLine; decide, fun l1 n1 => ?_⟩
    refine ⟨_, rfl, _, _, _, _, rfl, rfl, upd_same, upd_at n1 ew4, by show 3 ≤ sizeLine; decide, fun l2 n2 => ?_⟩
    refine ⟨_, rfl, _, _, _, _, rfl, rfl, upd_same, upd_at n2 (upd_at n1 ei), by show 5 ≤ sizeLine; decide, fun l3 n3 => ?_⟩
    exact q l3 ⟨lag, u, v, u2, v2⟩ _ upd_same hl0 hl1 hu hv hu2 hv2 (((T4.new n1).new n2).ne n3) ((((T4.new n1).new n2).new n3).mono (by omega)) (((k4.new n1).new n2).new n3)
end
abbrev sLast : Stmt := topS 24
abbrev NLast : List Str := ["_law_rows", "_law_moment", "_law_best", "_law_when", "_law_number"]
theorem scLast : FnScope NLast ["_law_rows", "_law_moment"] (defScope sLast) := ⟨rfl, rfl, rfl, by decide +kernel, rfl, by decide +kernel, by decide +kernel⟩
abbrev sLStand : Stmt := topS 25
abbrev NLStand : List Str := ["_law_bounds_here", "_law_came", "_law_moment", "_law_water", "_law_ice", "_law_row"]
theorem scLStand : FnScope NLStand ["_law_bounds_here", "_law_came", "_law_moment"] (defScope sLStand) := ⟨rfl, rfl, rfl, by decide +kernel, rfl, by decide +kernel, by decide +kernel⟩
/-! ### the last pair of a minute, by the law's own walk -/
inductive Prs (H : Hp) : List V → List (Int × Int) → Prop
  | nil : Prs H [] []
  | cons {a : Addr} {x : Int × Int} {xs : List V} {qs : List (Int × Int)} : H a = some (.tup [.int x.1, .int x.2]) → Prs H xs qs → Prs H (.ref a :: xs) (x :: qs)
theorem Prs.len {H : Hp} {xs : List V} {qs : List (Int × Int)} (h : Prs H xs qs) : xs.length = qs.length := by
  induction h with
  | nil => rfl
  | cons _ _ ih => rw [List.length_cons, List.length_cons, ih]
theorem Prs.at {H : Hp} {xs : List V} {qs : List (Int × Int)} (h : Prs H xs qs) : ∀ {i : Nat} {y : V}, xs[i]? = some y → ∃ a x, y = .ref a ∧ qs[i]? = some x ∧ H a = some (.tup [.int x.1, .int x.2]) := by
  induction h with
  | nil => intro i y e; cases e
  | cons e _ ih =>
    intro i y z
    cases i with
    | zero => cases z; exact ⟨_, _, rfl, rfl, e⟩
    | succ i => exact ih z
theorem Prs.mono {H H' : Hp} {xs : List V} {qs : List (Int × Int)} (h : Prs H xs qs) (s : ∀ a ts, H a = some (.tup ts) → H' a = some (.tup ts)) : Prs H' xs qs := by
  induction h with
  | nil => exact .nil
  | cons e _ ih => exact .cons (s _ _ e) ih
theorem Prs.app {H : Hp} {xs ys : List V} {qs ss : List (Int × Int)} (h : Prs H xs qs) (h2 : Prs H ys ss) : Prs H (xs ++ ys) (qs ++ ss) := by
  induction h with
  | nil => exact h2
  | cons e _ ih => exact .cons e ih
def lStep (m : Int) (s : Option (Int × Int)) (x : Int × Int) : Option (Int × Int) := if x.1 ≤ m ∧ (s = none ∨ ∃ b, s = some b ∧ x.1 ≥ b.1) then some x else s
def lFold (m : Int) (qs : List (Int × Int)) : Option (Int × Int) := qs.foldl (lStep m) none
def lastOf (qs : List (Int × Int)) (m : Int) : Int := match lFold m qs with | none => 0 | some x => x.2
theorem lFold_succ {m : Int} {qs : List (Int × Int)} {i : Nat} {x : Int × Int} (h : qs[i]? = some x) : lFold m (qs.take (i + 1)) = lStep m (lFold m (qs.take i)) x := by
  unfold lFold
  rw [List.take_succ, h, List.foldl_append]
  rfl
def BestV (H : Hp) (v : V) (s : Option (Int × Int)) : Prop := (s = none ∧ v = .non) ∨ (∃ x t, s = some x ∧ v = .ref t ∧ H t = some (.tup [.int x.1, .int x.2]))
theorem BestV.same {H H' : Hp} {v : V} {s : Option (Int × Int)} (h : BestV H v s) (z : Same H H') : BestV H' v s := by
  rcases h with h | ⟨x, t, e1, e2, e3⟩
  · exact .inl h
  · exact .inr ⟨x, t, e1, e2, z _ _ e3⟩
def prOf (d : Int) (r : Rd) : Int × Int := (r.m + d, r.n)
/-- both walks come to the same number -/
theorem last_num (w : Bool) (d M : Int) : ∀ (rs : List Rd), (∀ r ∈ rs, 0 ≤ r.m) → ∀ (s : Option (Int × Int)) (p : Int × Int), ((s = none ∧ p = (0, 0)) ∨ s = some (p.1 + d, p.2)) →
    (match ((rs.filter fun r => r.w == w).map (prOf d)).foldl (lStep M) s with | none => (0 : Int) | some x => x.2) = (rs.foldl (nStep w (M - d)) p).2
  | [], _, s, p, h => by
    rcases h with ⟨rfl, rfl⟩ | rfl <;> rfl
  | r :: t, hall, s, p, h => by
    have h0 := hall r List.mem_cons_self
    have ht := fun z hz => hall z (List.mem_cons_of_mem _ hz)
    rw [List.foldl_cons]
    by_cases hw : r.w = w
    · have hf : (r :: t).filter (fun r => r.w == w) = r :: t.filter (fun r => r.w == w) := List.filter_cons_of_pos (by simp [hw])
      rw [hf, List.map_cons, List.foldl_cons]
      by_cases c : r.m + d ≤ M ∧ p.1 ≤ r.m
      · have e1 : nStep w (M - d) p r = (r.m, r.n) := if_pos ⟨hw, c.2, by omega⟩
        have e2 : lStep M s (prOf d r) = some (r.m + d, r.n) := by
          refine if_pos ⟨c.1, ?_⟩
          rcases h with ⟨rfl, rfl⟩ | rfl
          · exact .inl rfl
          · refine .inr ⟨_, rfl, ?_⟩
            show r.m + d ≥ p.1 + d
            omega
        rw [e1, e2]
        exact last_num w d M t ht _ _ (.inr rfl)
      · have e1 : nStep w (M - d) p r = p := if_neg fun z => c ⟨by have := z.2.2; omega, z.2.1⟩
        have e2 : lStep M s (prOf d r) = s := by
          refine if_neg fun z => c ⟨z.1, ?_⟩
          rcases h with ⟨rfl, rfl⟩ | rfl
          · exact h0
          · rcases z.2 with z2 | ⟨b, z2, z3⟩
            · cases z2
            · cases z2
              have : r.m + d ≥ p.1 + d := z3
              omega
        rw [e1, e2]
        exact last_num w d M t ht _ _ h
    · have hf : (r :: t).filter (fun r => r.w == w) = t.filter (fun r => r.w == w) := List.filter_cons_of_neg (by simp [hw])
      have e1 : nStep w (M - d) p r = p := if_neg fun z => hw z.1
      rw [hf, e1]
      exact last_num w d M t ht _ _ h
theorem lastOf_num {w : Bool} {d M : Int} {rs : List Rd} (h : ∀ r ∈ rs, 0 ≤ r.m) : lastOf ((rs.filter fun r => r.w == w).map (prOf d)) M = numAt rs w (M - d) :=
  last_num w d M rs h none (0, 0) (.inl ⟨rfl, rfl⟩)
theorem filt_succ {w : Bool} {rs : List Rd} {i : Nat} {r : Rd} (h : rs[i]? = some r) : (rs.take (i + 1)).filter (fun r => r.w == w) = (rs.take i).filter (fun r => r.w == w) ++ (if r.w = w then [r] else []) := by
  rw [List.take_succ, h, List.filter_append]
  by_cases c : r.w = w
  · rw [if_pos c]
    show _ ++ [r].filter _ = _
    rw [List.filter_cons_of_pos (by simp [c])]
    rfl
  · rw [if_neg c]
    show _ ++ [r].filter _ = _
    rw [List.filter_cons_of_neg (by simp [c])]
    rfl
def spLast : Sp := fun vs H Q _ => ∃ (p : Addr) (xs : List V) (qs : List (Int × Int)) (m : Int), vs = [.ref p, .int m] ∧ H p = some (.lst xs) ∧ Prs H xs qs ∧ ∀ H', Same H H' → Q (.int (lastOf qs m)) H'
def spLStand : Sp := fun vs H Q _ => ∃ (b p : Addr) (g : Gg) (rs : List Rd) (m : Int), vs = [.ref b, .ref p, .int m] ∧ H b = some (.lst [.int g.lag, .int g.high, .int g.top, .int g.thin, .int g.thick]) ∧ RdsAt H p rs ∧ rs.length ≤ 1000 ∧ (∀ r ∈ rs, 0 ≤ r.m) ∧
  ∀ H', Same H H' → Q (.str (standG g rs m)) H'
section
variable {P : Program} {w : World} {K : PySem.W.Frag} {mg : Str → Option Value} {base : Heap} {C : Addr}
theorem ok_last {f : Addr} {fd : FuncData} {k : Nat} (F : Fun K "_law_last" "_law_last" sLast f fd) : FnOk P w K mg base CX0 (k + 1) f fd ["_law_rows", "_law_moment"] spLast := by
  refine F.ok scLast (fun vs H Q E h => ?_) (fun cdv A outer s H vs Q E hr h => ?_)
  · obtain ⟨p, xs, qs, m, rfl, _⟩ := h
    rfl
  · obtain ⟨p, xs, qs, m, rfl, hp, hq, q⟩ := h
    refine ⟨_,
      (pss_cons (ps_set (i := 2) scLast.nd rfl (.inl rfl) pe_non)
      (pss_cons (ps_for PassesOwn.never rfl (pi_list (pv 0)) (pg_tup rfl (pgs_cons (pg_name (i := 3) scLast.nd rfl (.inl rfl)) (pgs_cons (pg_name (i := 4) scLast.nd rfl (.inl rfl)) pgs_nil)))
      (pss_one (ps_if (PW.pt (pw_and (pt_cmpR op_le (pv 3) (pv 1) (nomark _)) (pw_and1 (PW.pt (pw_or (pt_cmpR op_isN (pv 2) pe_non (nomark _)) (pw_or1 (pt_cmpR op_ge (pv 3) (pe_ix ix_tup (pv 2) pe_int (fun _ _ => rfl)) (nomark _))))))))
      (pss_one (ps_set (i := 2) scLast.nd rfl (.inl rfl) (pe_tup (pa_cons (pv 3) (pa_cons (pv 4) pa_nil)))))
      pss_nil)))
      (pss_one (ps_ret (pe_ifExp (pt_cmpR op_isN (pv 2) pe_non (nomark _)) pe_int (pe_ix ix_tup (pv 2) pe_int (fun _ _ => rfl)))))))
      , ?_⟩
    refine ⟨_, rfl, p, rfl, ⟨_, SqL.of hp⟩, for_list (K := K) (a := p) (xs := xs) (fun j σ H' => ∃ v v3 v4, σ = [some (.ref p), some (.int m), some v, v3, v4] ∧ BestV H' v (lFold m (qs.take j)) ∧ Same H H')
      ⟨_, _, _, rfl, .inl ⟨rfl, rfl⟩, same_refl⟩ (fun j σ H' _ ⟨_, _, _, _, _, z⟩ => SqL.of (z _ _ hp)) ?_ ?_⟩
    · rintro j y σ H' hj ⟨v, v3, v4, rfl, hb, s1⟩
      obtain ⟨a, x, rfl, hx, ha⟩ := hq.at hj
      have es := lFold_succ (m := m) hx
      have ha' := s1 _ _ ha
      refine ⟨a, _, rfl, SqT.of ha', rfl, _, _, rfl, _, _, rfl, rfl, ?_⟩
      have keep : ∀ (hn : ¬ (x.1 ≤ m ∧ (lFold m (qs.take j) = none ∨ ∃ b, lFold m (qs.take j) = some b ∧ x.1 ≥ b.1))), BestV H' v (lFold m (qs.take (j + 1))) := fun hn => by
        have e2 : lStep m (lFold m (qs.take j)) x = lFold m (qs.take j) := if_neg hn
        rw [es, e2]; exact hb
      have take : ∀ (hn : x.1 ≤ m ∧ (lFold m (qs.take j) = none ∨ ∃ b, lFold m (qs.take j) = some b ∧ x.1 ≥ b.1)), lFold m (qs.take (j + 1)) = some x := fun hn => by
        have e2 : lStep m (lFold m (qs.take j)) x = some x := if_pos hn
        rw [es, e2]
      refine ⟨_, rfl, _, rfl, _, _, rfl, rfl, _, rfl, ite2 (fun c1 => ?_) (fun c1 => iteF ⟨_, _, _, rfl, keep fun z => c1 (decide_eq_true z.1), s1⟩)⟩
      have c1' : x.1 ≤ m := of_decide_eq_true c1
      refine ⟨_, rfl, rfl, _, rfl, ite2 (fun c2 => iteT ?_) (fun c2 => ?_)⟩
      · have hn : lFold m (qs.take j) = none := by
          rcases hb with hb | ⟨_, _, _, e, _⟩
          · exact hb.1
          · rw [e] at c2; exact absurd (of_decide_eq_true c2) (by intro z; cases z)
        refine ⟨_, rfl, _, rfl, by show 2 ≤ sizeLine; decide, fun t ht => ?_⟩
        exact ⟨_, _, _, rfl, .inr ⟨x, t, take ⟨c1', .inl hn⟩, rfl, upd_same⟩, s1.trans (same_upd ht)⟩
      · rcases hb with hb | ⟨b, t0, e0, e1, e2⟩
        · exact absurd (decide_eq_true hb.2) c2
        · subst e1
          refine ⟨_, rfl, _, rfl, t0, _, 0, _, rfl, rfl, SqT.of e2, atI_nat (j := 0) rfl, _, _, rfl, rfl, _, rfl, ite2 (fun c3 => ?_) (fun c3 => ?_)⟩
          · refine ⟨_, rfl, _, rfl, by show 2 ≤ sizeLine; decide, fun t ht => ?_⟩
            exact ⟨_, _, _, rfl, .inr ⟨x, t, take ⟨c1', .inr ⟨b, e0, of_decide_eq_true c3⟩⟩, rfl, upd_same⟩, s1.trans (same_upd ht)⟩
          · refine ⟨_, _, _, rfl, keep fun z => ?_, s1⟩
            rcases z.2 with z2 | ⟨b', z2, z3⟩
            · rw [e0] at z2; cases z2
            · rw [e0] at z2; cases z2
              exact c3 (decide_eq_true z3)
    · rintro σ H' ⟨v, v3, v4, rfl, hb, s1⟩
      rw [hq.len, List.take_length] at hb
      refine ⟨_, rfl, rfl, _, rfl, ite2 (fun c => ?_) (fun c => ?_)⟩
      · have e : lastOf qs m = 0 := by
          rcases hb with hb | ⟨_, _, _, e, _⟩
          · unfold lastOf; rw [hb.1]
          · rw [e] at c; exact absurd (of_decide_eq_true c) (by intro z; cases z)
        rw [e] at q
        exact q _ s1
      · rcases hb with hb | ⟨b, t0, e0, e1, e2⟩
        · exact absurd (decide_eq_true hb.2) c
        · subst e1
          have e : lastOf qs m = b.2 := by unfold lastOf; rw [e0]
          rw [e] at q
          exact ⟨_, rfl, t0, _, 1, _, rfl, rfl, SqT.of e2, atI_nat (j := 1) rfl, q _ s1⟩
theorem ok_lstand {f fL : Addr} {fd fdL : FuncData} {k : Nat} (F : Fun K "_law_stand" "_law_stand" sLStand f fd)
    (F_law_last : Fun K "_law_last" "_law_last" sLast fL fdL) (g_law_last : mg "_law_last" = some (.ref fL)) (b_law_last : Binds K fdL ["_law_rows", "_law_moment"] []) :
    FnOk P w K mg base CX0 (k + 2) f fd ["_law_bounds_here", "_law_came", "_law_moment"] spLStand := by
  have G_law_last : FnOk P w K mg base CX0 (k + 1) fL fdL ["_law_rows", "_law_moment"] spLast := ok_last F_law_last
  refine F.ok scLStand (fun vs H Q E h => ?_) (fun cdv A outer s H vs Q E hr h => ?_)
  · obtain ⟨b, p, g, rs, m, rfl, _⟩ := h
    rfl
  · obtain ⟨b, p, g, rs, m, rfl, hb, ⟨xs, hp, hrs⟩, hlen, hall, q⟩ := h
    have hr_law_last := hr
    refine ⟨_,
      (pss_cut (ps_set (i := 3) scLStand.nd rfl (.inl rfl) (pe_call G_law_last hr_law_last (by rfl) g_law_last F_law_last.kp b_law_last .nil pass0 (pa_cons (pe_lc (own := [("_law_row", 5)]) (g := gName 5)  rfl scLStand.nd (pi_list (pv 1)) (blkOk_by (N := NLStand) (own := [("_law_row", 5)]) (sc := defScope sLStand) (by decide +kernel)) (fun _ _ _ _ _ => pg_name (i := 5) scLStand.nd rfl (Or.inl rfl)) (fun _ _ _ _ _ => pts_one (pt_cmpR op_eq (pe_ix (r := rIxT K) ix_tup (pv 5) pe_int (fun _ _ => rfl)) pe_str (nomark _))) (fun _ _ _ _ _ => (pe_tup (pa_cons (pe_op op_add (pe_ix (r := rIxT K) ix_tup (pv 5) pe_int (fun _ _ => rfl)) (pe_ix (r := rIxL K) ix_list (pv 0) pe_int (fun _ _ => rfl))) (pa_cons (pe_ix (r := rIxT K) ix_tup (pv 5) pe_int (fun _ _ => rfl)) pa_nil))))) (pa_cons (pv 2) pa_nil))))
      (pss_cut (ps_set (i := 4) scLStand.nd rfl (.inl rfl) (pe_call G_law_last hr_law_last (by rfl) g_law_last F_law_last.kp b_law_last .nil pass0 (pa_cons (pe_lc (own := [("_law_row", 5)]) (g := gName 5)  rfl scLStand.nd (pi_list (pv 1)) (blkOk_by (N := NLStand) (own := [("_law_row", 5)]) (sc := defScope sLStand) (by decide +kernel)) (fun _ _ _ _ _ => pg_name (i := 5) scLStand.nd rfl (Or.inl rfl)) (fun _ _ _ _ _ => pts_one (pt_cmpR op_eq (pe_ix (r := rIxT K) ix_tup (pv 5) pe_int (fun _ _ => rfl)) pe_str (nomark _))) (fun _ _ _ _ _ => (pe_tup (pa_cons (pe_ix (r := rIxT K) ix_tup (pv 5) pe_int (fun _ _ => rfl)) (pa_cons (pe_ix (r := rIxT K) ix_tup (pv 5) pe_int (fun _ _ => rfl)) pa_nil))))) (pa_cons (pv 2) pa_nil))))
      (pss_cons (ps_if (pt_cmpR op_ge (pv 3) (pe_ix ix_list (pv 0) pe_int (fun _ _ => rfl)) (nomark _))
      (pss_one (ps_ret pe_str))
      pss_nil)
      (pss_cons (ps_if (pt_cmpR op_ge (pv 4) (pe_ix ix_list (pv 0) pe_int (fun _ _ => rfl)) (nomark _))
      (pss_one (ps_ret pe_str))
      pss_nil)
      (pss_one (ps_ret (pe_ifExp (PW.pt (pw_or (pt_cmpR op_ge (pv 3) (pe_ix ix_list (pv 0) pe_int (fun _ _ => rfl)) (nomark _)) (pw_or1 (pt_cmpR op_ge (pv 4) (pe_ix ix_list (pv 0) pe_int (fun _ _ => rfl)) (nomark _))))) pe_str pe_str)))))))
      , ?_⟩
    have hxl := hrs.len
    refine ⟨fun σ H1 => σ = [some (.ref b), some (.ref p), some (.int m), some (.int (numAt rs true (m - g.lag))), none, none] ∧ Same H H1, ?_, ?_⟩
    · refine ⟨_, rfl, p, rfl, ⟨_, SqL.of hp⟩, fun D hD => ?_⟩
      refine lc_list (K := K) (a := p) (xs := xs) (fun i H' => ∃ ys, H' D = some (.lst ys) ∧ Prs H' ys (((rs.take i).filter fun r => r.w == true).map (prOf g.lag)) ∧ ys.length ≤ i ∧ Same H H')
        ⟨[], upd_same, .nil, Nat.le_refl _, same_upd hD⟩ (fun i H' _ ⟨_, _, _, _, z⟩ => SqL.of (z _ _ hp)) ?_ ?_
      · rintro i y H' hy ⟨ys, eD, hys, ly, si⟩
        obtain ⟨a, r, rfl, hr2, ha⟩ := hrs.at hy
        have ha' := si _ _ ha
        have hi : i < xs.length := (List.getElem?_eq_some_iff.mp hy).1
        refine ⟨rfl, _, rfl, a, _, 1, _, rfl, rfl, SqT.of ha', atI_nat (j := 1) rfl, rfl, _, rfl, ite2 (fun c => ?_) (fun c => ?_)⟩
        · have ew : r.w = true := kindS_inj.mp (V.str.inj (of_decide_eq_true c))
          refine ⟨_, rfl, a, _, 0, _, rfl, rfl, SqT.of ha', atI_nat (j := 0) rfl, _, rfl, b, _, 0, _, rfl, rfl, SqL.of (si _ _ hb), atI_nat (j := 0) rfl, _, _, rfl, rfl, _, rfl, a, _, 2, _, rfl, rfl, SqT.of ha', atI_nat (j := 2) rfl, by show 2 ≤ sizeLine; decide, fun t ht => ?_⟩
          have eD' := upd_at (o := .tup [.int (r.m + g.lag), .int r.n]) ht eD
          have ntD : t ≠ D := (ne_of_none eD ht).symm
          refine ⟨_, eD', Nat.lt_of_lt_of_le (show ys.length < 1001 by omega) (Nat.le_trans (show 1001 ≤ 100000 by decide) (by decide)), ys ++ [.ref t], upd_same, ?_, by rw [List.length_append]; exact Nat.succ_le_succ ly, fun x o e => ?_⟩
          · rw [filt_succ hr2, if_pos ew, List.map_append]
            refine (hys.mono fun x ts z => ?_).app (.cons (by rw [upd_ne ntD]; exact upd_same) .nil)
            rw [upd_ne (ne_of z eD (by intro z; cases z))]; exact upd_at ht z
          · rw [upd_ne (ne_of_none e hD)]
            exact upd_at ht (si _ _ e)
        · have ew : ¬ r.w = true := fun z => c (decide_eq_true (congrArg V.str (kindS_inj.mpr z)))
          refine ⟨ys, eD, ?_, by omega, si⟩
          rw [filt_succ hr2, if_neg ew, List.append_nil]
          exact hys
      · rintro H' ⟨ys, eD, hys, ly, si⟩
        rw [hxl, List.take_length] at hys
        refine ⟨_, rfl, D, ys, _, m, rfl, eD, hys, fun H2 s2 => ?_⟩
        rw [lastOf_num hall]
        exact ⟨rfl, si.trans s2⟩
    rintro σ H1 ⟨rfl, s1⟩
    refine ⟨fun σ H2 => σ = [some (.ref b), some (.ref p), some (.int m), some (.int (numAt rs true (m - g.lag))), some (.int (numAt rs false m)), none] ∧ Same H H2, ?_, ?_⟩
    · refine ⟨_, rfl, p, rfl, ⟨_, SqL.of (s1 _ _ hp)⟩, fun D hD => ?_⟩
      refine lc_list (K := K) (a := p) (xs := xs) (fun i H' => ∃ ys, H' D = some (.lst ys) ∧ Prs H' ys (((rs.take i).filter fun r => r.w == false).map (prOf 0)) ∧ ys.length ≤ i ∧ Same H H')
        ⟨[], upd_same, .nil, Nat.le_refl _, s1.trans (same_upd hD)⟩ (fun i H' _ ⟨_, _, _, _, z⟩ => SqL.of (z _ _ hp)) ?_ ?_
      · rintro i y H' hy ⟨ys, eD, hys, ly, si⟩
        obtain ⟨a, r, rfl, hr2, ha⟩ := hrs.at hy
        have ha' := si _ _ ha
        have hi : i < xs.length := (List.getElem?_eq_some_iff.mp hy).1
        refine ⟨rfl, _, rfl, a, _, 1, _, rfl, rfl, SqT.of ha', atI_nat (j := 1) rfl, rfl, _, rfl, ite2 (fun c => ?_) (fun c => ?_)⟩
        · have ew : r.w = false := kindS_inj.mp (V.str.inj (of_decide_eq_true c))
          refine ⟨_, rfl, a, _, 0, _, rfl, rfl, SqT.of ha', atI_nat (j := 0) rfl, _, rfl, a, _, 2, _, rfl, rfl, SqT.of ha', atI_nat (j := 2) rfl, by show 2 ≤ sizeLine; decide, fun t ht => ?_⟩
          have eD' := upd_at (o := .tup [.int r.m, .int r.n]) ht eD
          have ntD : t ≠ D := (ne_of_none eD ht).symm
          refine ⟨_, eD', Nat.lt_of_lt_of_le (show ys.length < 1001 by omega) (Nat.le_trans (show 1001 ≤ 100000 by decide) (by decide)), ys ++ [.ref t], upd_same, ?_, by rw [List.length_append]; exact Nat.succ_le_succ ly, fun x o e => ?_⟩
          · rw [filt_succ hr2, if_pos ew, List.map_append]
            refine (hys.mono fun x ts z => ?_).app (.cons (by rw [upd_ne ntD, upd_same]; show some (HO.tup [.int r.m, .int r.n]) = some (.tup [.int (r.m + 0), .int r.n]); rw [Int.add_zero]) .nil)
            rw [upd_ne (ne_of z eD (by intro z; cases z))]; exact upd_at ht z
          · by_cases exD : x = D
            · subst exD
              exact absurd (s1 _ _ e) (by rw [hD]; intro z; cases z)
            · rw [upd_ne exD]
              exact upd_at ht (si _ _ e)
        · have ew : ¬ r.w = false := fun z => c (decide_eq_true (congrArg V.str (kindS_inj.mpr z)))
          refine ⟨ys, eD, ?_, by omega, si⟩
          rw [filt_succ hr2, if_neg ew, List.append_nil]
          exact hys
      · rintro H' ⟨ys, eD, hys, ly, si⟩
        rw [hxl, List.take_length] at hys
        refine ⟨_, rfl, D, ys, _, m, rfl, eD, hys, fun H2 s2 => ?_⟩
        rw [lastOf_num hall, Int.sub_zero]
        exact ⟨rfl, si.trans s2⟩
    rintro σ H2 ⟨rfl, s2⟩
    have hb2 := s2 _ _ hb
    have q2 := q _ s2
    refine ⟨_, rfl, _, rfl, b, _, 2, _, rfl, rfl, SqL.of hb2, atI_nat (j := 2) rfl, _, _, rfl, rfl, _, rfl, ite2 (fun c1 => ?_) (fun c1 => ?_)⟩
    · have e : standG g rs m = "lost" := if_pos (of_decide_eq_true c1)
      rw [e] at q2
      exact q2
    refine ⟨_, rfl, _, rfl, b, _, 4, _, rfl, rfl, SqL.of hb2, atI_nat (j := 4) rfl, _, _, rfl, rfl, _, rfl, ite2 (fun c2 => ?_) (fun c2 => ?_)⟩
    · have e : standG g rs m = "shut" := (if_neg fun z => c1 (decide_eq_true z)).trans (if_pos (of_decide_eq_true c2))
      rw [e] at q2
      exact q2
    have e0 : standG g rs m = (if numAt rs true (m - g.lag) ≥ g.high ∨ numAt rs false m ≥ g.thin then ("slow" : Str) else ("free" : Str)) := (if_neg fun z => c1 (decide_eq_true z)).trans (if_neg fun z => c2 (decide_eq_true z))
    rw [e0] at q2
    refine ⟨_, rfl, _, rfl, b, _, 1, _, rfl, rfl, SqL.of hb2, atI_nat (j := 1) rfl, _, _, rfl, rfl, _, rfl, ite2 (fun c3 => iteT ?_) (fun c3 => ?_)⟩
    · rw [if_pos (Or.inl (of_decide_eq_true c3))] at q2
      exact q2
    refine ⟨_, rfl, _, rfl, b, _, 3, _, rfl, rfl, SqL.of hb2, atI_nat (j := 3) rfl, _, _, rfl, rfl, _, rfl, ite2 (fun c4 => ?_) (fun c4 => ?_)⟩
    · rw [if_pos (Or.inr (of_decide_eq_true c4))] at q2
      exact q2
    · rw [if_neg (fun z => z.elim (fun z => c3 (decide_eq_true z)) (fun z => c4 (decide_eq_true z)))] at q2
      exact q2
end
abbrev sTInit : Stmt := inClass (topS 2) 0
abbrev NTInit : List Str := ["self", "minute"]
theorem scTInit : FnScope NTInit ["self", "minute"] (defScope sTInit) := ⟨rfl, rfl, rfl, by decide +kernel, rfl, by decide +kernel, by decide +kernel⟩
abbrev sChg : Stmt := inClass (topS 16) 4
abbrev NChg : List Str := ["self", "readings", "minute", "kind", "number"]
theorem scChg : FnScope NChg ["self", "readings"] (defScope sChg) := ⟨rfl, rfl, rfl, by decide +kernel, rfl, by decide +kernel, by decide +kernel⟩
abbrev sLc : Stmt := inClass (topS 16) 3
abbrev NLc : List Str := ["self", "readings", "now", "long", "known", "ahead", "lost", "first", "reading", "minute"]
theorem scLc : FnScope NLc ["self", "readings", "now", "long"] (defScope sLc) := ⟨rfl, rfl, rfl, by decide +kernel, rfl, by decide +kernel, by decide +kernel⟩
/-! ### the first minute at which it is lost -/
theorem filt_take {α : Type} {p : α → Bool} {xs : List α} {i : Nat} {x : α} (h : xs[i]? = some x) : (xs.take (i + 1)).filter p = (xs.take i).filter p ++ (if p x = true then [x] else []) := by
  rw [List.take_succ, h, List.filter_append]
  by_cases c : p x = true
  · rw [if_pos c]
    show _ ++ [x].filter p = _
    rw [List.filter_cons_of_pos c]; rfl
  · rw [if_neg c]
    show _ ++ [x].filter p = _
    rw [List.filter_cons_of_neg c]; rfl
def chg (g : Gg) (rs : List Rd) : List Int := rs.map fun r => if r.w = true then r.m + g.lag else r.m
def knownOf (n : Int) (rs : List Rd) : List Rd := rs.filter fun r => decide (r.m ≤ n)
def lostB (g : Gg) (kn : List Rd) (m : Int) : Bool := decide (numAt kn true (m - g.lag) ≥ g.top)
theorem lost_iff {g : Gg} {rs : List Rd} {m : Int} : V.str (standG g rs m) = V.str "lost" ↔ lostB g rs m = true := by
  have n1 : ¬ (("shut" : Str) = "lost") := by decide +kernel
  have n2 : ¬ (("slow" : Str) = "lost") := by decide +kernel
  have n3 : ¬ (("free" : Str) = "lost") := by decide +kernel
  unfold lostB
  rw [decide_eq_true_eq]
  constructor
  · intro h
    have h := V.str.inj h
    apply Classical.byContradiction
    intro c
    unfold standG standS at h
    rw [if_neg c] at h
    split at h
    · exact n1 h
    · split at h
      · exact n2 h
      · exact n3 h
  · intro h
    exact congrArg V.str (if_pos h)
def lostP (g : Gg) (kn : List Rd) (now : Int) : List Int := (now :: (chg g kn).filter fun m => decide (m > now)).filter (lostB g kn)
def lostL (g : Gg) (kn : List Rd) (now : Int) : List Int := (now :: (kn.filter fun r => r.w == true).map fun r => r.m + g.lag).filter fun m => decide (m ≥ now) && lostB g kn m
theorem nfold_up {w : Bool} {u : Int} : ∀ (rs : List Rd) (s : Int × Int), s.1 ≤ (rs.foldl (nStep w u) s).1
  | [], s => Int.le_refl _
  | r :: t, s => by
    rw [List.foldl_cons]
    refine Int.le_trans ?_ (nfold_up t _)
    unfold nStep
    split
    · rename_i c; exact c.2.1
    · exact Int.le_refl _
theorem nfold_steady {w : Bool} {u u' : Int} : ∀ (rs : List Rd) (s : Int × Int), (rs.foldl (nStep w u) s).1 ≤ u' → u' ≤ u → rs.foldl (nStep w u') s = rs.foldl (nStep w u) s
  | [], s, _, _ => rfl
  | r :: t, s, h, hu => by
    rw [List.foldl_cons, List.foldl_cons]
    rw [List.foldl_cons] at h
    have e : nStep w u' s r = nStep w u s r := by
      by_cases c : r.w = w ∧ s.1 ≤ r.m ∧ r.m ≤ u
      · have e1 : nStep w u s r = (r.m, r.n) := if_pos c
        rw [e1] at h
        have := nfold_up (w := w) (u := u) t (r.m, r.n)
        have h2 : r.m ≤ u' := Int.le_trans this h
        have e2 : nStep w u' s r = (r.m, r.n) := if_pos ⟨c.1, c.2.1, h2⟩
        rw [e1, e2]
      · have e1 : nStep w u s r = s := if_neg c
        have e2 : nStep w u' s r = s := if_neg fun z => c ⟨z.1, z.2.1, Int.le_trans z.2.2 hu⟩
        rw [e1, e2]
    rw [e]
    exact nfold_steady t _ h hu
theorem nfold_from {w : Bool} {u : Int} : ∀ (rs : List Rd) (s : Int × Int), rs.foldl (nStep w u) s = s ∨ ∃ r ∈ rs, r.w = w ∧ (rs.foldl (nStep w u) s).1 = r.m ∧ r.m ≤ u
  | [], s => .inl rfl
  | r :: t, s => by
    rw [List.foldl_cons]
    rcases nfold_from t (nStep w u s r) with h | ⟨q, hq, h1, h2, h3⟩
    · rw [h]
      by_cases c : r.w = w ∧ s.1 ≤ r.m ∧ r.m ≤ u
      · have e1 : nStep w u s r = (r.m, r.n) := if_pos c
        rw [e1]
        exact .inr ⟨r, List.mem_cons_self, c.1, rfl, c.2.2⟩
      · exact .inl (if_neg c)
    · exact .inr ⟨q, List.mem_cons_of_mem _ hq, h1, h2, h3⟩
theorem mem_lostL {g : Gg} {kn : List Rd} {now m : Int} : m ∈ lostL g kn now ↔ (m = now ∨ ∃ r ∈ kn, r.w = true ∧ r.m + g.lag = m) ∧ now ≤ m ∧ lostB g kn m = true := by
  unfold lostL
  rw [List.mem_filter, List.mem_cons, List.mem_map, Bool.and_eq_true, decide_eq_true_eq]
  constructor
  · rintro ⟨h | ⟨r, hr, e⟩, h2, h3⟩
    · exact ⟨.inl h, h2, h3⟩
    · rw [List.mem_filter, beq_iff_eq] at hr
      exact ⟨.inr ⟨r, hr.1, hr.2, e⟩, h2, h3⟩
  · rintro ⟨h | ⟨r, hr, hw, e⟩, h2, h3⟩
    · exact ⟨.inl h, h2, h3⟩
    · exact ⟨.inr ⟨r, by rw [List.mem_filter, beq_iff_eq]; exact ⟨hr, hw⟩, e⟩, h2, h3⟩
theorem mem_lostP {g : Gg} {kn : List Rd} {now m : Int} : m ∈ lostP g kn now ↔ (m = now ∨ (m ∈ chg g kn ∧ now < m)) ∧ lostB g kn m = true := by
  unfold lostP
  rw [List.mem_filter, List.mem_cons, List.mem_filter, decide_eq_true_eq]
theorem lostL_P {g : Gg} {kn : List Rd} {now m : Int} (h : m ∈ lostL g kn now) : m ∈ lostP g kn now := by
  obtain ⟨h1, h2, h3⟩ := mem_lostL.mp h
  refine mem_lostP.mpr ⟨?_, h3⟩
  by_cases e : m = now
  · exact .inl e
  · rcases h1 with h1 | ⟨r, hr, hw, er⟩
    · exact absurd h1 e
    · refine .inr ⟨?_, by omega⟩
      unfold chg
      rw [List.mem_map]
      exact ⟨r, hr, by rw [if_pos hw]; exact er⟩
/-- where it is lost, the law's own walk has a minute no later -/
theorem lostP_L {g : Gg} {kn : List Rd} {now m : Int} (ht : 1 ≤ g.top) (h : m ∈ lostP g kn now) : ∃ y ∈ lostL g kn now, y ≤ m := by
  obtain ⟨h1, h3⟩ := mem_lostP.mp h
  have hnm : now ≤ m := by rcases h1 with h1 | h1 <;> omega
  by_cases e : m = now
  · exact ⟨m, mem_lostL.mpr ⟨.inl e, hnm, h3⟩, Int.le_refl _⟩
  have hl : numAt kn true (m - g.lag) ≥ g.top := of_decide_eq_true h3
  have same : ∀ u', (nFold true (m - g.lag) kn).1 ≤ u' → u' ≤ m - g.lag → numAt kn true u' = numAt kn true (m - g.lag) := fun u' a b => congrArg Prod.snd (nfold_steady kn (0, 0) a b)
  rcases nfold_from (w := true) (u := m - g.lag) kn (0, 0) with z | ⟨r, hr, hw, er, hru⟩
  · have : numAt kn true (m - g.lag) = 0 := congrArg Prod.snd z
    omega
  · have er' : (nFold true (m - g.lag) kn).1 = r.m := er
    by_cases c : now ≤ r.m + g.lag
    · refine ⟨r.m + g.lag, mem_lostL.mpr ⟨.inr ⟨r, hr, hw, rfl⟩, c, ?_⟩, by omega⟩
      have := same (r.m + g.lag - g.lag) (by omega) (by omega)
      unfold lostB
      rw [this]; exact decide_eq_true hl
    · refine ⟨now, mem_lostL.mpr ⟨.inl rfl, Int.le_refl _, ?_⟩, hnm⟩
      have := same (now - g.lag) (by omega) (by omega)
      unfold lostB
      rw [this]; exact decide_eq_true hl
/-- the first such minute -/
def IsFl (g : Gg) (kn : List Rd) (now f : Int) : Prop := f ∈ lostL g kn now ∧ ∀ y ∈ lostL g kn now, f ≤ y
theorem isFl_of {g : Gg} {kn : List Rd} {now f : Int} (ht : 1 ≤ g.top) (h : f ∈ lostP g kn now) (h2 : ∀ y ∈ lostP g kn now, f ≤ y) : IsFl g kn now f := by
  obtain ⟨y, hy, hyf⟩ := lostP_L ht h
  have e : y = f := Int.le_antisymm hyf (h2 y (lostL_P hy))
  exact ⟨e ▸ hy, fun y hy => h2 y (lostL_P hy)⟩
theorem noFl_of {g : Gg} {kn : List Rd} {now : Int} (h : lostP g kn now = []) : lostL g kn now = [] := by
  cases e : lostL g kn now with
  | nil => rfl
  | cons y r =>
    have : y ∈ lostP g kn now := lostL_P (by rw [e]; exact List.mem_cons_self)
    rw [h] at this
    cases this
def laF (m : V) : List (Str × V) := [("minute", m)]
def spTInit (CT : Addr) : Sp := fun vs H Q _ => ∃ (p : Addr) (m : V), vs = [.ref p, m] ∧ H p = some (exo p CT none) ∧ ∀ d H', H d = none → d ≠ p → H' p = some (exo p CT (some d)) → H' d = some (exd d (laF m)) → (∀ x o, x ≠ p → H x = some o → H' x = some o) → Q .non H'
def spChg (C : Addr) : Sp := fun vs H Q _ => ∃ (p q : Addr) (g : Gg) (rs : List Rd), vs = [.ref p, .ref q] ∧ GgAt C H p g ∧ RdsAt H q rs ∧ rs.length ≤ 1000 ∧ ∀ r H', Same H H' → H r = none → H' r = some (.lst ((chg g rs).map V.int)) → Q (.ref r) H'
def spLc (C CT : Addr) : Sp := fun vs H Q E => ∃ (p q : Addr) (g : Gg) (rs : List Rd) (now long : Int), vs = [.ref p, .ref q, .int now, .int long] ∧ GgAt C H p g ∧ RdsAt H q rs ∧ rs.length ≤ 1000 ∧ 1 ≤ g.top ∧
  (∀ H', Same H H' → lostL g (knownOf now rs) now = [] → Q .non H') ∧ (∀ f H', Same H H' → IsFl g (knownOf now rs) now f → ¬ f - long < now → Q (.int (f - long)) H') ∧
  (∀ f d H', Same H H' → IsFl g (knownOf now rs) now f → f - long < now → H' d = some (.xd (laF (.int f))) → E (.ref CT) (some d) H')
abbrev FunDf_Gauge_last_call (K : PySem.W.Frag) (f : Addr) (fd : FuncData) : Prop := FunD K "last_call" "Gauge.last_call" (defArgs sLc) (defBody sLc) (defScope sLc) [.int 120] [] f fd
structure TxtC (mg : Str → Option Value) : Prop where
  mmin : mg "min" = none
theorem ggF_changes (g : Gg) : (ggF g).lookup ("_changes" : Str) = none := ggF_no g (by decide +kernel) (by decide +kernel) (by decide +kernel) (by decide +kernel) (by decide +kernel)
theorem ggF_last (g : Gg) : (ggF g).lookup ("last_call" : Str) = none := ggF_no g (by decide +kernel) (by decide +kernel) (by decide +kernel) (by decide +kernel) (by decide +kernel)
theorem small1001 {n : Nat} (h : n ≤ 1001) : n < sizeLine := Nat.lt_of_le_of_lt h (Nat.lt_of_lt_of_le (show 1001 < 100000 by decide) (by decide))
section
variable {P : Program} {w : World} {K : PySem.W.Frag} {mg : Str → Option Value} {base : Heap} {C CT : Addr}
theorem ok_tinit {f : Addr} {fd : FuncData} {k : Nat} (F : Fun K "__init__" "TooLate.__init__" sTInit f fd) (TB : OexB K CT) (n1 : PySem.W.findIn K (.ref CT) "minute" = some none) : FnOk P w K mg base CX0 (k + 1) f fd ["self", "minute"] (spTInit CT) := by
  refine F.ok scTInit (fun vs H Q E h => ?_) (fun cdv A outer s H vs Q E hr h => ?_)
  · obtain ⟨p, a, rfl, _⟩ := h
    rfl
  · obtain ⟨p, a, rfl, hp, q⟩ := h
    refine ⟨_, pss_one (ps_put (pv 0) (pv 1)), ?_⟩
    refine ⟨_, rfl, _, rfl, p, CT, rfl, TB, n1, .inl ⟨hp, fun d hd ne => ?_⟩⟩
    refine q d _ hd ne upd_same ?_ fun x o n e => ?_
    · rw [upd_ne ne, upd_same]; rfl
    · rw [upd_ne n, upd_ne (ne_of_none e hd)]
      exact e
theorem ok_chg {f : Addr} {fd : FuncData} {k : Nat} (F : Fun K "_changes" "Gauge._changes" sChg f fd) (T : GCl K mg C) (TW : TxtW mg) : FnOk P w K mg base CX0 (k + 1) f fd ["self", "readings"] (spChg C) := by
  refine F.ok scChg (fun vs H Q E h => ?_) (fun cdv A outer s H vs Q E hr h => ?_)
  · obtain ⟨p, q, g, rs, rfl, _⟩ := h
    rfl
  · obtain ⟨p, r, g, rs, rfl, hp, ⟨xs, er, hrs⟩, hl, q⟩ := h
    obtain ⟨tw, mWATER⟩ := TW.mWATER
    refine ⟨_,
      (pss_one (ps_ret (pe_lc (own := [("minute", 2), ("kind", 3), ("number", 4)]) (g := gTup K 3 (gCons (gName 2) (gCons (gName 3) (gCons (gName 4) gNil)))) (tt := tYes) rfl scChg.nd (pi_list (pv 1)) (blkOk_by (N := NChg) (own := [("minute", 2), ("kind", 3), ("number", 4)]) (sc := defScope sChg) (by decide +kernel)) (fun _ _ _ _ _ => pg_tup rfl (pgs_cons (pg_name (i := 2) scChg.nd rfl (Or.inl rfl)) (pgs_cons (pg_name (i := 3) scChg.nd rfl (Or.inl rfl)) (pgs_cons (pg_name (i := 4) scChg.nd rfl (Or.inl rfl)) pgs_nil)))) (fun _ _ _ _ _ => pts_nil) (fun _ _ _ _ _ => (pe_ifExp (pt_cmpR op_eq (pv 3) (pe_glob (v := .str "water") (by rfl) mWATER ⟨_, rfl⟩) (nomark _)) (pe_op op_add (pv 2) (show PE _ _ (tFld K (tVar 0) "lag") from pe_fld (pv 0) rfl)) (pv 2))))))
      , ?_⟩
    obtain ⟨dx, ep⟩ := id hp
    refine ⟨_, rfl, r, rfl, ⟨_, SqL.of er⟩, fun D hD => ?_⟩
    refine lc_list (K := K) (a := r) (xs := xs) (fun i H' => H' D = some (.lst ((chg g (rs.take i)).map V.int)) ∧ Same H H')
      ⟨upd_same, same_upd hD⟩ (fun i H' _ ⟨_, z⟩ => SqL.of (z _ _ er)) ?_ ?_
    · rintro i y H' hy ⟨eD, si⟩
      obtain ⟨a, x, rfl, hx, ha⟩ := hrs.at hy
      have hi : i < xs.length := (List.getElem?_eq_some_iff.mp hy).1
      have hxl := hrs.len
      have fin : ∀ z : Int, z = (if x.w = true then x.m + g.lag else x.m) → (∃ acc, H' D = some (.lst acc) ∧ acc.length < sizeLine ∧ (upd H' D (.lst (acc ++ [.int z])) D = some (.lst ((chg g (rs.take (i + 1))).map V.int)) ∧ Same H (upd H' D (.lst (acc ++ [.int z]))))) := by
        intro z hz
        refine ⟨_, eD, ?_, ?_, fun y o e => by rw [upd_ne (ne_of_none e hD)]; exact si _ _ e⟩
        · unfold chg
          rw [List.length_map, List.length_map, List.length_take]
          exact small1001 (by omega)
        · rw [upd_same]
          unfold chg
          rw [List.take_succ, hx, hz]
          simp
      refine ⟨a, _, rfl, SqT.of (si _ _ ha), rfl, _, _, rfl, _, _, rfl, _, _, rfl, rfl, rfl, ?_⟩
      refine ⟨_, rfl, rfl, _, rfl, ite2 (fun c => ?_) (fun c => ?_)⟩
      · have ew : x.w = true := kindS_inj.mp (V.str.inj (of_decide_eq_true c))
        exact ⟨_, rfl, _, rfl, p, C, dx, _, _, rfl, si _ _ ep, T.cl, T.nL, ggF_lag g, _, _, rfl, rfl, fin _ (if_pos ew).symm⟩
      · have ew : ¬ x.w = true := fun z => c (decide_eq_true (congrArg V.str (kindS_inj.mpr z)))
        exact ⟨_, rfl, fin _ (if_neg ew).symm⟩
    · rintro H' ⟨eD, si⟩
      rw [hrs.len, List.take_length] at eD
      exact q D H' si hD eD
theorem ok_lc {f fT fS fN fG : Addr} {fd fdT fdS fdN fdG : FuncData} {k : Nat} (F : FunDf_Gauge_last_call K f fd) (T : GCl K mg C) (TW : TxtW mg) (TC : TxtC mg) (gCTooLate : mg "TooLate" = some (.ref CT)) (oxTooLate : OexB K CT)
    (iXTooLate : PySem.W.findIn K (.ref CT) "__init__" = some (some (.ref fT))) (tXTooLate : PySem.W.typeIn K (.ref fT) = some (.type "function")) (FT : Fun K "__init__" "TooLate.__init__" sTInit fT fdT) (bXTooLate : Binds K fdT ["self", "minute"] []) (n1 : PySem.W.findIn K (.ref CT) "minute" = some none)
    (mstand : Meth K C "stand" fS) (FS : Fun K "stand" "Gauge.stand" sGStand fS fdS) (bstand : Binds K fdS ["self", "readings", "minute"] [])
    (mchg : Meth K C "_changes" fG) (FG : Fun K "_changes" "Gauge._changes" sChg fG fdG) (bchg : Binds K fdG ["self", "readings"] [])
    (F_number_at : Fun K "_number_at" "_number_at" sNumAt fN fdN) (g_number_at : mg "_number_at" = some (.ref fN)) (b_number_at : Binds K fdN ["readings", "kind", "until"] []) :
    FnOk P w K mg base (L2.CX P w) (k + 4) f fd ["self", "readings", "now", "long"] (spLc C CT) := by
  have Gstand : FnOk P w K mg base CX0 (k + 2) fS fdS ["self", "readings", "minute"] (spStand C) := ok_stand FS T TW F_number_at g_number_at b_number_at
  have Gchg : FnOk P w K mg base CX0 (k + 2) fG fdG ["self", "readings"] (spChg C) := ok_chg FG T TW
  have GXTooLate : FnOk P w K mg base CX0 (k + 1) fT fdT ["self", "minute"] (spTInit CT) := ok_tinit FT oxTooLate n1
  refine F.ok scLc (fun vs H Q E h => ?_) (fun cdv A outer s H vs Q E hr h => ?_)
  · obtain ⟨p, q, g, rs, n, l, rfl, _⟩ := h
    rfl
  · obtain ⟨p, r, g, rs, now, long, rfl, hp, ⟨xs, er, hrs⟩, hl, htop, q0, q1, q2⟩ := h
    obtain ⟨tl, mLOST⟩ := TW.mLOST
    have hrstand : Room (k + 2) _ := hr.mono (by omega)
    have hrchg : Room (k + 2) _ := hr.mono (by omega)
    have hrXTooLate : Room (k + 2) _ := hr.mono (by omega)
    have cstand := T.cl
    have cchg := T.cl
    have T' := T
    have T := TC
    refine ⟨_,
      (pss_cut (ps_set (i := 4) scLc.nd rfl (.inr rfl) (pe_lc (own := [("reading", 8)]) (g := gName 8)  rfl scLc.nd (pi_list (pv 1)) (blkOk_by (N := NLc) (own := [("reading", 8)]) (sc := defScope sLc) (by decide +kernel)) (fun _ _ _ _ _ => pg_name (i := 8) scLc.nd rfl (Or.inl rfl)) (fun _ _ _ _ _ => pts_one (pt_cmpR op_le (pe_ix (r := rIxT K) ix_tup (pv 8) pe_int (fun _ _ => rfl)) (pv 2) (nomark _))) (fun _ _ _ _ _ => (pv 8))))
      (pss_cut (ps_setLc (i := 5) (own := [("minute", 9)]) (g := gName 9)  rfl scLc.nd rfl rfl (sw_true rfl rfl rfl (by decide +kernel)) (pi_list (pe_meth (pv 0) cchg mchg Gchg hrchg bchg .nil pass0 (pa_cons (pv 4) pa_nil))) (blkOk_by (N := NLc) (own := [("minute", 9)]) (sc := defScope sLc) (by decide +kernel)) (fun _ _ _ _ _ => pg_name (i := 9) scLc.nd rfl (Or.inl rfl)) (fun _ _ _ _ _ => pts_one (pt_cmpR op_gt (pv 9) (pv 2) (nomark _))) (fun _ _ _ _ _ => (pv 9)))
      (pss_cut (ps_setLc (i := 6) (own := [("minute", 9)]) (g := gName 9)  rfl scLc.nd rfl rfl (sw_true rfl rfl rfl (by decide +kernel)) (pi_list (pe_lst (pa_cons (pv 2) (StX.pa_star (pv 5) pa_nil)))) (blkOk_by (N := NLc) (own := [("minute", 9)]) (sc := defScope sLc) (by decide +kernel)) (fun _ _ _ _ _ => pg_name (i := 9) scLc.nd rfl (Or.inl rfl)) (fun _ _ _ _ _ => pts_one (pt_cmpR op_eq (pe_meth (pv 0) cstand mstand Gstand hrstand bstand .nil pass0 (pa_cons (pv 4) (pa_cons (pv 9) pa_nil))) (pe_glob (v := .str "lost") (by rfl) mLOST ⟨_, rfl⟩) (nomark _))) (fun _ _ _ _ _ => (pv 9)))
      (pss_cons (ps_if (pt_not (pt_truth (pv 6) (by intro _; rfl)))
      (pss_one (ps_ret pe_non))
      pss_nil)
      (pss_cons (ps_set (i := 7) scLc.nd rfl (.inl rfl) (pe_callB (cr_min rfl) (by rfl) T.mmin (by decide +kernel) (pa_cons (pv 6) pa_nil)))
      (pss_cons (ps_if (pt_cmpR op_lt (pe_op op_sub (pv 7) (pv 3)) (pv 2) (nomark _))
      (pss_one (ps_raise rfl (takes_of rfl rfl rfl rfl) (pmk_oexB oxTooLate iXTooLate tXTooLate GXTooLate hrXTooLate bXTooLate pass0 (by rfl) gCTooLate (by exact (pa_cons (pv 7) pa_nil)))))
      pss_nil)
      (pss_one (ps_ret (pe_op op_sub (pv 7) (pv 3))))))))))
      , ?_⟩
    obtain ⟨dx, ep⟩ := id hp
    have hxl := hrs.len
    -- known
    refine ⟨fun σ H1 => ∃ (kp : Addr) (ys : List V), σ = [some (.ref p), some (.ref r), some (.int now), some (.int long), some (.ref kp), none, none, none, none, none] ∧ H1 kp = some (.lst ys) ∧ Rds H1 ys (knownOf now rs) ∧ Same H H1, ?_, ?_⟩
    · refine ⟨_, rfl, r, rfl, ⟨_, SqL.of er⟩, fun D hD => ?_⟩
      refine lc_list (K := K) (a := r) (xs := xs) (fun i H' => ∃ ys, H' D = some (.lst ys) ∧ Rds H' ys (knownOf now (rs.take i)) ∧ ys.length ≤ i ∧ Same H H')
        ⟨[], upd_same, .nil, Nat.le_refl _, same_upd hD⟩ (fun i H' _ ⟨_, _, _, _, z⟩ => SqL.of (z _ _ er)) ?_ ?_
      · rintro i y H' hy ⟨ys, eD, hys, ly, si⟩
        obtain ⟨a, x, rfl, hx, ha⟩ := hrs.at hy
        have hi : i < xs.length := (List.getElem?_eq_some_iff.mp hy).1
        have ha' := si _ _ ha
        have fl := filt_take (p := fun z : Rd => decide (z.m ≤ now)) hx
        refine ⟨rfl, _, rfl, a, _, 0, _, rfl, rfl, SqT.of ha', atI_nat (j := 0) rfl, _, rfl, _, _, rfl, rfl, _, rfl, ite2 (fun c => ?_) (fun c => ?_)⟩
        · rw [if_pos c] at fl
          refine ⟨_, rfl, _, eD, small1001 (by omega), ys ++ [.ref a], upd_same, ?_, by rw [List.length_append]; exact Nat.succ_le_succ ly, fun z o e => by rw [upd_ne (ne_of_none e hD)]; exact si _ _ e⟩
          unfold knownOf
          rw [fl]
          have nt : ∀ (b : Addr) ts, H' b = some (.tup ts) → upd H' D (.lst (ys ++ [.ref a])) b = some (.tup ts) := fun b ts z => by rw [upd_ne (ne_of z eD (by intro z; cases z))]; exact z
          exact (hys.mono nt).app (.cons (nt _ _ ha') .nil)
        · rw [if_neg c, List.append_nil] at fl
          refine ⟨ys, eD, ?_, by omega, si⟩
          unfold knownOf
          rw [fl]
          exact hys
      · rintro H' ⟨ys, eD, hys, ly, si⟩
        rw [hxl, List.take_length] at hys
        exact ⟨D, ys, rfl, eD, hys, si⟩
    rintro σ H1 ⟨kp, ys, rfl, ek, hys, s1⟩
    have hkl : (knownOf now rs).length ≤ 1000 := Nat.le_trans (List.length_filter_le _ _) hl
    generalize knownOf now rs = kn at hys hkl q0 q1 q2
    have ep1 := s1 _ _ ep
    -- ahead
    refine ⟨fun σ H2 => ∃ (ap : Addr), σ = [some (.ref p), some (.ref r), some (.int now), some (.int long), some (.ref kp), some (.ref ap), none, none, none, none] ∧ H2 ap = some (.lst (((chg g kn).filter fun m => decide (m > now)).map V.int)) ∧ Same H1 H2, ?_, ?_⟩
    · refine ⟨_, rfl, p, dx, _, rfl, ep1, ggF_changes g, _, rfl, p, kp, g, kn, rfl, ⟨dx, ep1⟩, ⟨ys, ek, hys⟩, hkl, fun c Hc sc hcn ec => ⟨c, rfl, ⟨_, SqL.of ec⟩, fun D hD => ?_⟩⟩
      have lch : (chg g kn).length ≤ 1000 := by unfold chg; rw [List.length_map]; exact hkl
      refine lc_list (K := K) (a := c) (xs := (chg g kn).map V.int) (fun i H' => H' D = some (.lst ((((chg g kn).take i).filter fun m => decide (m > now)).map V.int)) ∧ Same Hc H')
        ⟨upd_same, same_upd hD⟩ (fun i H' _ ⟨_, z⟩ => SqL.of (z _ _ ec)) ?_ ?_
      · rintro i y H' hy ⟨eD, si⟩
        rw [List.getElem?_map] at hy
        cases hx : (chg g kn)[i]? with
        | none => rw [hx] at hy; cases hy
        | some x =>
          rw [hx] at hy
          cases hy
          have hi : i < (chg g kn).length := (List.getElem?_eq_some_iff.mp hx).1
          have fl := filt_take (p := fun z : Int => decide (z > now)) hx
          refine ⟨rfl, _, rfl, _, rfl, _, _, rfl, rfl, _, rfl, ite2 (fun c => ?_) (fun c => ?_)⟩
          · rw [if_pos c] at fl
            refine ⟨_, rfl, _, eD, ?_, ?_, fun z o e => by rw [upd_ne (ne_of_none e hD)]; exact si _ _ e⟩
            · rw [List.length_map]
              exact small1001 (Nat.le_trans (List.length_filter_le _ _) (by rw [List.length_take]; omega))
            · rw [upd_same, fl, List.map_append]; rfl
          · rw [if_neg c, List.append_nil] at fl
            exact ⟨by rw [fl]; exact eD, si⟩
      · rintro H' ⟨eD, si⟩
        rw [List.length_map, List.take_length] at eD
        exact ⟨D, rfl, eD, sc.trans si⟩
    rintro σ H2 ⟨ap, rfl, ea, s2⟩
    have lF : ((chg g kn).filter fun m => decide (m > now)).length ≤ 1000 := Nat.le_trans (List.length_filter_le _ _) (by unfold chg; rw [List.length_map]; exact hkl)
    have ep2 := s2 _ _ ep1
    have ek2 := s2 _ _ ek
    have hys2 : Rds H2 ys kn := hys.mono fun a ts z => s2 _ _ z
    -- lost
    refine ⟨fun σ H3 => ∃ (lp : Addr), σ = [some (.ref p), some (.ref r), some (.int now), some (.int long), some (.ref kp), some (.ref ap), some (.ref lp), none, none, none] ∧ H3 lp = some (.lst ((lostP g kn now).map V.int)) ∧ Same H2 H3, ?_, ?_⟩
    · refine ⟨_, rfl, _, rfl, ap, _, rfl, .inr (SqL.of ea), Nat.le_of_lt (small1001 (by rw [List.length_cons, List.length_append, List.length_map]; show _ + 0 + 1 ≤ 1001; omega)), fun l hl2 => ⟨l, rfl, ⟨_, SqL.of upd_same⟩, fun D hD => ?_⟩⟩
      have en : ∀ F : List Int, (V.int now :: (F.map V.int ++ [])) = (now :: F).map V.int := fun F => by simp
      have sl := same_upd (o := .lst (V.int now :: (((chg g kn).filter fun m => decide (m > now)).map V.int ++ []))) hl2
      refine lc_list (K := K) (a := l) (xs := V.int now :: (((chg g kn).filter fun m => decide (m > now)).map V.int ++ [])) (fun i H' => H' D = some (.lst ((((now :: (chg g kn).filter fun m => decide (m > now)).take i).filter (lostB g kn)).map V.int)) ∧ Same (upd H2 l (.lst (V.int now :: (((chg g kn).filter fun m => decide (m > now)).map V.int ++ [])))) H')
        ⟨by rw [List.take_zero]; exact upd_same, same_upd hD⟩ (fun i H' _ ⟨_, z⟩ => SqL.of (z _ _ upd_same)) ?_ ?_
      · rintro i y H' hy ⟨eD, si⟩
        rw [en, List.getElem?_map] at hy
        cases hx : (now :: (chg g kn).filter fun m => decide (m > now))[i]? with
        | none => rw [hx] at hy; cases hy
        | some x =>
          rw [hx] at hy
          cases hy
          have hi : i < (now :: (chg g kn).filter fun m => decide (m > now)).length := (List.getElem?_eq_some_iff.mp hx).1
          rw [List.length_cons] at hi
          have fl := filt_take (p := lostB g kn) hx
          have s23 := sl.trans si
          refine ⟨rfl, _, rfl, p, dx, _, rfl, s23 _ _ ep2, ggF_stand g, _, rfl, _, rfl, p, kp, g, kn, x, rfl, ⟨dx, s23 _ _ ep2⟩, ⟨ys, s23 _ _ ek2, hys2.mono fun a ts z => s23 _ _ z⟩, rfl, _, rfl, ite2 (fun c => ?_) (fun c => ?_)⟩
          · rw [if_pos (lost_iff.mp (of_decide_eq_true c))] at fl
            refine ⟨_, rfl, _, eD, ?_, ?_, fun z o e => by rw [upd_ne (ne_of_none e hD)]; exact si _ _ e⟩
            · rw [List.length_map]
              exact small1001 (Nat.le_trans (List.length_filter_le _ _) (by rw [List.length_take]; omega))
            · rw [upd_same, fl, List.map_append]; rfl
          · rw [if_neg (fun z => c (decide_eq_true (lost_iff.mpr z))), List.append_nil] at fl
            exact ⟨by rw [fl]; exact eD, si⟩
      · rintro H' ⟨eD, si⟩
        rw [en, List.length_map, List.take_length] at eD
        exact ⟨D, rfl, eD, sl.trans si⟩
    rintro σ H3 ⟨lp, rfl, el, s3⟩
    have sAll : Same H H3 := (s1.trans s2).trans s3
    refine ⟨_, rfl, _, .inl ⟨_, SqL.of el, rfl⟩, ?_⟩
    cases hL : lostP g kn now with
    | nil => exact iteT (q0 H3 sAll (noFl_of hL))
    | cons y0 yr =>
      refine iteF ?_
      refine ⟨_, rfl, lp, lostP g kn now, rfl, SqL.of el, by rw [hL]; exact Nat.succ_pos _, fun fm hfm hle => ?_⟩
      have fl := isFl_of htop hfm hle
      refine ⟨_, rfl, _, rfl, _, _, rfl, rfl, _, rfl, _, _, rfl, rfl, _, rfl, ite2 (fun c => ?_) (fun c => ?_)⟩
      · refine ⟨_, rfl, by show 1 ≤ 1000; decide, fun e he => ⟨e, .int fm, rfl, upd_same, fun d H' hd ne ep ed k => ⟨rfl, d, laF (.int fm), ep, ed, ?_, ?_⟩⟩⟩
        · rw [upd_ne ne] at hd
          exact hd
        · refine q2 fm d _ (fun x o ex => ?_) fl (of_decide_eq_true c) upd_same
          have ex3 := sAll _ _ ex
          have nx : x ≠ e := ne_of_none ex3 he
          have nd : x ≠ d := by
            intro z
            rw [z] at ex3
            rw [upd_ne ne, ex3] at hd
            cases hd
          rw [upd_ne nd, del_ne nx]
          exact k x o nx (by rw [upd_ne nx]; exact ex3)
      · exact ⟨_, rfl, _, rfl, _, _, rfl, rfl, q1 fm H3 sAll fl fun z => c (decide_eq_true z)⟩
end
abbrev sFlood : Stmt := topS 26
abbrev NFlood : List Str := ["_law_bounds_here", "_law_came", "_law_now_read", "_law_known", "_law_moments", "_law_lost", "_law_row", "_law_moment"]
theorem scFlood : FnScope NFlood ["_law_bounds_here", "_law_came", "_law_now_read"] (defScope sFlood) := ⟨rfl, rfl, rfl, by decide +kernel, rfl, by decide +kernel, by decide +kernel⟩
abbrev sTold : Stmt := topS 27
abbrev NTold : List Str := ["_law_gauge", "_law_came", "_law_now_read", "_law_lasts", "_law_way", "_law_told_here", "_law_error", "e"]
theorem scTold : FnScope NTold ["_law_gauge", "_law_came", "_law_now_read", "_law_lasts", "_law_way"] (defScope sTold) := ⟨rfl, rfl, rfl, by decide +kernel, rfl, by decide +kernel, by decide +kernel⟩
/-! ### texts of answers -/
theorem small10 {i : Int} (h : i.natAbs < 10000000000) : (Str.ofString (toString i)).length ≤ 11 := by
  have := PySem.int_text_length_le10 (a := i) (k := 10) (by decide) h
  rw [PySem.ofString_length]
  exact this
theorem logs {i : Int} (h : i.natAbs < 10000000000) : i.natAbs.log2 < 1920 := by
  by_cases z : i.natAbs = 0
  · rw [z]; decide
  · exact (Nat.log2_lt z).mpr (Nat.lt_of_lt_of_le h (Nat.le_trans (show 10000000000 ≤ 2 ^ 64 by decide) (Nat.pow_le_pow_right (by decide) (by decide : 64 ≤ 1920))))
theorem line1000 {n : Nat} (h : n ≤ 1000) : n ≤ sizeLine := Nat.le_trans h (by decide)
theorem int_shown {i : Int} (h : i.natAbs < 10000000000) : (PyData.int i).shown.length ≤ sizeLine := by
  rw [PyData.shown]; exact line1000 (Nat.le_trans (small10 h) (by decide))
theorem int_showable {i : Int} (h : i.natAbs < 10000000000) : (PyData.int i).showable = true := by
  rw [PyData.showable]; exact decide_eq_true (logs h)
def lateD (f : Int) : PyData := .tuple [.str "late", .int f, .bool true, .bool false]
theorem late_shaped (f : Int) : SeqAt.shaped (lateD f) = true := by
  show ((PyData.strOk "late" && (true && (true && (true && true)))) && decide _) = true
  rw [show PyData.strOk "late" = true by decide +kernel]
  simp [lateD, PyData.depth, PyData.depthAll]
theorem late_showable {f : Int} (h : f.natAbs < 10000000000) : (lateD f).showable = true := by
  simp [lateD, PyData.showable, PyData.showableAll, logs h]
theorem late_shown {f : Int} (h : f.natAbs < 10000000000) : (lateD f).shown.length ≤ sizeLine := by
  have e : (lateD f).shown = tupleText [reprText "late", Str.ofString (toString f), "True", "False"] := by simp [lateD, PyData.shown, PyData.shownAll]
  rw [e]
  have h1 := PySem.fmt_text [reprText "late", Str.ofString (toString f), "True", "False"]
  have h2 := small10 h
  have h3 : (reprText "late").length = 6 := by decide +kernel
  have h4 : ("True" : Str).length = 4 := rfl
  have h5 : ("False" : Str).length = 5 := rfl
  rw [piled_cons, piled_cons, piled_cons, piled_cons, piled_nil, h3, h4, h5] at h1
  exact line1000 (by omega)
/-- what is due, as data: None, the call, or that it is too late -/
def dueD (g : Gg) (kn : List Rd) (now lasts : Int) (d : PyData) : Prop := (lostL g kn now = [] ∧ d = .none) ∨ ∃ f, IsFl g kn now f ∧ ((¬ f - lasts < now ∧ d = .int (f - lasts)) ∨ (f - lasts < now ∧ d = lateD f))
theorem isFl_one {g : Gg} {kn : List Rd} {now a b : Int} (h : IsFl g kn now a) (h2 : IsFl g kn now b) : a = b := Int.le_antisymm (h.2 _ h2.1) (h2.2 _ h.1)
theorem isFl_some {g : Gg} {kn : List Rd} {now a : Int} (h : IsFl g kn now a) : ¬ lostL g kn now = [] := fun e => by
  have := h.1
  rw [e] at this
  cases this
theorem due_one {g : Gg} {kn : List Rd} {now lasts : Int} {d e : PyData} (h : dueD g kn now lasts d) (h2 : dueD g kn now lasts e) : d = e := by
  rcases h with ⟨h, rfl⟩ | ⟨a, ha, h⟩
  · rcases h2 with ⟨_, rfl⟩ | ⟨b, hb, _⟩
    · rfl
    · exact absurd h (isFl_some hb)
  · rcases h2 with ⟨h2, _⟩ | ⟨b, hb, h2⟩
    · exact absurd h2 (isFl_some ha)
    · have e := isFl_one ha hb
      subst e
      rcases h with ⟨c, rfl⟩ | ⟨c, rfl⟩ <;> rcases h2 with ⟨c2, rfl⟩ | ⟨c2, rfl⟩
      · rfl
      · exact absurd c2 c
      · exact absurd c c2
      · rfl
/-- the flood's minute is bounded -/
theorem isFl_le {g : Gg} {kn : List Rd} {now f : Int} (hl : g.lag ≤ 1440) (hk : ∀ r ∈ kn, r.m ≤ 1003000) (hn : now ≤ 1100000) (h : IsFl g kn now f) : now ≤ f ∧ f ≤ 1100000 := by
  obtain ⟨h1, h2, _⟩ := mem_lostL.mp h.1
  refine ⟨h2, ?_⟩
  rcases h1 with rfl | ⟨r, hr, _, e⟩
  · exact hn
  · have := hk r hr
    omega
def spFlood : Sp := fun vs H Q _ => ∃ (b p : Addr) (g : Gg) (rs : List Rd) (now : Int), vs = [.ref b, .ref p, .int now] ∧ H b = some (.lst [.int g.lag, .int g.high, .int g.top, .int g.thin, .int g.thick]) ∧ RdsAt H p rs ∧ rs.length ≤ 1000 ∧ (∀ r ∈ rs, 0 ≤ r.m) ∧
  (∀ H', Same H H' → lostL g (knownOf now rs) now = [] → Q .non H') ∧ ∀ f H', Same H H' → IsFl g (knownOf now rs) now f → Q (.int f) H'
def spTold (C : Addr) : Sp := fun vs H Q _ => ∃ (x p : Addr) (g : Gg) (rs : List Rd) (now lasts way : Int), vs = [.ref x, .ref p, .int now, .int lasts, .int way] ∧ GgAt C H x g ∧ RdsAt H p rs ∧ rs.length ≤ 1000 ∧ (∀ r ∈ rs, 0 ≤ r.m ∧ r.m ≤ 1003000) ∧ g.lag ≤ 1440 ∧ 1 ≤ g.top ∧
  0 ≤ now ∧ now ≤ 1100000 ∧ 0 ≤ lasts ∧ lasts ≤ 2000000 ∧ ∀ d H', Same H H' → dueD g (knownOf now rs) now lasts d → Q (.str d.shown) H'
def tbTold (C CT : Addr) : WX → TS := fun W D σ H => ∃ (x p : Addr) (g : Gg) (rs : List Rd) (now lasts way : Int), σ = [some (.ref x), some (.ref p), some (.int now), some (.int lasts), some (.int way), some .non, some .non, none] ∧ GgAt C H x g ∧ RdsAt H p rs ∧ rs.length ≤ 1000 ∧ 1 ≤ g.top ∧
  (∀ H', Same H H' → lostL g (knownOf now rs) now = [] → D.nx [some (.ref x), some (.ref p), some (.int now), some (.int lasts), some (.int way), some .non, some .non, none] H') ∧
  (∀ f H', Same H H' → IsFl g (knownOf now rs) now f → ¬ f - lasts < now → D.nx [some (.ref x), some (.ref p), some (.int now), some (.int lasts), some (.int way), some (.int (f - lasts)), some .non, none] H') ∧
  (∀ f d H', Same H H' → IsFl g (knownOf now rs) now f → f - lasts < now → H' d = some (.xd (laF (.int f))) → W (.ref CT) (some d) σ H')
/-- what is asked of the refusal's class -/
structure TCl (K : PySem.W.Frag) (mg : Str → Option Value) (CT : Addr) : Prop where
  gC : mg "TooLate" = some (.ref CT)
  oex : OexB K CT
  xf : XfC K CT
  ec : ExcC K CT
  n1 : PySem.W.findIn K (.ref CT) "minute" = some none
  hit : PySem.W.exmOne K (.ref CT) (.ref CT) = some true
  up : PySem.W.kitOne K (.ref CT) (.type "RuntimeError") = some true
  no : PySem.W.kitOne K (.ref CT) (.type "ValueError") = some false
structure TxtT (mg : Str → Option Value) : Prop where
  mrepr : mg "repr" = none
  misinstance : mg "isinstance" = none
  mRuntimeError : mg "RuntimeError" = none
  mValueError : mg "ValueError" = none
theorem lc_b3 {K : PySem.W.Frag} {f : Addr} {fd : FuncData} (F : FunDf_Gauge_last_call K f fd) : ∃ ds, Vals [.int 120] ds ∧ Binds K fd ["self", "readings", "now", "long"] ds :=
  FunD.binds1 (ps := ["self", "readings", "now", "long"]) F 3 0 (by intro z; cases z) rfl fun _ _ _ _ _ _ _ us its hu hi => match us, its, hu, hi with | [_, _, _], [_], _, _ => ⟨_, rfl, rfl⟩
theorem lc_b4 {K : PySem.W.Frag} {f : Addr} {fd : FuncData} (F : FunDf_Gauge_last_call K f fd) : Binds K fd ["self", "readings", "now", "long"] [] := by
  obtain ⟨ds, r, b⟩ := FunD.binds1 (ps := ["self", "readings", "now", "long"]) F 4 1 (by intro z; cases z) rfl fun _ _ _ _ _ _ _ us its hu hi => match us, its, hu, hi with | [_, _, _, _], [_], _, _ => ⟨_, rfl, rfl⟩
  cases r
  exact b
def kwRev {α : Type} (us _its ws : List α) : List α := us ++ ws.reverse
def kwEnd {α : Type} (us _its ws : List α) : List α := us ++ ws
theorem lc_kb {K : PySem.W.Frag} {f : Addr} {fd : FuncData} (F : FunDf_Gauge_last_call K f fd) : ∃ its : List Value, KBn K fd ["self", "readings", "now", "long"] 1 ["long", "now", "readings"] (fun us ws => kwRev us its ws) (fun vs zs => kwRev vs [.int 120] zs) :=
  FunD.kbindsD F 1 ["long", "now", "readings"] kwRev (by intro z; cases z) (fun a _ c => a.append (vals_rev c)) fun _ _ _ _ _ _ _ us its ws hu hi hw => match us, its, ws, hu, hi, hw with | [_], [_], [_, _, _], _, _, _ => ⟨_, rfl, rfl⟩
theorem lc_kl {K : PySem.W.Frag} {f : Addr} {fd : FuncData} (F : FunDf_Gauge_last_call K f fd) : ∃ its : List Value, KBn K fd ["self", "readings", "now", "long"] 3 ["long"] (fun us ws => kwEnd us its ws) (fun vs zs => kwEnd vs [.int 120] zs) :=
  FunD.kbindsD F 3 ["long"] kwEnd (by intro z; cases z) (fun a _ c => a.append c) fun _ _ _ _ _ _ _ us its ws hu hi hw => match us, its, ws, hu, hi, hw with | [_, _, _], [_], [_], _, _, _ => ⟨_, rfl, rfl⟩
section
variable {P : Program} {w : World} {K : PySem.W.Frag} {mg : Str → Option Value} {base : Heap} {C CT : Addr}
theorem ok_flood {f fL fLS : Addr} {fd fdL fdLS : FuncData} {k : Nat} (F : Fun K "_law_flood" "_law_flood" sFlood f fd) (T : TxtR mg)
    (F_law_last : Fun K "_law_last" "_law_last" sLast fL fdL) (g_law_last : mg "_law_last" = some (.ref fL)) (b_law_last : Binds K fdL ["_law_rows", "_law_moment"] [])
    (F_law_stand : Fun K "_law_stand" "_law_stand" sLStand fLS fdLS) (g_law_stand : mg "_law_stand" = some (.ref fLS)) (b_law_stand : Binds K fdLS ["_law_bounds_here", "_law_came", "_law_moment"] []) :
    FnOk P w K mg base CX0 (k + 3) f fd ["_law_bounds_here", "_law_came", "_law_now_read"] spFlood := by
  have G_law_stand : FnOk P w K mg base CX0 (k + 2) fLS fdLS ["_law_bounds_here", "_law_came", "_law_moment"] spLStand := ok_lstand F_law_stand F_law_last g_law_last b_law_last
  refine F.ok scFlood (fun vs H Q E h => ?_) (fun cdv A outer s H vs Q E hr h => ?_)
  · obtain ⟨b, p, g, rs, n, rfl, _⟩ := h
    rfl
  · obtain ⟨b, p, g, rs, now, rfl, hb, ⟨xs, ep, hrs⟩, hl, hall, q0, q1⟩ := h
    have hr_law_stand := hr
    refine ⟨_,
      (pss_cut (ps_set (i := 3) scFlood.nd rfl (.inr rfl) (pe_lc (own := [("_law_row", 6)]) (g := gName 6)  rfl scFlood.nd (pi_list (pv 1)) (blkOk_by (N := NFlood) (own := [("_law_row", 6)]) (sc := defScope sFlood) (by decide +kernel)) (fun _ _ _ _ _ => pg_name (i := 6) scFlood.nd rfl (Or.inl rfl)) (fun _ _ _ _ _ => pts_one (pt_cmpR op_le (pe_ix (r := rIxT K) ix_tup (pv 6) pe_int (fun _ _ => rfl)) (pv 2) (nomark _))) (fun _ _ _ _ _ => (pv 6))))
      (pss_cut (ps_set (i := 4) scFlood.nd rfl (.inl rfl) (pe_op op_cat (pe_lst (pa_cons (pv 2) pa_nil)) (pe_lc (own := [("_law_row", 6)]) (g := gName 6)  rfl scFlood.nd (pi_list (pv 3)) (blkOk_by (N := NFlood) (own := [("_law_row", 6)]) (sc := defScope sFlood) (by decide +kernel)) (fun _ _ _ _ _ => pg_name (i := 6) scFlood.nd rfl (Or.inl rfl)) (fun _ _ _ _ _ => pts_one (pt_cmpR op_eq (pe_ix (r := rIxT K) ix_tup (pv 6) pe_int (fun _ _ => rfl)) pe_str (nomark _))) (fun _ _ _ _ _ => (pe_op op_add (pe_ix (r := rIxT K) ix_tup (pv 6) pe_int (fun _ _ => rfl)) (pe_ix (r := rIxL K) ix_list (pv 0) pe_int (fun _ _ => rfl)))))))
      (pss_cut (ps_setLc (i := 5) (own := [("_law_moment", 7)]) (g := gName 7)  rfl scFlood.nd rfl rfl (sw_true rfl rfl rfl (by decide +kernel)) (pi_list (pv 4)) (blkOk_by (N := NFlood) (own := [("_law_moment", 7)]) (sc := defScope sFlood) (by decide +kernel)) (fun _ _ _ _ _ => pg_name (i := 7) scFlood.nd rfl (Or.inl rfl)) (fun _ _ _ _ _ => pts_one (PW.pt (pw_and (pt_cmpR op_ge (pv 7) (pv 2) (nomark _)) (pw_and1 (pt_cmpR op_eq (pe_call G_law_stand hr_law_stand (by rfl) g_law_stand F_law_stand.kp b_law_stand .nil pass0 (pa_cons (pv 0) (pa_cons (pv 3) (pa_cons (pv 7) pa_nil)))) pe_str (nomark _)))))) (fun _ _ _ _ _ => (pv 7)))
      (pss_one (ps_ret (pe_ix ix_list (pe_op op_cat (pe_callB cr_sortedI (by rfl) T.msorted (by decide +kernel) (pa_cons (pv 5) pa_nil)) (pe_lst (pa_cons pe_non pa_nil))) pe_int (fun _ _ => rfl)))))))
      , ?_⟩
    have hxl := hrs.len
    refine ⟨fun σ H1 => ∃ (kp : Addr) (ys : List V), σ = [some (.ref b), some (.ref p), some (.int now), some (.ref kp), none, none, none, none] ∧ H1 kp = some (.lst ys) ∧ Rds H1 ys (knownOf now rs) ∧ Same H H1, ?_, ?_⟩
    · refine ⟨_, rfl, p, rfl, ⟨_, SqL.of ep⟩, fun D hD => ?_⟩
      refine lc_list (K := K) (a := p) (xs := xs) (fun i H' => ∃ ys, H' D = some (.lst ys) ∧ Rds H' ys (knownOf now (rs.take i)) ∧ ys.length ≤ i ∧ Same H H')
        ⟨[], upd_same, .nil, Nat.le_refl _, same_upd hD⟩ (fun i H' _ ⟨_, _, _, _, z⟩ => SqL.of (z _ _ ep)) ?_ ?_
      · rintro i y H' hy ⟨ys, eD, hys, ly, si⟩
        obtain ⟨a, x, rfl, hx, ha⟩ := hrs.at hy
        have hi : i < xs.length := (List.getElem?_eq_some_iff.mp hy).1
        have ha' := si _ _ ha
        have fl := filt_take (p := fun z : Rd => decide (z.m ≤ now)) hx
        refine ⟨rfl, _, rfl, a, _, 0, _, rfl, rfl, SqT.of ha', atI_nat (j := 0) rfl, _, rfl, _, _, rfl, rfl, _, rfl, ite2 (fun c => ?_) (fun c => ?_)⟩
        · rw [if_pos c] at fl
          refine ⟨_, rfl, _, eD, small1001 (by omega), ys ++ [.ref a], upd_same, ?_, by rw [List.length_append]; exact Nat.succ_le_succ ly, fun z o e => by rw [upd_ne (ne_of_none e hD)]; exact si _ _ e⟩
          unfold knownOf
          rw [fl]
          have nt : ∀ (b : Addr) ts, H' b = some (.tup ts) → upd H' D (.lst (ys ++ [.ref a])) b = some (.tup ts) := fun b ts z => by rw [upd_ne (ne_of z eD (by intro z; cases z))]; exact z
          exact (hys.mono nt).app (.cons (nt _ _ ha') .nil)
        · rw [if_neg c, List.append_nil] at fl
          refine ⟨ys, eD, ?_, by omega, si⟩
          unfold knownOf
          rw [fl]
          exact hys
      · rintro H' ⟨ys, eD, hys, ly, si⟩
        rw [hxl, List.take_length] at hys
        exact ⟨D, ys, rfl, eD, hys, si⟩
    rintro σ H1 ⟨kp, ys, rfl, ek, hys, s1⟩
    have hkl : (knownOf now rs).length ≤ 1000 := Nat.le_trans (List.length_filter_le _ _) hl
    have hka : ∀ r ∈ knownOf now rs, 0 ≤ r.m := fun r hr => hall r (List.mem_filter.mp hr).1
    generalize knownOf now rs = kn at hys hkl hka q0 q1
    have hyl := hys.len
    have hb1 := s1 _ _ hb
    -- moments
    refine ⟨fun σ H2 => ∃ (mp : Addr), σ = [some (.ref b), some (.ref p), some (.int now), some (.ref kp), some (.ref mp), none, none, none] ∧ H2 mp = some (.lst ((now :: (kn.filter fun r => r.w == true).map fun r => r.m + g.lag).map V.int)) ∧ Same H1 H2, ?_, ?_⟩
    · refine ⟨_, rfl, by show 1 ≤ sizeLine; decide, fun l hl1 => ⟨_, rfl, kp, rfl, ⟨_, SqL.of (upd_at hl1 ek)⟩, fun D hD => ?_⟩⟩
      have sl := same_upd (o := .lst [.int now]) hl1
      refine lc_list (K := K) (a := kp) (xs := ys) (fun i H' => H' D = some (.lst ((((kn.take i).filter fun r => r.w == true).map fun r => r.m + g.lag).map V.int)) ∧ Same (upd H1 l (.lst [.int now])) H')
        ⟨upd_same, same_upd hD⟩ (fun i H' _ ⟨_, z⟩ => SqL.of (z _ _ (sl _ _ ek))) ?_ ?_
      · rintro i y H' hy ⟨eD, si⟩
        obtain ⟨a, x, rfl, hx, ha⟩ := hys.at hy
        have hi : i < ys.length := (List.getElem?_eq_some_iff.mp hy).1
        have ha' := si _ _ (sl _ _ ha)
        have fl := filt_take (p := fun z : Rd => z.w == true) hx
        refine ⟨rfl, _, rfl, a, _, 1, _, rfl, rfl, SqT.of ha', atI_nat (j := 1) rfl, rfl, _, rfl, ite2 (fun c => ?_) (fun c => ?_)⟩
        · have ew : x.w = true := kindS_inj.mp (V.str.inj (of_decide_eq_true c))
          rw [if_pos (by rw [ew]; rfl)] at fl
          refine ⟨_, rfl, a, _, 0, _, rfl, rfl, SqT.of ha', atI_nat (j := 0) rfl, _, rfl, b, _, 0, _, rfl, rfl, SqL.of (si _ _ (sl _ _ hb1)), atI_nat (j := 0) rfl, _, _, rfl, rfl, _, eD, ?_, ?_, fun z o e => by rw [upd_ne (ne_of_none e hD)]; exact si _ _ e⟩
          · rw [List.length_map, List.length_map]
            exact small1001 (Nat.le_trans (List.length_filter_le _ _) (by rw [List.length_take]; omega))
          · rw [upd_same, fl, List.map_append, List.map_append]; rfl
        · have ew : ¬ x.w = true := fun z => c (decide_eq_true (congrArg V.str (kindS_inj.mpr z)))
          rw [if_neg (fun z => ew (beq_iff_eq.mp z)), List.append_nil] at fl
          exact ⟨by rw [fl]; exact eD, si⟩
      · rintro H' ⟨eD, si⟩
        rw [hyl, List.take_length] at eD
        have lw : ((kn.filter fun r => r.w == true).map fun r => r.m + g.lag).length ≤ 1000 := by rw [List.length_map]; exact Nat.le_trans (List.length_filter_le _ _) hkl
        refine ⟨_, _, _, _, rfl, rfl, si _ _ upd_same, eD, Nat.le_of_lt (small1001 (by rw [List.length_map]; show 1 + _ ≤ 1001; omega)), fun mp hmp => ⟨mp, rfl, ?_, (sl.trans si).trans (same_upd hmp)⟩⟩
        rw [upd_same]; rfl
    rintro σ H2 ⟨mp, rfl, em, s2⟩
    have lm : (now :: (kn.filter fun r => r.w == true).map fun r => r.m + g.lag).length ≤ 1001 := by rw [List.length_cons, List.length_map]; exact Nat.succ_le_succ (Nat.le_trans (List.length_filter_le _ _) hkl)
    have ek2 := s2 _ _ ek
    have hys2 : Rds H2 ys kn := hys.mono fun a ts z => s2 _ _ z
    have hb2 := s2 _ _ hb1
    -- lost
    refine ⟨fun σ H3 => ∃ (lp : Addr), σ = [some (.ref b), some (.ref p), some (.int now), some (.ref kp), some (.ref mp), some (.ref lp), none, none] ∧ H3 lp = some (.lst ((lostL g kn now).map V.int)) ∧ Same H2 H3, ?_, ?_⟩
    · refine ⟨_, rfl, mp, rfl, ⟨_, SqL.of em⟩, fun D hD => ?_⟩
      refine lc_list (K := K) (a := mp) (xs := (now :: (kn.filter fun r => r.w == true).map fun r => r.m + g.lag).map V.int) (fun i H' => H' D = some (.lst ((((now :: (kn.filter fun r => r.w == true).map fun r => r.m + g.lag).take i).filter fun m => decide (m ≥ now) && lostB g kn m).map V.int)) ∧ Same H2 H')
        ⟨by rw [List.take_zero]; exact upd_same, same_upd hD⟩ (fun i H' _ ⟨_, z⟩ => SqL.of (z _ _ em)) ?_ ?_
      · rintro i y H' hy ⟨eD, si⟩
        rw [List.getElem?_map] at hy
        cases hx : (now :: (kn.filter fun r => r.w == true).map fun r => r.m + g.lag)[i]? with
        | none => rw [hx] at hy; cases hy
        | some x =>
          rw [hx] at hy
          cases hy
          have fl := filt_take (p := fun m : Int => decide (m ≥ now) && lostB g kn m) hx
          refine ⟨rfl, _, rfl, _, rfl, _, _, rfl, rfl, _, rfl, ite2 (fun c => ?_) (fun c => iteF ?_)⟩
          · refine ⟨_, rfl, _, rfl, _, rfl, b, kp, g, kn, x, rfl, si _ _ hb2, ⟨ys, si _ _ ek2, hys2.mono fun a ts z => si _ _ z⟩, hkl, hka, fun H4 s4 => ⟨rfl, _, rfl, ite2 (fun c2 => ?_) (fun c2 => ?_)⟩⟩
            · rw [if_pos (by rw [c, lost_iff.mp (of_decide_eq_true c2)]; rfl)] at fl
              refine ⟨_, rfl, _, s4 _ _ eD, ?_, ?_, fun z o e => by rw [upd_ne (ne_of_none e hD)]; exact s4 _ _ (si _ _ e)⟩
              · rw [List.length_map]
                exact Nat.lt_of_le_of_lt (Nat.le_trans (List.length_filter_le _ _) (by rw [List.length_take]; omega)) (small1001 lm)
              · rw [upd_same, fl, List.map_append]; rfl
            · rw [if_neg (fun z => c2 (decide_eq_true (lost_iff.mpr (Bool.and_eq_true_iff.mp z).2))), List.append_nil] at fl
              exact ⟨by rw [fl]; exact s4 _ _ eD, si.trans s4⟩
          · rw [if_neg (fun z => c (Bool.and_eq_true_iff.mp z).1), List.append_nil] at fl
            exact ⟨by rw [fl]; exact eD, si⟩
      · rintro H' ⟨eD, si⟩
        rw [List.length_map, List.take_length] at eD
        exact ⟨D, rfl, eD, si⟩
    rintro σ H3 ⟨lp, rfl, el, s3⟩
    have sAll : Same H H3 := (s1.trans s2).trans s3
    refine ⟨_, rfl, lp, lostL g kn now, rfl, SqL.of el, fun ns sp perm rise new => ⟨by show 1 ≤ sizeLine; decide, fun n1 hn1 => ?_⟩⟩
    have lL : (lostL g kn now).length ≤ 1001 := Nat.le_trans (List.length_filter_le _ _) lm
    have lns : ns.length ≤ 1001 := by rw [perm.length_eq]; exact lL
    refine ⟨_, _, _, _, rfl, rfl, upd_at hn1 upd_same, upd_same, Nat.le_trans (show (ns.map V.int).length + 1 ≤ 1002 by rw [List.length_map]; omega) (by decide), fun rp hrp => ?_⟩
    have sEnd := ((sAll.trans (same_upd (o := .lst (ns.map V.int)) new)).trans (same_upd (o := .lst [.non]) hn1)).trans (same_upd (o := .lst (ns.map V.int ++ [.non])) hrp)
    cases hns : ns with
    | nil =>
      rw [hns] at perm sEnd
      have e0 : lostL g kn now = [] := List.nil_perm.mp perm
      exact ⟨rp, _, 0, _, rfl, rfl, SqL.of upd_same, atI_nat (j := 0) rfl, q0 _ sEnd e0⟩
    | cons z zs =>
      rw [hns] at perm sEnd rise
      refine ⟨rp, _, 0, _, rfl, rfl, SqL.of upd_same, atI_nat (j := 0) rfl, q1 z _ sEnd ⟨perm.mem_iff.mp List.mem_cons_self, fun y hy => ?_⟩⟩
      rcases List.mem_cons.mp (perm.mem_iff.mpr hy) with e | hy2
      · rw [e]; exact Int.le_refl _
      · exact List.rel_of_pairwise_cons rise hy2
theorem ok_told {f fT fS fN fG fLc : Addr} {fd fdT fdS fdN fdG fdLc : FuncData} {k : Nat} (F : Fun K "_law_told" "_law_told" sTold f fd) (TG : GCl K mg C) (TW : TxtW mg) (TC : TxtC mg) (TT : TCl K mg CT) (T : TxtT mg)
    (iXTooLate : PySem.W.findIn K (.ref CT) "__init__" = some (some (.ref fT))) (tXTooLate : PySem.W.typeIn K (.ref fT) = some (.type "function")) (FT : Fun K "__init__" "TooLate.__init__" sTInit fT fdT) (bXTooLate : Binds K fdT ["self", "minute"] [])
    (mstand : Meth K C "stand" fS) (FS : Fun K "stand" "Gauge.stand" sGStand fS fdS) (bstand : Binds K fdS ["self", "readings", "minute"] [])
    (mchg : Meth K C "_changes" fG) (FG : Fun K "_changes" "Gauge._changes" sChg fG fdG) (bchg : Binds K fdG ["self", "readings"] [])
    (mlc : Meth K C "last_call" fLc) (FL : FunDf_Gauge_last_call K fLc fdLc)
    (F_number_at : Fun K "_number_at" "_number_at" sNumAt fN fdN) (g_number_at : mg "_number_at" = some (.ref fN)) (b_number_at : Binds K fdN ["readings", "kind", "until"] []) :
    FnOkG P w K mg base CX0 (k + 6) f fd ["_law_gauge", "_law_came", "_law_now_read", "_law_lasts", "_law_way"] (spTold C) := by
  have Glc : FnOk P w K mg base (L2.CX P w) (k + 4) fLc fdLc ["self", "readings", "now", "long"] (spLc C CT) := ok_lc FL TG TW TC TT.gC TT.oex iXTooLate tXTooLate FT bXTooLate TT.n1 mstand FS bstand mchg FG bchg F_number_at g_number_at b_number_at
  obtain ⟨d3, r3, b3⟩ := lc_b3 FL
  have l3 : d3.length = 1 := r3.length.symm
  have knlc2 := kbn_of b3 r3 (n := 3) (by rw [l3]; rfl)
  have knlc3 := kbn_of (dvs := []) (lc_b4 FL) .nil (n := 4) rfl
  obtain ⟨its, knlc0lnr⟩ := lc_kb FL
  refine okG F scTold (fun vs H Q E h => ?_) (fun cdv A outer s H vs Q E gd hr h => ?_)
  · obtain ⟨x, p, g, rs, n, l, wy, rfl, _⟩ := h
    rfl
  · obtain ⟨x, p, g, rs, now, lasts, way, rfl, hg, hrs, hl, hall, hlag, htop, hn0, hn1, hla0, hla1, q⟩ := h
    have hrlc : Room (k + 4) _ := hr.mono (by omega)
    have clc := TG.cl
    have gCTooLate := TT.gC
    refine ⟨_,
      (pss_cons (ps_asg (pe_tup (pa_cons pe_non (pa_cons pe_non pa_nil))) (pg_tup rfl (pgs_cons (pg_name (i := 5) scTold.nd rfl (.inl rfl)) (pgs_cons (pg_name (i := 6) scTold.nd rfl (.inl rfl)) pgs_nil))))
      (pss_cons (ps_try_keep (i := 7) (tb := (tbTold C CT)) (ts := fun _ _ _ => tAsg (tVar 7) (gName 6)) rfl rfl rfl scTold.nd rfl rfl ⟨rfl, by decide, .inl gCTooLate⟩
      (fun W pn xe tk _ => pss_imp (pss_one (ps_if (PW.pt (pw_and (pt_cmpR op_eq (pv 4) pe_int (nomark _)) (pw_and1 (pt_cmpR op_eq (pv 3) pe_int (nomark _)))))
      (pss_one (ps_set (i := 5) scTold.nd rfl (.inl rfl) (pe_methA (pv 0) clc mlc Glc hrlc knlc2 (fun σ => passAt tk σ) (by exact (pa_cons (pv 1) (pa_cons (pv 2) pa_nil))) (by exact pk_nil))))
      (pss_one (ps_if (pt_cmpR op_lt (pv 4) pe_int (nomark _))
      (pss_one (ps_set (i := 5) scTold.nd rfl (.inl rfl) (pe_methA (pv 0) clc mlc Glc hrlc knlc3 (fun σ => passAt tk σ) (by exact (pa_cons (pv 1) (pa_cons (pv 2) (pa_cons (pv 3) pa_nil)))) (by exact pk_nil))))
      (pss_one (ps_set (i := 5) scTold.nd rfl (.inl rfl) (pe_methA0 (pv 0) clc mlc Glc hrlc knlc0lnr (fun σ => passAt tk σ) (by exact (pk_cons (pv 3) (pk_cons (pv 2) (pk_cons (pv 1) pk_nil))))))))))) ?imp)
      (fun a cls d pn => pss_one (ps_set (i := 6) scTold.nd rfl (Or.inl rfl) (pv 7))))
      (pss_cons (ps_if (pt_cmpR op_isN (pv 6) pe_non (nomark _))
      (pss_one (ps_ret (pe_callB (call_reprD gd hr) (by rfl) T.mrepr (by decide +kernel) (pa_cons (pv 5) pa_nil))))
      pss_nil)
      (pss_one (ps_ret (pe_callB (call_reprD gd hr) (by rfl) T.mrepr (by decide +kernel) (pa_cons (pe_tup (pa_cons pe_str (pa_cons (pe_fldX (pv 6) rfl) (pa_cons (pe_callB call_isO (by rfl) T.misinstance (by decide +kernel) (pa_cons (pv 6) (pa_cons (pe_bltn (v := .ty "RuntimeError") (u := .type "RuntimeError") (by rfl) T.mRuntimeError (by decide +kernel) rfl) pa_nil))) (pa_cons (pe_callB call_isO (by rfl) T.misinstance (by decide +kernel) (pa_cons (pv 6) (pa_cons (pe_bltn (v := .ty "ValueError") (u := .type "ValueError") (by rfl) T.mValueError (by decide +kernel) rfl) pa_nil))) pa_nil))))) pa_nil)))))))
      , ?main⟩
    case imp =>
      rintro D σ H0 ⟨x, p, g, rs, now, lasts, way, rfl, hg, hrs, hl, htop, d0, d1, d2⟩
      obtain ⟨dx, ex⟩ := id hg
      refine ⟨_, rfl, rfl, _, rfl, ite2 (fun c1 => ?_) (fun c1 => iteF ?_)⟩
      · refine ⟨_, rfl, rfl, _, rfl, ite2 (fun c2 => ?_) (fun c2 => ?_)⟩
        · have e : lasts = 120 := V.int.inj (of_decide_eq_true c2)
          subst e
          exact ⟨_, rfl, x, dx, _, rfl, ex, ggF_last g, _, rfl, _, rfl, rfl, rfl, x, p, g, rs, now, 120, rfl, hg, hrs, hl, htop, d0, d1, d2⟩
        · refine ⟨_, rfl, _, _, rfl, rfl, _, rfl, ite2 (fun c3 => ?_) (fun c3 => ?_)⟩
          · exact ⟨_, rfl, x, dx, _, rfl, ex, ggF_last g, _, rfl, _, rfl, _, rfl, rfl, rfl, x, p, g, rs, now, lasts, rfl, hg, hrs, hl, htop, d0, d1, d2⟩
          · exact ⟨_, rfl, x, dx, _, rfl, ex, ggF_last g, _, rfl, _, rfl, _, rfl, rfl, rfl, x, p, g, rs, now, lasts, rfl, hg, hrs, hl, htop, d0, d1, d2⟩
      · refine ⟨_, rfl, _, _, rfl, rfl, _, rfl, ite2 (fun c3 => ?_) (fun c3 => ?_)⟩
        · exact ⟨_, rfl, x, dx, _, rfl, ex, ggF_last g, _, rfl, _, rfl, _, rfl, rfl, rfl, x, p, g, rs, now, lasts, rfl, hg, hrs, hl, htop, d0, d1, d2⟩
        · exact ⟨_, rfl, x, dx, _, rfl, ex, ggF_last g, _, rfl, _, rfl, _, rfl, rfl, rfl, x, p, g, rs, now, lasts, rfl, hg, hrs, hl, htop, d0, d1, d2⟩
    case main =>
      have hkm : ∀ r ∈ knownOf now rs, r.m ≤ 1003000 := fun r hr => (hall r (List.mem_filter.mp hr).1).2
      refine ⟨by show 2 ≤ sizeLine; decide, fun t0 ht0 => ⟨t0, _, rfl, SqT.of upd_same, rfl, _, _, rfl, _, _, rfl, rfl, ?_⟩⟩
      have s0 : Same H (upd H t0 (.tup [.non, .non])) := same_upd ht0
      refine ⟨x, p, g, rs, now, lasts, way, rfl, hg.same s0, hrs.same s0, hl, htop, fun H1 s1 e0 => ?_, fun f H1 s1 fl c => ?_, fun f d H1 s1 fl c ed => ⟨TT.hit, fun e he => ⟨_, rfl, ?_⟩⟩⟩
      · refine ⟨_, rfl, rfl, _, rfl, iteT ⟨_, rfl, _, .none, rfl, .non, rfl, rfl, by rw [PyData.shown]; decide, ?_⟩⟩
        exact q .none H1 (s0.trans s1) (.inl ⟨e0, rfl⟩)
      · have hf := isFl_le hlag hkm hn1 fl
        have hb : (f - lasts).natAbs < 10000000000 := by omega
        refine ⟨_, rfl, rfl, _, rfl, iteT ⟨_, rfl, _, .int (f - lasts), rfl, .int _, rfl, int_showable hb, int_shown hb, ?_⟩⟩
        exact q _ H1 (s0.trans s1) (.inr ⟨f, fl, .inl ⟨c, rfl⟩⟩)
      · have hf := isFl_le hlag hkm hn1 fl
        have hb : f.natAbs < 10000000000 := by omega
        have kp : KeptE (upd H1 e (keptX (.ref CT) (some d) e)) e CT (laF (.int f)) := ⟨d, upd_same, upd_at he ed⟩
        have s3 : Same H (upd H1 e (keptX (.ref CT) (some d) e)) := (s0.trans s1).trans (same_upd he)
        generalize upd H1 e (keptX (.ref CT) (some d) e) = H2 at kp s3 ⊢
        refine ⟨_, rfl, rfl, _, rfl, iteF ?_⟩
        refine ⟨_, rfl, e, CT, laF (.int f), .int f, rfl, TT.xf, TT.n1, kp, rfl, _, rfl, .inr ⟨e, CT, laF (.int f), .ty "RuntimeError", .type "RuntimeError", true, rfl, kp, TT.ec, .ty _, TT.up, ?_⟩⟩
        refine ⟨_, rfl, .inr ⟨e, CT, laF (.int f), .ty "ValueError", .type "ValueError", false, rfl, kp, TT.ec, .ty _, TT.no, ?_⟩⟩
        refine ⟨by show 4 ≤ sizeLine; decide, fun t ht => ⟨_, lateD f, rfl, .tup (SqT.of upd_same) (.cons (.str _) (.cons (.int _) (.cons (.bl _) (.cons (.bl _) .nil)))), late_shaped f, late_showable hb, late_shown hb, ?_⟩⟩
        exact q _ _ (s3.trans (same_upd ht)) (.inr ⟨f, fl, .inr ⟨c, rfl⟩⟩)
end
abbrev sLaw : Stmt := topS 28
abbrev NLaw : List Str := ["_law_script", "_law_feed_here", "_law_k", "_law_bounds_here", "_law_gauge", "_law_some", "_law_edges", "_law_turns", "_law_now_read", "_law_flood_here", "_law_lasts", "_law_due", "_law_handed", "_law_told_here", "_law_row"]
theorem scLaw : FnScope NLaw ["_law_script"] (defScope sLaw) := ⟨rfl, rfl, rfl, by decide +kernel, rfl, by decide +kernel, by decide +kernel⟩
theorem Tape.keep {H H' : Hp} {T c m : Addr} {n : Nat} (h : Tape H T c n) (k : Keep m H H') (n1 : T ≠ m) (n2 : c ≠ m) : Tape H' T c n := by
  obtain ⟨t, r, ns, h1, h2, h3, h4, h5, h6⟩ := h.ex
  exact ⟨t, r, ns, k _ _ n1 h1, k _ _ n2 h2, h3, h4, h5, h6⟩
def kwLag {α : Type} (us its ws : List α) : List α := us ++ ws ++ its.drop 1
theorem gi_kl {K : PySem.W.Frag} {f : Addr} {fd : FuncData} (F : FunDf_Gauge___init__ K f fd) : ∃ its : List Value, KBn K fd ["self", "lag", "high", "top", "thin", "thick"] 1 ["lag"] (fun us ws => kwLag us its ws) (fun vs zs => kwLag vs [.int 60, .int 200, .int 400, .int 5, .int 20] zs) :=
  FunD.kbindsD F 1 ["lag"] kwLag (by intro z; cases z) (fun a b c => (a.append c).append (b.drop 1)) fun _ _ _ _ _ _ _ us its ws hu hi hw => match us, its, ws, hu, hi, hw with | [_], [_, _, _, _, _], [_], _, _, _ => ⟨_, rfl, rfl⟩
def spLaw (K : PySem.W.Frag) : Sp := fun vs H Q _ => ∃ (a : Addr) (ns : List Int), vs = [.ref a] ∧ SqL K H a (ns.map V.int) ∧ ns.length ≤ 63 ∧ ∀ H', Q (.bl true) H'
structure TxtL (mg : Str → Option Value) : Prop where
  mlen : mg "len" = none
  mmax : mg "max" = none
  mlist : mg "list" = none
  mrange : mg "range" = none
  mrepr : mg "repr" = none
section
variable {P : Program} {w : World} {K : PySem.W.Frag} {mg : Str → Option Value} {base : Heap} {C CT : Addr}
theorem ok_law {f fI fT fS fN fG fLc fF fD fO fR fB fLa fLS fFl fTo : Addr} {fd fdI fdT fdS fdN fdG fdLc fdF fdD fdO fdR fdB fdLa fdLS fdFl fdTo : FuncData} (F : Fun K "law" "law" sLaw f fd) (T0 : Txt0 mg) (TF : TxtF mg) (TR : TxtR mg) (TW : TxtW mg) (TCm : TxtC mg) (TTt : TxtT mg) (T : TxtL mg) (TC : GCl K mg C) (TT : TCl K mg CT)
    (MGauge : Mk K C fI) (FI : FunDf_Gauge___init__ K fI fdI)
    (iXTooLate : PySem.W.findIn K (.ref CT) "__init__" = some (some (.ref fT))) (tXTooLate : PySem.W.typeIn K (.ref fT) = some (.type "function")) (FT : Fun K "__init__" "TooLate.__init__" sTInit fT fdT) (bXTooLate : Binds K fdT ["self", "minute"] [])
    (mstand : Meth K C "stand" fS) (FS : Fun K "stand" "Gauge.stand" sGStand fS fdS) (bstand : Binds K fdS ["self", "readings", "minute"] [])
    (mchg : Meth K C "_changes" fG) (FG : Fun K "_changes" "Gauge._changes" sChg fG fdG) (bchg : Binds K fdG ["self", "readings"] [])
    (mlc : Meth K C "last_call" fLc) (FL : FunDf_Gauge_last_call K fLc fdLc)
    (F_number_at : Fun K "_number_at" "_number_at" sNumAt fN fdN) (g_number_at : mg "_number_at" = some (.ref fN)) (b_number_at : Binds K fdN ["readings", "kind", "until"] [])
    (F_law_feed : Fun K "_law_feed" "_law_feed" sFeed fF fdF) (g_law_feed : mg "_law_feed" = some (.ref fF)) (b_law_feed : Binds K fdF ["_law_script"] [])
    (F_law_draw : Fun K "_law_draw" "_law_draw" sDraw fD fdD) (g_law_draw : mg "_law_draw" = some (.ref fD)) (b_law_draw : Binds K fdD ["_law_feed_here", "_law_many"] [])
    (F_law_of : Fun K "_law_of" "_law_of" sOf fO fdO) (g_law_of : mg "_law_of" = some (.ref fO)) (b_law_of : Binds K fdO ["_law_feed_here", "_law_some"] [])
    (F_law_readings : Fun K "_law_readings" "_law_readings" sReadings fR fdR) (g_law_readings : mg "_law_readings" = some (.ref fR)) (b_law_readings : Binds K fdR ["_law_feed_here", "_law_many"] [])
    (F_law_bounds : Fun K "_law_bounds" "_law_bounds" sBounds fB fdB) (g_law_bounds : mg "_law_bounds" = some (.ref fB)) (b_law_bounds : Binds K fdB ["_law_feed_here"] [])
    (F_law_last : Fun K "_law_last" "_law_last" sLast fLa fdLa) (g_law_last : mg "_law_last" = some (.ref fLa)) (b_law_last : Binds K fdLa ["_law_rows", "_law_moment"] [])
    (F_law_stand : Fun K "_law_stand" "_law_stand" sLStand fLS fdLS) (g_law_stand : mg "_law_stand" = some (.ref fLS)) (b_law_stand : Binds K fdLS ["_law_bounds_here", "_law_came", "_law_moment"] [])
    (F_law_flood : Fun K "_law_flood" "_law_flood" sFlood fFl fdFl) (g_law_flood : mg "_law_flood" = some (.ref fFl)) (b_law_flood : Binds K fdFl ["_law_bounds_here", "_law_came", "_law_now_read"] [])
    (F_law_told : Fun K "_law_told" "_law_told" sTold fTo fdTo) (g_law_told : mg "_law_told" = some (.ref fTo)) (b_law_told : Binds K fdTo ["_law_gauge", "_law_came", "_law_now_read", "_law_lasts", "_law_way"] []) :
    FnOkG P w K mg base CX0 7 f fd ["_law_script"] (spLaw K) := by
  have GGauge : FnOk P w K mg base CX0 1 fI fdI ["self", "lag", "high", "top", "thin", "thick"] (spGInit C) := ok_ginit FI TC
  have G_law_feed : FnOk P w K mg base CX0 6 fF fdF ["_law_script"] (spTape K) := ok_feed F_law_feed TF
  have G_law_draw : FnOk P w K mg base CX0 6 fD fdD ["_law_feed_here", "_law_many"] spDraw := ok_draw F_law_draw T0
  have G_law_of : FnOk P w K mg base CX0 6 fO fdO ["_law_feed_here", "_law_some"] spPick := ok_of F_law_of T0 F_law_draw g_law_draw b_law_draw
  have G_law_readings : FnOk P w K mg base CX0 6 fR fdR ["_law_feed_here", "_law_many"] spReadings := ok_readings F_law_readings T0 TR F_law_draw g_law_draw b_law_draw F_law_of g_law_of b_law_of
  have G_law_bounds : FnOk P w K mg base CX0 6 fB fdB ["_law_feed_here"] spBounds := ok_bounds F_law_bounds T0 TR F_law_draw g_law_draw b_law_draw F_law_of g_law_of b_law_of
  have G_law_flood : FnOk P w K mg base CX0 6 fFl fdFl ["_law_bounds_here", "_law_came", "_law_now_read"] spFlood := ok_flood F_law_flood TR F_law_last g_law_last b_law_last F_law_stand g_law_stand b_law_stand
  have G_law_told : FnOkG P w K mg base CX0 6 fTo fdTo ["_law_gauge", "_law_came", "_law_now_read", "_law_lasts", "_law_way"] (spTold C) := ok_told F_law_told TC TW TCm TT TTt iXTooLate tXTooLate FT bXTooLate mstand FS bstand mchg FG bchg mlc FL F_number_at g_number_at b_number_at
  have Glc : FnOk P w K mg base (L2.CX P w) 6 fLc fdLc ["self", "readings", "now", "long"] (spLc C CT) := ok_lc FL TC TW TCm TT.gC TT.oex iXTooLate tXTooLate FT bXTooLate TT.n1 mstand FS bstand mchg FG bchg F_number_at g_number_at b_number_at
  have bGauge := gi_b5 FI
  obtain ⟨ds0, rGauge0, bGauge0⟩ := gi_b0 FI
  obtain ⟨its, kbGauge⟩ := gi_kl FI
  obtain ⟨d3, r3, b3⟩ := lc_b3 FL
  have l3 : d3.length = 1 := r3.length.symm
  have knlc2 := kbn_of b3 r3 (n := 3) (by rw [l3]; rfl)
  obtain ⟨its2, knlc2l⟩ := lc_kl FL
  refine okG F scLaw (fun vs H Q E h => ?_) (fun cdv A outer s H vs Q E gd hr h => ?_)
  · obtain ⟨a, n, rfl, _⟩ := h
    rfl
  · obtain ⟨a, ns, rfl, hS, hlen, q⟩ := h
    have gC := TC.gC
    have clc := TC.cl
    have hrGauge : Room 2 _ := hr.mono (by decide)
    have hrlc := hr
    have hr_law_feed := hr
    have hr_law_draw := hr
    have hr_law_of := hr
    have hr_law_readings := hr
    have hr_law_bounds := hr
    have hr_law_flood := hr
    have hr_law_told := hr
    refine ⟨_,
      (pss_cons (ps_set (i := 1) scLaw.nd rfl (.inl rfl) (pe_call G_law_feed hr_law_feed (by rfl) g_law_feed F_law_feed.kp b_law_feed .nil pass0 (pa_cons (pv 0) pa_nil)))
      (pss_cons (ps_for PassesOwn.never rfl (pi_range1 (by rfl) T.mrange (pa_cons pe_int pa_nil)) (pg_name (i := 2) scLaw.nd rfl (.inl rfl))
      (pss_cons (ps_set (i := 3) scLaw.nd rfl (.inr rfl) (pe_call G_law_bounds hr_law_bounds (by rfl) g_law_bounds F_law_bounds.kp b_law_bounds .nil pass0 (pa_cons (pv 1) pa_nil)))
      (pss_cons (ps_set (i := 4) scLaw.nd rfl (.inl rfl) (pe_make MGauge GGauge hrGauge (by rfl) gC bGauge .nil pass0 (pa_cons (pe_ix ix_list (pv 3) pe_int (fun _ _ => rfl)) (pa_cons (pe_ix ix_list (pv 3) pe_int (fun _ _ => rfl)) (pa_cons (pe_ix ix_list (pv 3) pe_int (fun _ _ => rfl)) (pa_cons (pe_ix ix_list (pv 3) pe_int (fun _ _ => rfl)) (pa_cons (pe_ix ix_list (pv 3) pe_int (fun _ _ => rfl)) pa_nil)))))))
      (pss_cons (ps_set (i := 5) scLaw.nd rfl (.inl rfl) (pe_call G_law_readings hr_law_readings (by rfl) g_law_readings F_law_readings.kp b_law_readings .nil pass0 (pa_cons (pv 1) (pa_cons pe_int pa_nil))))
      (pss_cut (ps_set (i := 6) scLaw.nd rfl (.inl rfl) (pe_op op_cat (pe_op op_cat (pe_lc (own := [("_law_row", 14)]) (g := gName 14) (tt := tYes) rfl scLaw.nd (pi_list (pv 5)) (blkOk_by (N := NLaw) (own := [("_law_row", 14)]) (sc := defScope sLaw) (by decide +kernel)) (fun _ _ _ _ _ => pg_name (i := 14) scLaw.nd rfl (Or.inl rfl)) (fun _ _ _ _ _ => pts_nil) (fun _ _ _ _ _ => (pe_ix (r := rIxT K) ix_tup (pv 14) pe_int (fun _ _ => rfl)))) (pe_lc (own := [("_law_row", 14)]) (g := gName 14) (tt := tYes) rfl scLaw.nd (pi_list (pv 5)) (blkOk_by (N := NLaw) (own := [("_law_row", 14)]) (sc := defScope sLaw) (by decide +kernel)) (fun _ _ _ _ _ => pg_name (i := 14) scLaw.nd rfl (Or.inl rfl)) (fun _ _ _ _ _ => pts_nil) (fun _ _ _ _ _ => (pe_op op_add (pe_ix (r := rIxT K) ix_tup (pv 14) pe_int (fun _ _ => rfl)) (pe_ix (r := rIxL K) ix_list (pv 3) pe_int (fun _ _ => rfl)))))) (pe_lst (pa_cons pe_int pa_nil))))
      (pss_one (ps_for PassesOwn.never rfl (pi_range1 (by rfl) T.mrange (pa_cons pe_int pa_nil)) (pg_name (i := 7) scLaw.nd rfl (.inl rfl))
      (pss_cons (ps_set (i := 8) scLaw.nd rfl (.inl rfl) (pe_callB (call_max2 rfl) (by rfl) T.mmax (by decide +kernel) (pa_cons pe_int (pa_cons (pe_op op_sub (pe_op op_add (pe_call G_law_of hr_law_of (by rfl) g_law_of F_law_of.kp b_law_of .nil pass0 (pa_cons (pv 1) (pa_cons (pv 6) pa_nil))) (pe_call G_law_draw hr_law_draw (by rfl) g_law_draw F_law_draw.kp b_law_draw .nil pass0 (pa_cons (pv 1) (pa_cons pe_int pa_nil)))) pe_int) pa_nil))))
      (pss_cut (ps_set (i := 9) scLaw.nd rfl (.inl rfl) (pe_call G_law_flood hr_law_flood (by rfl) g_law_flood F_law_flood.kp b_law_flood .nil pass0 (pa_cons (pv 3) (pa_cons (pv 5) (pa_cons (pv 8) pa_nil)))))
      (pss_one (ps_for PassesOwn.never rfl (pi_list (pe_lst (pa_cons pe_int (pa_cons pe_int (pa_cons (pe_call G_law_draw hr_law_draw (by rfl) g_law_draw F_law_draw.kp b_law_draw .nil pass0 (pa_cons (pv 1) (pa_cons pe_int pa_nil))) (pa_cons (pe_callB (call_max2 rfl) (by rfl) T.mmax (by decide +kernel) (pa_cons pe_int (pa_cons (pe_op op_sub (pe_orT (pv 9) (pe_one pe_int)) (pv 8)) pa_nil))) (pa_cons (pe_op op_add (pe_orT (pv 9) (pe_one pe_int)) pe_int) pa_nil))))))) (pg_name (i := 10) scLaw.nd rfl (.inl rfl))
      (pss_cut (ps_set (i := 11) scLaw.nd rfl (.inl rfl) (pe_callB (call_reprD gd hr) (by rfl) T.mrepr (by decide +kernel) (pa_cons (pe_ifExp (pt_cmpR op_isN (pv 9) pe_non (nomark _)) pe_non (pe_op op_sub (pv 9) (pv 10))) pa_nil)))
      (pss_cut (ps_if (PW.pt (pw_and (pt_cmpR op_notN (pv 9) pe_non (nomark _)) (pw_and1 (pt_cmpR op_lt (pe_op op_sub (pv 9) (pv 10)) (pv 8) (nomark _)))))
      (pss_one (ps_set (i := 11) scLaw.nd rfl (.inl rfl) (pe_callB (call_reprD gd hr) (by rfl) T.mrepr (by decide +kernel) (pa_cons (pe_tup (pa_cons pe_str (pa_cons (pv 9) (pa_cons pe_bl (pa_cons pe_bl pa_nil))))) pa_nil))))
      pss_nil)
      (pss_cons (ps_set (i := 12) scLaw.nd rfl (.inl rfl) (pe_callTy call_list_of (by rfl) T.mlist (by decide +kernel) (pa_cons (pv 5) pa_nil)))
      (pss_cons (ps_set (i := 13) scLaw.nd rfl (.inl rfl) (pe_callG G_law_told gd hr_law_told (by rfl) g_law_told F_law_told.kp b_law_told .nil pass0 (pa_cons (pv 4) (pa_cons (pv 12) (pa_cons (pv 8) (pa_cons (pv 10) (pa_cons (pe_call G_law_draw hr_law_draw (by rfl) g_law_draw F_law_draw.kp b_law_draw .nil pass0 (pa_cons (pv 1) (pa_cons pe_int pa_nil))) pa_nil)))))))
      (pss_one (ps_if (PW.pt (pw_or (pt_cmpR op_ne (pv 13) (pv 11) (nomark _)) (pw_or1 (pt_cmpR (op_neD hr.units) (pv 12) (pv 5) (nomark _)))))
      (pss_one (ps_ret pe_bl))
      pss_nil)))))))))))))))))
      (pss_one (ps_ret (pe_and (pe_cmpR op_isN (pe_methA (pe_make0 MGauge GGauge hrGauge (by rfl) gC bGauge0 rGauge0 pass0) clc mlc Glc hrlc knlc2 (fun _ => passNo rfl rfl) (by exact (pa_cons (pe_lst pa_nil) (pa_cons pe_int pa_nil))) (by exact pk_nil)) pe_non (nomark _)) (pe_one (pe_cmpR op_eq (pe_methA (pe_makeK0 MGauge GGauge hrGauge (by rfl) gC kbGauge pass0 (pk_cons pe_int pk_nil)) clc mlc Glc hrlc knlc2l (fun _ => passNo rfl rfl) (by exact (pa_cons (pe_lst (pa_cons (pe_tup (pa_cons pe_int (pa_cons pe_str (pa_cons pe_int pa_nil)))) pa_nil)) (pa_cons pe_int pa_nil))) (by exact (pk_cons pe_int pk_nil))) pe_int (nomark _))))))))
      , ?_⟩
    refine ⟨_, rfl, a, ns, rfl, hS, hlen, fun tp c H1 ntp ntc s1 T1 => ?_⟩
    refine ⟨3, rfl, by decide, by decide, ?_⟩
    refine for_range (lo := 0) (n := 3) (fun i σ H2 => ∃ (v2 v3 v4 v5 v6 v7 v8 v9 v10 v11 v12 v13 v14 : Option V), σ = [some (.ref a), some (.ref tp), v2, v3, v4, v5, v6, v7, v8, v9, v10, v11, v12, v13, v14] ∧ Tape H2 tp c (100000 * i))
      ⟨_, _, _, _, _, _, _, _, _, _, _, _, _, rfl, T1⟩ ?_ ?_
    · rintro i σ H2 hi ⟨v2, v3, v4, v5, v6, v7, v8, v9, v10, v11, v12, v13, v14, rfl, T2⟩
      refine ⟨_, rfl, tp, c, 100000 * i, rfl, by omega, T2, fun b g H3 eb g0 gl g1 g2 g3 g4 nbt T3 k3 => ?_⟩
      refine ⟨_, rfl, b, _, 0, _, rfl, rfl, SqL.of eb, atI_nat (j := 0) rfl, _, rfl, b, _, 1, _, rfl, rfl, SqL.of eb, atI_nat (j := 1) rfl, _, rfl, b, _, 2, _, rfl, rfl, SqL.of eb, atI_nat (j := 2) rfl, _, rfl, b, _, 3, _, rfl, rfl, SqL.of eb, atI_nat (j := 3) rfl, _, rfl, b, _, 4, _, rfl, rfl, SqL.of eb, atI_nat (j := 4) rfl, ?_⟩
      intro x1 dx1 hx1 hdx1 ne1
      refine ⟨x1, dx1, g, rfl, upd_same, fun H4 hg1 k4 => ⟨rfl, ?_⟩⟩
      have s4 := made_same hx1 hdx1 k4
      have eb4 := s4 _ _ eb
      have T4 := T3.same s4
      refine ⟨_, rfl, tp, c, 16, _, rfl, by omega, by omega, by omega, T4, fun p rs H5 hp hl5 hall npt hpn T5 k5 => ?_⟩
      obtain ⟨_, _, _, hTp, _⟩ := T4.ex
      obtain ⟨xs, ep, rx⟩ := id hp
      have hxl := rx.len
      have eb5 := k5 _ _ nbt eb4
      have hg5 := hg1.keep hTp k5
      -- the edges
      refine ⟨fun σ H6 => ∃ (eg : Addr) (es : List Int), σ = [some (.ref a), some (.ref tp), some (.int (0 + (i : Int))), some (.ref b), some (.ref x1), some (.ref p), some (.ref eg), v7, v8, v9, v10, v11, v12, v13, v14] ∧ H6 eg = some (.lst (es.map V.int)) ∧ 0 < es.length ∧ es.length ≤ 3000 ∧ (∀ e ∈ es, 0 ≤ e ∧ e ≤ 1004440) ∧ eg ≠ tp ∧ Same H5 H6, ?_, ?_⟩
      · refine ⟨_, rfl, p, rfl, ⟨_, SqL.of ep⟩, fun D hD => ?_⟩
        refine lc_list (K := K) (a := p) (xs := xs) (fun j H' => H' D = some (.lst (((rs.take j).map fun r => r.m).map V.int)) ∧ Same H5 H')
          ⟨upd_same, same_upd hD⟩ (fun j H' _ ⟨_, z⟩ => SqL.of (z _ _ ep)) ?_ ?_
        · rintro j y H' hy ⟨eD, si⟩
          obtain ⟨ad, x, rfl, hx, had⟩ := rx.at hy
          have hj : j < xs.length := (List.getElem?_eq_some_iff.mp hy).1
          refine ⟨rfl, _, rfl, ad, _, 0, _, rfl, rfl, SqT.of (si _ _ had), atI_nat (j := 0) rfl, _, eD, ?_, ?_, fun z o e => by rw [upd_ne (ne_of_none e hD)]; exact si _ _ e⟩
          · rw [List.length_map, List.length_map, List.length_take]; exact small1001 (by omega)
          · rw [upd_same, List.take_succ, hx]; simp
        · rintro H' ⟨eD, si⟩
          rw [hxl, List.take_length] at eD
          refine ⟨_, rfl, p, rfl, ⟨_, SqL.of (si _ _ ep)⟩, fun D2 hD2 => ?_⟩
          refine lc_list (K := K) (a := p) (xs := xs) (fun j H'' => H'' D2 = some (.lst (((rs.take j).map fun r => r.m + g.lag).map V.int)) ∧ Same H' H'')
            ⟨upd_same, same_upd hD2⟩ (fun j H'' _ ⟨_, z⟩ => SqL.of (z _ _ (si _ _ ep))) ?_ ?_
          · rintro j y H'' hy ⟨eD2, sj⟩
            obtain ⟨ad, x, rfl, hx, had⟩ := rx.at hy
            have hj : j < xs.length := (List.getElem?_eq_some_iff.mp hy).1
            have sij := si.trans sj
            refine ⟨rfl, _, rfl, ad, _, 0, _, rfl, rfl, SqT.of (sij _ _ had), atI_nat (j := 0) rfl, _, rfl, b, _, 0, _, rfl, rfl, SqL.of (sij _ _ eb5), atI_nat (j := 0) rfl, _, _, rfl, rfl, _, eD2, ?_, ?_, fun z o e => by rw [upd_ne (ne_of_none e hD2)]; exact sj _ _ e⟩
            · rw [List.length_map, List.length_map, List.length_take]; exact small1001 (by omega)
            · rw [upd_same, List.take_succ, hx]; simp
          · rintro H'' ⟨eD2, sj⟩
            rw [hxl, List.take_length] at eD2
            have l1 : (rs.map fun r => r.m).length = rs.length := List.length_map ..
            have l2 : (rs.map fun r => r.m + g.lag).length = rs.length := List.length_map ..
            refine ⟨_, _, _, _, rfl, rfl, sj _ _ eD, eD2, Nat.le_trans (show _ ≤ 10000 by simp only [List.length_append, List.length_map, List.length_cons, List.length_nil]; omega) (by decide), fun q1 hq1 => ⟨by show 1 ≤ sizeLine; decide, fun q2 hq2 => ?_⟩⟩
            refine ⟨_, _, _, _, rfl, rfl, upd_at hq2 upd_same, upd_same, Nat.le_trans (show _ ≤ 10000 by simp only [List.length_append, List.length_map, List.length_cons, List.length_nil]; omega) (by decide), fun q3 hq3 => ?_⟩
            refine ⟨q3, (rs.map fun r => r.m) ++ (rs.map fun r => r.m + g.lag) ++ [0], rfl, ?_, ?_, ?_, ?_, ?_, ?_⟩
            · rw [upd_same, List.map_append, List.map_append]; rfl
            · rw [List.length_append]; exact Nat.succ_pos _
            · rw [List.length_append, List.length_append, l1, l2]; show _ + _ + 1 ≤ 3000; omega
            · intro e he
              rcases List.mem_append.mp he with he | he
              · rcases List.mem_append.mp he with he | he
                · obtain ⟨r, hr, rfl⟩ := List.mem_map.mp he
                  have := hall r hr
                  omega
                · obtain ⟨r, hr, rfl⟩ := List.mem_map.mp he
                  have := hall r hr
                  omega
              · rw [List.mem_singleton.mp he]; omega
            · exact (((T5.same (si.trans sj)).new hq1).new hq2).ne hq3
            · exact ((si.trans sj).trans (same_upd hq1)).trans ((same_upd hq2).trans (same_upd hq3))
      rintro σ H6 ⟨eg, es, rfl, ee, el0, el1, eall, net, s56⟩
      have T6 := T5.same s56
      obtain ⟨_, _, _, hTp6, _⟩ := T6.ex
      have eb6 := s56 _ _ eb5
      have hg6 := hg5.same s56
      have hp6 := hp.same s56
      refine ⟨5, rfl, by decide, by decide, ?_⟩
      refine for_range (lo := 0) (n := 5) (fun j σ H' => ∃ (w7 w8 w9 w10 w11 w12 w13 w14 : Option V), σ = [some (.ref a), some (.ref tp), some (.int (0 + (i : Int))), some (.ref b), some (.ref x1), some (.ref p), some (.ref eg), w7, w8, w9, w10, w11, w12, w13, w14] ∧ Tape H' tp c (100000 * i + 30000 + 1000 * j) ∧ Keep tp H6 H')
        ⟨_, _, _, _, _, _, _, _, rfl, T6.mono (by omega), Keep.refl⟩ ?_ ?_
      · rintro j σ H' hj ⟨w7, w8, w9, w10, w11, w12, w13, w14, rfl, Tj, kj⟩
        -- now
        refine ⟨_, rfl, _, rfl, tp, c, eg, _, _, rfl, kj _ _ net ee, net, by rw [List.length_map]; exact el0, by rw [List.length_map]; omega, by omega, Tj, fun jx x H7 hx T7 k7 => ?_⟩
        obtain ⟨e0, rfl, he0, he1⟩ := pickI eall hx
        refine ⟨_, rfl, tp, c, 3, _, rfl, by omega, by omega, by omega, T7, fun d3' H8 d30 d31 T8 k8 => ⟨_, _, rfl, rfl, _, _, rfl, rfl, _, _, rfl, ?_⟩⟩
        have hnow : 0 ≤ (if e0 + d3' - 1 > 0 then e0 + d3' - 1 else 0) ∧ (if e0 + d3' - 1 > 0 then e0 + d3' - 1 else 0) ≤ 1100000 := by split <;> omega
        generalize (if e0 + d3' - 1 > 0 then e0 + d3' - 1 else 0) = now at hnow ⊢
        have k68 : Keep tp H6 H8 := kj.trans (k7.trans k8)
        have hk0 : ∀ r ∈ rs, 0 ≤ r.m := fun r hr => (hall r hr).1
        have hkm : ∀ r ∈ knownOf now rs, r.m ≤ 1003000 := fun r hr => (hall r (List.mem_filter.mp hr).1).2
        obtain ⟨_, _, _, hTp8, _⟩ := T8.ex
        have eb8 := k68 _ _ nbt eb6
        -- the flood
        refine ⟨fun σ H9 => ∃ (fv : V), σ = [some (.ref a), some (.ref tp), some (.int (0 + (i : Int))), some (.ref b), some (.ref x1), some (.ref p), some (.ref eg), some (.int (0 + (j : Int))), some (.int now), some fv, w10, w11, w12, w13, w14] ∧ Same H8 H9 ∧
          ((lostL g (knownOf now rs) now = [] ∧ fv = .non) ∨ ∃ f, IsFl g (knownOf now rs) now f ∧ fv = .int f), ?_, ?_⟩
        · refine ⟨_, rfl, _, rfl, _, rfl, b, p, g, rs, now, rfl, eb8, hp6.keep hTp6 npt k68, hl5, hk0, fun H9 s9 e0 => ?_, fun f H9 s9 hf => ?_⟩
          · exact ⟨_, rfl, s9, .inl ⟨e0, rfl⟩⟩
          · exact ⟨_, rfl, s9, .inr ⟨f, hf, rfl⟩⟩
        rintro σ H9 ⟨fv, rfl, s9, hfv⟩
        have T9 := T8.same s9
        have k69 : Keep tp H6 H9 := k68.same s9
        obtain ⟨fo, fo0, fo1, orv⟩ : ∃ fo : Int, 0 ≤ fo ∧ fo ≤ 1100000 ∧ ∀ (σ : L2.St) (H : Hp) (Q : VK), σ[9]? = some (some fv) → Q (.int fo) H → tOrT K (tVar 9) (tC (.int 0)) σ H Q := by
          rcases hfv with ⟨_, rfl⟩ | ⟨f, hf, rfl⟩
          · exact ⟨0, by omega, by omega, fun σ H Q h q => ⟨_, h, false, rfl, iteF q⟩⟩
          · have hb := isFl_le gl hkm hnow.2 hf
            by_cases z : f = 0
            · subst z
              exact ⟨0, by omega, by omega, fun σ H Q h q => ⟨_, h, false, rfl, iteF q⟩⟩
            · exact ⟨f, by omega, by omega, fun σ H Q h q => ⟨_, h, (f != 0), rfl, by rw [if_pos (bne_iff_ne.mpr z)]; exact q⟩⟩
        -- each long
        refine ⟨_, rfl, tp, c, 300, _, rfl, by omega, by omega, by omega, T9, fun dl H10 dl0 dl1 T10 k10 => ?_⟩
        refine orv _ _ _ rfl ?_
        refine ⟨_, rfl, _, _, rfl, rfl, _, _, rfl, ?_⟩
        refine orv _ _ _ rfl ?_
        refine ⟨_, _, rfl, rfl, by show 5 ≤ sizeLine; decide, fun ll hll => ?_⟩
        have hm1 : 0 ≤ (if fo - now > 0 then fo - now else 0) ∧ (if fo - now > 0 then fo - now else 0) ≤ 1100000 := by split <;> omega
        generalize hm : (if fo - now > 0 then fo - now else 0) = m1 at hm1
        have k610 : Keep tp H6 (upd H10 ll (.lst [.int 120, .int 0, .int dl, .int m1, .int (fo + 1)])) := (k69.trans k10).new hll
        have T11 : Tape (upd H10 ll (.lst [.int 120, .int 0, .int dl, .int m1, .int (fo + 1)])) tp c _ := T10.new hll
        have nll : ll ≠ tp := T10.ne hll
        have ell : (upd H10 ll (.lst [.int 120, .int 0, .int dl, .int m1, .int (fo + 1)])) ll = some (.lst [.int 120, .int 0, .int dl, .int m1, .int (fo + 1)]) := upd_same
        generalize (upd H10 ll (.lst [.int 120, .int 0, .int dl, .int m1, .int (fo + 1)])) = H11 at k610 T11 ell ⊢
        refine ⟨ll, rfl, ⟨_, SqL.of ell⟩, for_list (K := K) (a := ll) (xs := [.int 120, .int 0, .int dl, .int m1, .int (fo + 1)]) (fun m σ H' => ∃ (u10 u11 u12 u13 : Option V), σ = [some (.ref a), some (.ref tp), some (.int (0 + (i : Int))), some (.ref b), some (.ref x1), some (.ref p), some (.ref eg), some (.int (0 + (j : Int))), some (.int now), some fv, u10, u11, u12, u13, w14] ∧ Tape H' tp c (100000 * i + 30000 + 1000 * j + 10 + m) ∧ Keep tp H11 H')
          ⟨_, _, _, _, rfl, T11.mono (by omega), Keep.refl⟩ (fun m σ H' _ ⟨_, _, _, _, _, _, z⟩ => SqL.of (z _ _ nll ell)) ?_ ?_⟩
        · rintro m y σ H12 hy ⟨u10, u11, u12, u13, rfl, T12, k12⟩
          have hm5 : m < 5 := (List.getElem?_eq_some_iff.mp hy).1
          obtain ⟨lasts, rfl, la0, la1⟩ := pickI (xs := [120, 0, dl, m1, fo + 1]) (lo := 0) (hi := 2000000) (by simp; omega) hy
          have k612 : Keep tp H6 H12 := k610.trans k12
          refine ⟨fun σ H13 => ∃ (ds : Str), σ = [some (.ref a), some (.ref tp), some (.int (0 + (i : Int))), some (.ref b), some (.ref x1), some (.ref p), some (.ref eg), some (.int (0 + (j : Int))), some (.int now), some fv, some (.int lasts), some (.str ds), u12, u13, w14] ∧ H13 = H12 ∧
            ((lostL g (knownOf now rs) now = [] ∧ fv = .non ∧ ds = PyData.none.shown) ∨ ∃ f, IsFl g (knownOf now rs) now f ∧ fv = .int f ∧ ds = (PyData.int (f - lasts)).shown), ?_, ?_⟩
          · refine ⟨_, rfl, rfl, _, rfl, ?_⟩
            rcases hfv with ⟨e0, rfl⟩ | ⟨f, hf, rfl⟩
            · exact iteT ⟨_, .none, rfl, .non, rfl, rfl, by rw [PyData.shown]; decide, _, rfl, rfl, .inl ⟨e0, rfl, rfl⟩⟩
            · have hb := isFl_le gl hkm hnow.2 hf
              have hbb : (f - lasts).natAbs < 10000000000 := by omega
              exact iteF ⟨_, rfl, _, rfl, _, _, rfl, rfl, _, .int (f - lasts), rfl, .int _, rfl, int_showable hbb, int_shown hbb, _, rfl, rfl, .inr ⟨f, hf, rfl, rfl⟩⟩
          rintro σ H13 ⟨ds, rfl, rfl, hds⟩
          refine ⟨fun σ H14 => ∃ (d : PyData), σ = [some (.ref a), some (.ref tp), some (.int (0 + (i : Int))), some (.ref b), some (.ref x1), some (.ref p), some (.ref eg), some (.int (0 + (j : Int))), some (.int now), some fv, some (.int lasts), some (.str d.shown), u12, u13, w14] ∧ Same H13 H14 ∧ dueD g (knownOf now rs) now lasts d, ?_, ?_⟩
          · refine ⟨_, rfl, rfl, _, rfl, ?_⟩
            rcases hds with ⟨e0, rfl, rfl⟩ | ⟨f, hf, rfl, rfl⟩
            · exact iteF (iteF ⟨.none, rfl, same_refl, .inl ⟨e0, rfl⟩⟩)
            · have hb := isFl_le gl hkm hnow.2 hf
              have hbb : f.natAbs < 10000000000 := by omega
              refine iteT ⟨_, rfl, _, rfl, _, _, rfl, rfl, _, rfl, _, _, rfl, rfl, _, rfl, ite2 (fun c => ?_) (fun c => ?_)⟩
              · refine ⟨_, rfl, by show 4 ≤ sizeLine; decide, fun t ht => ⟨_, lateD f, rfl, .tup (SqT.of upd_same) (.cons (.str _) (.cons (.int _) (.cons (.bl _) (.cons (.bl _) .nil)))), late_shaped f, late_showable hbb, late_shown hbb, ?_⟩⟩
                exact ⟨lateD f, rfl, same_upd ht, .inr ⟨f, hf, .inr ⟨of_decide_eq_true c, rfl⟩⟩⟩
              · exact ⟨.int (f - lasts), rfl, same_refl, .inr ⟨f, hf, .inl ⟨fun z => c (decide_eq_true z), rfl⟩⟩⟩
          rintro σ H14 ⟨d, rfl, s14, hd⟩
          have k614 : Keep tp H6 H14 := k612.same s14
          have T14 := T12.same s14
          obtain ⟨xs6, ep6, rx6⟩ := id hp6
          have hT6 := hTp6
          have ep14 := k614 _ _ npt ep6
          have rx14 : Rds H14 xs6 rs := rx6.mono fun z ts e => k614 _ _ (ne_of e hT6 (by intro z; cases z)) e
          refine ⟨_, rfl, p, _, rfl, .inl (SqL.of ep14), fun r hr => ?_⟩
          have sr := same_upd (o := .lst xs6) hr
          have nrt := T14.ne hr
          refine ⟨_, rfl, _, rfl, _, rfl, _, rfl, _, rfl, tp, c, 3, _, rfl, by omega, by omega, by omega, T14.new hr, fun dw H15 dw0 dw1 T15 k15 => ?_⟩
          have k6r : Keep tp H6 (upd H14 r (.lst xs6)) := k614.new hr
          have k615 := k6r.trans k15
          have er15 := k15 _ _ nrt (upd_same (H := H14) (a := r) (o := .lst xs6))
          have rx15 : Rds H15 xs6 rs := rx6.mono fun z ts e => k615 _ _ (ne_of e hT6 (by intro z; cases z)) e
          refine ⟨x1, r, g, rs, now, lasts, dw, rfl, hg6.keep hT6 k615, ⟨xs6, er15, rx15⟩, hl5, hall, gl, g2, hnow.1, hnow.2, la0, la1, fun d2 H16 s16 hd2 => ?_⟩
          have e := due_one hd hd2
          subst e
          have rx16 : Rds H16 xs6 rs := rx15.mono fun z ts e => s16 _ _ e
          have e0 : (!decide (V.str d.shown = V.str d.shown)) = false := by rw [decide_eq_true rfl]; rfl
          refine ⟨_, rfl, _, rfl, rfl, _, rfl, ?_⟩
          rw [e0]
          refine iteF ⟨_, rfl, _, rfl, .list (rs.map rdD), .list (rs.map rdD), .lst (SqL.of (s16 _ _ er15)) (rds_dp rx16), .lst (SqL.of (s16 _ _ (k615 _ _ npt ep6))) (rds_dp rx16), rds_shaped rs, rds_shaped rs, _, rfl, ?_⟩
          rw [rds_refl]
          exact iteF ⟨_, _, _, _, rfl, (T15.same s16).mono (by omega), ((k12.same s14).new hr).trans (k15.same s16)⟩
        · rintro σ H12 ⟨u10, u11, u12, u13, rfl, T12, k12⟩
          exact ⟨_, _, _, _, _, _, _, _, rfl, T12.mono (by show _ + 10 + 5 ≤ _; omega), k610.trans k12⟩
      · rintro σ H' ⟨w7, w8, w9, w10, w11, w12, w13, w14, rfl, Tj, kj⟩
        exact ⟨_, _, _, _, _, _, _, _, _, _, _, _, _, rfl, Tj.mono (by omega)⟩
    · rintro σ H2 ⟨v2, v3, v4, v5, v6, v7, v8, v9, v10, v11, v12, v13, v14, rfl, T2⟩
      intro xa dxa hxa hdxa nea
      refine ⟨xa, dxa, ⟨60, 200, 400, 5, 20⟩, rfl, upd_same, fun H3 hga k3 => ⟨rfl, ?_⟩⟩
      obtain ⟨dxa', exa⟩ := id hga
      have z1 : lostL ⟨60, 200, 400, 5, 20⟩ (knownOf 5 []) 5 = [] := by decide +kernel
      have z2 : lostL ⟨200, 200, 400, 5, 20⟩ (knownOf 0 [⟨0, true, 400⟩]) 0 = [200] := by decide +kernel
      refine ⟨xa, dxa', _, rfl, exa, ggF_last _, Nat.zero_le _, fun l hl => ⟨rfl, rfl, xa, l, _, [], 5, 120, rfl, ⟨dxa', upd_at hl exa⟩, ⟨[], upd_same, .nil⟩, Nat.zero_le _, by decide, fun H4 s4 _ => ?_, fun f H4 _ hf => absurd z1 (isFl_some hf), fun f d H4 _ hf => absurd z1 (isFl_some hf)⟩⟩
      refine ⟨rfl, _, rfl, iteT ?_⟩
      refine ⟨rfl, rfl, ?_⟩
      intro xb dxb hxb hdxb neb
      refine ⟨xb, dxb, ⟨200, 200, 400, 5, 20⟩, rfl, upd_same, fun H5 hgb k5 => ⟨rfl, ?_⟩⟩
      obtain ⟨dxb', exb⟩ := id hgb
      refine ⟨xb, dxb', _, rfl, exb, ggF_last _, by show 3 ≤ sizeLine; decide, fun t ht => ⟨by show 1 ≤ sizeLine; decide, fun l2 hl2 => ?_⟩⟩
      have ntl : t ≠ l2 := ne_of_none (upd_same (H := H5) (a := t) (o := .tup [.int 0, .str "water", .int 400])) hl2
      refine ⟨rfl, rfl, xb, l2, _, [⟨0, true, 400⟩], 0, 200, rfl, ⟨dxb', upd_at hl2 (upd_at ht exb)⟩, ⟨[.ref t], upd_same, .cons (r := ⟨0, true, 400⟩) (by rw [upd_ne ntl]; exact upd_same) .nil⟩, by decide, by decide, fun H6 _ e => ?_, fun f H6 s6 hf _ => ?_, fun f d H6 _ hf c => ?_⟩
      · rw [z2] at e; cases e
      · have hf1 := hf.1
        rw [z2] at hf1
        have e := List.mem_singleton.mp hf1
        subst e
        exact ⟨rfl, q _⟩
      · have hf1 := hf.1
        rw [z2] at hf1
        have e := List.mem_singleton.mp hf1
        subst e
        exact absurd c (by decide)
end
theorem oex_of {K : PySem.W.Frag} {B newId initId : String} {nm q : Str} {C N : Addr} {bs bm : List Value} {sn : List Str} {sub : List Value} {ab : Bool} {col : Option Bool} {dd : Option Addr} {m0 m1 m2 m3 m5 : Option Value}
    (FB : PySem.ExcBaseFacts B newId initId bm) (SF : PySem.StoreFacts B bm "object.__setattr__" "object") (xL : K.lookup C = some (excClassObj nm q C N bs bm true sn sub ab col dd m0 m1 m2 m3 m5 newId)) (ht : PySem.W.excTail bm bm = true)
    (hd : PySem.W.hasDictIn K C = true) (sa : PySem.W.findIn K (.ref C) "__setattr__" = some (some (.builtin "object.__setattr__"))) (exC : PySem.W.subIn K (.ref C) (.type "BaseException") = some true) (tyC : PySem.W.typeIn K (.ref C) = some (.type "type")) (kC : PySem.W.keepIn K (.ref C) = true) : OexB K C := by
  refine ⟨⟨B, newId, initId, bm, bm, nm, q, N, bs, true, sn, sub, ab, col, dd, m0, m1, m2, m3, m5, FB, ⟨FB.hasB, FB.noAttr, FB.noName⟩, xL⟩, ⟨B, bm, SF, ?_⟩, hd, sa, exC, tyC, kC⟩
  unfold PySem.W.excOver PySem.W.clsIn
  rw [xL]
  simp [excClassObj, ht]
/-- KeyError: stores by its own facts, made by LookupError's __new__ -/
abbrev keyTail : List Value := [.type "KeyError", .type "LookupError", .type "Exception", .type "BaseException", .type "object"]
theorem store_KeyError : PySem.StoreFacts "KeyError" keyTail "object.__setattr__" "object" :=
  ⟨by kernel_rfl, .of (n := "__setattr__") (owner := "object") (by rw [typeLookup_type, builtinLookup_eq_fast]; kernel_rfl) (by decide +kernel) (by decide +kernel) (by decide +kernel) (.inl (by decide +kernel)) (by rw [isSubtype_type]; kernel_rfl),
    PySem.F.entry_object_sa, by decide +kernel, by decide +kernel, by decide +kernel, fun a b c => by unfold argsOk; kernel_rfl, fun self => by kernel_rfl⟩
theorem oex_key {K : PySem.W.Frag} {nm q : Str} {C N : Addr} {bs : List Value} {sn : List Str} {sub : List Value} {ab : Bool} {col : Option Bool} {dd : Option Addr} {m0 m1 m2 m3 m5 : Option Value}
    (xL : K.lookup C = some (excClassObj nm q C N bs keyTail true sn sub ab col dd m0 m1 m2 m3 m5 "LookupError.__new__"))
    (hd : PySem.W.hasDictIn K C = true) (sa : PySem.W.findIn K (.ref C) "__setattr__" = some (some (.builtin "object.__setattr__"))) (exC : PySem.W.subIn K (.ref C) (.type "BaseException") = some true) (tyC : PySem.W.typeIn K (.ref C) = some (.type "type")) (kC : PySem.W.keepIn K (.ref C) = true) : OexB K C := by
  refine ⟨⟨"LookupError", _, _, _, keyTail, nm, q, N, bs, true, sn, sub, ab, col, dd, m0, m1, m2, m3, m5, PySem.F.excBase_LookupError, ⟨by decide +kernel, by decide +kernel, by decide +kernel⟩, xL⟩, ⟨"KeyError", keyTail, store_KeyError, ?_⟩, hd, sa, exC, tyC, kC⟩
  unfold PySem.W.excOver PySem.W.clsIn
  rw [xL]
  simp [excClassObj, show PySem.W.excTail keyTail keyTail = true by decide +kernel]
theorem kit_up {K : PySem.W.Frag} {C : Addr} {T : String} (m : PySem.W.kitMeta T = true) (s : PySem.W.subIn K (.ref C) (.type T) = some true) : PySem.W.kitOne K (.ref C) (.type T) = some true := by
  show (if (Value.ref C == Value.type T) = true then some true else if PySem.W.kitMeta T = true then PySem.W.subIn K (.ref C) (.type T) else none) = some true
  rw [if_neg (by intro z; cases z), if_pos m]
  exact s
theorem kit_cls2 {K : PySem.W.Frag} {C D : Addr} {b : Bool} (ic : PySem.W.isClsIn K D = true) (ty : PySem.W.typeIn K (.ref D) = some (.type "type")) (s : PySem.W.subIn K (.ref C) (.ref D) = some b) : PySem.W.kitCls K (.ref C) (.ref D) = some b := by
  have ic' : (PySem.W.clsIn K D).isSome = true := ic
  have e : ((PySem.W.clsIn K D).isSome && PySem.W.typeIn K (.ref D) == some (.type "type")) = true := by rw [ic', ty]; rfl
  show (if ((PySem.W.clsIn K D).isSome && PySem.W.typeIn K (.ref D) == some (.type "type")) = true then PySem.W.subIn K (.ref C) (.ref D) else none) = some b
  rw [if_pos e]
  exact s
theorem kit_other {K : PySem.W.Frag} {C D : Addr} (self : PySem.W.subIn K (.ref C) (.ref C) = some true) (ic : PySem.W.isClsIn K D = true) (ty : PySem.W.typeIn K (.ref D) = some (.type "type")) (s : PySem.W.subIn K (.ref C) (.ref D) = some false) : PySem.W.kitOne K (.ref C) (.ref D) = some false := by
  have ne : ¬ (Value.ref C == Value.ref D) = true := by
    intro z
    have e := eq_of_beq z
    injection e with e
    subst e
    rw [self] at s
    cases s
  show (if (Value.ref C == Value.ref D) = true then some true else PySem.W.kitCls K (.ref C) (.ref D)) = some false
  rw [if_neg ne]
  exact kit_cls2 ic ty s
theorem exm_hit {K : PySem.W.Frag} {C : Addr} (ex : PySem.W.subIn K (.ref C) (.type "BaseException") = some true) (ic : PySem.W.isClsIn K C = true) (ty : PySem.W.typeIn K (.ref C) = some (.type "type")) (s : PySem.W.subIn K (.ref C) (.ref C) = some true) : PySem.W.exmOne K (.ref C) (.ref C) = some true := by
  show (if (PySem.W.subIn K (.ref C) (.type "BaseException") == some true) = true then PySem.W.kitCls K (.ref C) (.ref C) else none) = some true
  rw [if_pos (by rw [ex]; rfl)]
  exact kit_cls2 ic ty s
theorem any_no {K : PySem.W.Frag} {t c : Value} {cs : List Value} (h : PySem.W.kitOne K t c = some false) (r : PySem.W.kitAny K t cs = some false) : PySem.W.kitAny K t (c :: cs) = some false := kitAny_cons h (fun _ => r) (fun z => nomatch z)
theorem kit_upN {K : PySem.W.Frag} {C : Addr} {T : String} (m : PySem.W.kitMeta T = true) (s : PySem.W.subIn K (.ref C) (.type T) = some false) : PySem.W.kitOne K (.ref C) (.type T) = some false := by
  show (if (Value.ref C == Value.type T) = true then some true else if PySem.W.kitMeta T = true then PySem.W.subIn K (.ref C) (.type T) else none) = some false
  rw [if_neg (by intro z; cases z), if_pos m]
  exact s
theorem all_mk {l : PySem.W.OpenLaw} {w : World} {K : PySem.W.Frag} {h : Heap} {mg : Str → Option Value} {fa f_number_at f_law_feed f_law_draw f_law_of f_law_readings f_law_bounds f_law_last f_law_stand f_law_flood f_law_told flaw fGauge___init__ fGauge_stand fGauge__changes fGauge_last_call fTooLate___init__ CGauge CTooLate TGauge___init__ TGauge_last_call : Addr} (X : K.In h) (G : h.Ns mainGlobals mg) (hfa : mg "law" = some (.ref fa))
    {od_number_at an_number_at od_law_feed an_law_feed od_law_draw an_law_draw od_law_of an_law_of od_law_readings an_law_readings od_law_bounds an_law_bounds od_law_last an_law_last od_law_stand an_law_stand od_law_flood an_law_flood od_law_told an_law_told odlaw anlaw odGauge___init__ anGauge___init__ odGauge_stand anGauge_stand odGauge__changes anGauge__changes odGauge_last_call anGauge_last_call odTooLate___init__ anTooLate___init__ odTGauge___init__ odTGauge_last_call : Option Addr} {sl_number_at sl_law_feed sl_law_draw sl_law_of sl_law_readings sl_law_bounds sl_law_last sl_law_stand sl_law_flood sl_law_told sllaw slGauge___init__ slGauge_stand slGauge__changes slGauge_last_call slTooLate___init__ slTGauge___init__ slTGauge_last_call : Array (Option Value)} {oc_number_at kV_number_at dc_number_at pm_number_at cd_number_at ct_number_at oc_law_feed kV_law_feed dc_law_feed pm_law_feed cd_law_feed ct_law_feed oc_law_draw kV_law_draw dc_law_draw pm_law_draw cd_law_draw ct_law_draw oc_law_of kV_law_of dc_law_of pm_law_of cd_law_of ct_law_of oc_law_readings kV_law_readings dc_law_readings pm_law_readings cd_law_readings ct_law_readings oc_law_bounds kV_law_bounds dc_law_bounds pm_law_bounds cd_law_bounds ct_law_bounds oc_law_last kV_law_last dc_law_last pm_law_last cd_law_last ct_law_last oc_law_stand kV_law_stand dc_law_stand pm_law_stand cd_law_stand ct_law_stand oc_law_flood kV_law_flood dc_law_flood pm_law_flood cd_law_flood ct_law_flood oc_law_told kV_law_told dc_law_told pm_law_told cd_law_told ct_law_told oclaw kVlaw dclaw pmlaw cdlaw ctlaw ocGauge___init__ kVGauge___init__ dcGauge___init__ pmGauge___init__ cdGauge___init__ ctGauge___init__ ocGauge_stand kVGauge_stand dcGauge_stand pmGauge_stand cdGauge_stand ctGauge_stand ocGauge__changes kVGauge__changes dcGauge__changes pmGauge__changes cdGauge__changes ctGauge__changes ocGauge_last_call kVGauge_last_call dcGauge_last_call pmGauge_last_call cdGauge_last_call ctGauge_last_call ocTooLate___init__ kVTooLate___init__ dcTooLate___init__ pmTooLate___init__ cdTooLate___init__ ctTooLate___init__ ocTGauge___init__ ocTGauge_last_call : Value} {nTGauge___init__ nTGauge_last_call : Nat} {tdGauge___init___0 tdGauge___init___1 tdGauge___init___2 tdGauge___init___3 tdGauge___init___4 tdGauge_last_call_0 : Tok} {nmTooLate qTooLate : Str} {NTooLate : Addr} {bsTooLate : List Value} {snTooLate : List Str} {subTooLate : List Value} {abTooLate : Bool} {colTooLate : Option Bool} {ddTooLate : Option Addr} {p0TooLate p1TooLate p2TooLate p3TooLate p5TooLate : Option Value} {tWATER tICE tLOST tSHUT tSLOW tFREE : Tok}
    (aTooLate : PySem.W.nsIn K mainGlobals "TooLate" = some (some (.ref CTooLate))) (xlTooLate : K.lookup CTooLate = some (excClassObj nmTooLate qTooLate CTooLate NTooLate bsTooLate [.type "RuntimeError", .type "Exception", .type "BaseException", .type "object"] true snTooLate subTooLate abTooLate colTooLate ddTooLate p0TooLate p1TooLate p2TooLate p3TooLate p5TooLate "RuntimeError.__new__"))
    (hdTooLate : PySem.W.hasDictIn K CTooLate = true) (saTooLate : PySem.W.findIn K (.ref CTooLate) "__setattr__" = some (some (.builtin "object.__setattr__"))) (exTooLate : PySem.W.subIn K (.ref CTooLate) (.type "BaseException") = some true) (tyTooLate : PySem.W.typeIn K (.ref CTooLate) = some (.type "type")) (kcTooLate : PySem.W.keepIn K (.ref CTooLate) = true) (icTooLate : PySem.W.isClsIn K CTooLate = true) (seTooLate : PySem.W.subIn K (.ref CTooLate) (.ref CTooLate) = some true) (upTooLate : PySem.W.subIn K (.ref CTooLate) (.type "RuntimeError") = some true)
    (gaTooLate : PySem.W.findIn K (.ref CTooLate) "__getattribute__" = some (some (.builtin "BaseException.__getattribute__"))) (ggTooLate : PySem.W.findIn K (.ref CTooLate) "__getattr__" = some none) (haTooLate : PySem.W.findIn K (.ref CTooLate) "__class__" = some (some (.builtin "object.__class__"))) (hnTooLate : PySem.W.specialIn K (.builtin "object.__class__") "__get__" = some (some (.builtin "getset_descriptor.__get__"))) (htTooLate : PySem.W.takesIn K (.builtin "object.__class__") = some true) (hmTooLate : PySem.W.mroIn K CTooLate (.type "object") = some true)
    (nTooLate_minute : PySem.W.findIn K (.ref CTooLate) "minute" = some none)
    (snTooLate_ValueError : PySem.W.subIn K (.ref CTooLate) (.type "ValueError") = some false)
    (aGauge : PySem.W.nsIn K mainGlobals "Gauge" = some (some (.ref CGauge))) (pgGauge : PySem.W.plainGet K CGauge Str.empty = true) (hdGauge : PySem.W.hasDictIn K CGauge = true) (poGauge : PySem.W.plainOver K CGauge = true) (saGauge : PySem.W.findIn K (.ref CGauge) "__setattr__" = some (some (.builtin "object.__setattr__"))) (mkGauge : PySem.W.makesIn K CGauge = true) (kcGauge : PySem.W.keepIn K (.ref CGauge) = true)
    (haGauge : PySem.W.findIn K (.ref CGauge) "__class__" = some (some (.builtin "object.__class__"))) (hnGauge : PySem.W.specialIn K (.builtin "object.__class__") "__get__" = some (some (.builtin "getset_descriptor.__get__"))) (htGauge : PySem.W.takesIn K (.builtin "object.__class__") = some true) (hmGauge : PySem.W.mroIn K CGauge (.type "object") = some true) (nfGauge : PySem.W.notFirst K CGauge (.ref CGauge) = true)
    (nGauge_lag : PySem.W.findIn K (.ref CGauge) "lag" = some none)
    (nGauge_high : PySem.W.findIn K (.ref CGauge) "high" = some none)
    (nGauge_top : PySem.W.findIn K (.ref CGauge) "top" = some none)
    (nGauge_thin : PySem.W.findIn K (.ref CGauge) "thin" = some none)
    (nGauge_thick : PySem.W.findIn K (.ref CGauge) "thick" = some none)
    (aGauge___init__ : PySem.W.findIn K (.ref CGauge) "__init__" = some (some (.ref fGauge___init__))) (iGauge___init__ : PySem.W.isFn K (.ref fGauge___init__) = true) (lGauge___init__ : K.lookup fGauge___init__ = some ⟨ocGauge___init__, odGauge___init__, .func (PySem.W.fnOf "__init__" "Gauge.__init__" (defArgs sGInit) (defBody sGInit) (defScope sGInit) (.ref TGauge___init__) kVGauge___init__ dcGauge___init__ pmGauge___init__ anGauge___init__ cdGauge___init__ ctGauge___init__), slGauge___init__⟩) (cGauge___init__ : PySem.W.codeIn K cdGauge___init__ "Gauge.__init__" = true) (kGauge___init__ : PySem.W.keepIn K (.ref fGauge___init__) = true)
    (dGauge___init__ : K.lookup TGauge___init__ = some ⟨ocTGauge___init__, odTGauge___init__, .seq #[.int 60 tdGauge___init___0, .int 200 tdGauge___init___1, .int 400 tdGauge___init___2, .int 5 tdGauge___init___3, .int 20 tdGauge___init___4] nTGauge___init__, slTGauge___init__⟩)
    (aGauge_stand : PySem.W.findIn K (.ref CGauge) "stand" = some (some (.ref fGauge_stand))) (iGauge_stand : PySem.W.isFn K (.ref fGauge_stand) = true) (lGauge_stand : K.lookup fGauge_stand = some ⟨ocGauge_stand, odGauge_stand, .func (PySem.W.fnOf "stand" "Gauge.stand" (defArgs sGStand) (defBody sGStand) (defScope sGStand) .none kVGauge_stand dcGauge_stand pmGauge_stand anGauge_stand cdGauge_stand ctGauge_stand), slGauge_stand⟩) (cGauge_stand : PySem.W.codeIn K cdGauge_stand "Gauge.stand" = true) (kGauge_stand : PySem.W.keepIn K (.ref fGauge_stand) = true)
    (aGauge__changes : PySem.W.findIn K (.ref CGauge) "_changes" = some (some (.ref fGauge__changes))) (iGauge__changes : PySem.W.isFn K (.ref fGauge__changes) = true) (lGauge__changes : K.lookup fGauge__changes = some ⟨ocGauge__changes, odGauge__changes, .func (PySem.W.fnOf "_changes" "Gauge._changes" (defArgs sChg) (defBody sChg) (defScope sChg) .none kVGauge__changes dcGauge__changes pmGauge__changes anGauge__changes cdGauge__changes ctGauge__changes), slGauge__changes⟩) (cGauge__changes : PySem.W.codeIn K cdGauge__changes "Gauge._changes" = true) (kGauge__changes : PySem.W.keepIn K (.ref fGauge__changes) = true)
    (aGauge_last_call : PySem.W.findIn K (.ref CGauge) "last_call" = some (some (.ref fGauge_last_call))) (iGauge_last_call : PySem.W.isFn K (.ref fGauge_last_call) = true) (lGauge_last_call : K.lookup fGauge_last_call = some ⟨ocGauge_last_call, odGauge_last_call, .func (PySem.W.fnOf "last_call" "Gauge.last_call" (defArgs sLc) (defBody sLc) (defScope sLc) (.ref TGauge_last_call) kVGauge_last_call dcGauge_last_call pmGauge_last_call anGauge_last_call cdGauge_last_call ctGauge_last_call), slGauge_last_call⟩) (cGauge_last_call : PySem.W.codeIn K cdGauge_last_call "Gauge.last_call" = true) (kGauge_last_call : PySem.W.keepIn K (.ref fGauge_last_call) = true)
    (dGauge_last_call : K.lookup TGauge_last_call = some ⟨ocTGauge_last_call, odTGauge_last_call, .seq #[.int 120 tdGauge_last_call_0] nTGauge_last_call, slTGauge_last_call⟩)
    (aTooLate___init__ : PySem.W.findIn K (.ref CTooLate) "__init__" = some (some (.ref fTooLate___init__))) (iTooLate___init__ : PySem.W.isFn K (.ref fTooLate___init__) = true) (lTooLate___init__ : K.lookup fTooLate___init__ = some ⟨ocTooLate___init__, odTooLate___init__, .func (PySem.W.fnOf "__init__" "TooLate.__init__" (defArgs sTInit) (defBody sTInit) (defScope sTInit) .none kVTooLate___init__ dcTooLate___init__ pmTooLate___init__ anTooLate___init__ cdTooLate___init__ ctTooLate___init__), slTooLate___init__⟩) (cTooLate___init__ : PySem.W.codeIn K cdTooLate___init__ "TooLate.__init__" = true) (kTooLate___init__ : PySem.W.keepIn K (.ref fTooLate___init__) = true)
    (a_number_at : PySem.W.nsIn K mainGlobals "_number_at" = some (some (.ref f_number_at))) (l_number_at : K.lookup f_number_at = some ⟨oc_number_at, od_number_at, .func (PySem.W.fnOf "_number_at" "_number_at" (defArgs sNumAt) (defBody sNumAt) (defScope sNumAt) .none kV_number_at dc_number_at pm_number_at an_number_at cd_number_at ct_number_at), sl_number_at⟩) (c_number_at : PySem.W.codeIn K cd_number_at "_number_at" = true) (k_number_at : PySem.W.keepIn K (.ref f_number_at) = true)
    (a_law_feed : PySem.W.nsIn K mainGlobals "_law_feed" = some (some (.ref f_law_feed))) (l_law_feed : K.lookup f_law_feed = some ⟨oc_law_feed, od_law_feed, .func (PySem.W.fnOf "_law_feed" "_law_feed" (defArgs sFeed) (defBody sFeed) (defScope sFeed) .none kV_law_feed dc_law_feed pm_law_feed an_law_feed cd_law_feed ct_law_feed), sl_law_feed⟩) (c_law_feed : PySem.W.codeIn K cd_law_feed "_law_feed" = true) (k_law_feed : PySem.W.keepIn K (.ref f_law_feed) = true)
    (a_law_draw : PySem.W.nsIn K mainGlobals "_law_draw" = some (some (.ref f_law_draw))) (l_law_draw : K.lookup f_law_draw = some ⟨oc_law_draw, od_law_draw, .func (PySem.W.fnOf "_law_draw" "_law_draw" (defArgs sDraw) (defBody sDraw) (defScope sDraw) .none kV_law_draw dc_law_draw pm_law_draw an_law_draw cd_law_draw ct_law_draw), sl_law_draw⟩) (c_law_draw : PySem.W.codeIn K cd_law_draw "_law_draw" = true) (k_law_draw : PySem.W.keepIn K (.ref f_law_draw) = true)
    (a_law_of : PySem.W.nsIn K mainGlobals "_law_of" = some (some (.ref f_law_of))) (l_law_of : K.lookup f_law_of = some ⟨oc_law_of, od_law_of, .func (PySem.W.fnOf "_law_of" "_law_of" (defArgs sOf) (defBody sOf) (defScope sOf) .none kV_law_of dc_law_of pm_law_of an_law_of cd_law_of ct_law_of), sl_law_of⟩) (c_law_of : PySem.W.codeIn K cd_law_of "_law_of" = true) (k_law_of : PySem.W.keepIn K (.ref f_law_of) = true)
    (a_law_readings : PySem.W.nsIn K mainGlobals "_law_readings" = some (some (.ref f_law_readings))) (l_law_readings : K.lookup f_law_readings = some ⟨oc_law_readings, od_law_readings, .func (PySem.W.fnOf "_law_readings" "_law_readings" (defArgs sReadings) (defBody sReadings) (defScope sReadings) .none kV_law_readings dc_law_readings pm_law_readings an_law_readings cd_law_readings ct_law_readings), sl_law_readings⟩) (c_law_readings : PySem.W.codeIn K cd_law_readings "_law_readings" = true) (k_law_readings : PySem.W.keepIn K (.ref f_law_readings) = true)
    (a_law_bounds : PySem.W.nsIn K mainGlobals "_law_bounds" = some (some (.ref f_law_bounds))) (l_law_bounds : K.lookup f_law_bounds = some ⟨oc_law_bounds, od_law_bounds, .func (PySem.W.fnOf "_law_bounds" "_law_bounds" (defArgs sBounds) (defBody sBounds) (defScope sBounds) .none kV_law_bounds dc_law_bounds pm_law_bounds an_law_bounds cd_law_bounds ct_law_bounds), sl_law_bounds⟩) (c_law_bounds : PySem.W.codeIn K cd_law_bounds "_law_bounds" = true) (k_law_bounds : PySem.W.keepIn K (.ref f_law_bounds) = true)
    (a_law_last : PySem.W.nsIn K mainGlobals "_law_last" = some (some (.ref f_law_last))) (l_law_last : K.lookup f_law_last = some ⟨oc_law_last, od_law_last, .func (PySem.W.fnOf "_law_last" "_law_last" (defArgs sLast) (defBody sLast) (defScope sLast) .none kV_law_last dc_law_last pm_law_last an_law_last cd_law_last ct_law_last), sl_law_last⟩) (c_law_last : PySem.W.codeIn K cd_law_last "_law_last" = true) (k_law_last : PySem.W.keepIn K (.ref f_law_last) = true)
    (a_law_stand : PySem.W.nsIn K mainGlobals "_law_stand" = some (some (.ref f_law_stand))) (l_law_stand : K.lookup f_law_stand = some ⟨oc_law_stand, od_law_stand, .func (PySem.W.fnOf "_law_stand" "_law_stand" (defArgs sLStand) (defBody sLStand) (defScope sLStand) .none kV_law_stand dc_law_stand pm_law_stand an_law_stand cd_law_stand ct_law_stand), sl_law_stand⟩) (c_law_stand : PySem.W.codeIn K cd_law_stand "_law_stand" = true) (k_law_stand : PySem.W.keepIn K (.ref f_law_stand) = true)
    (a_law_flood : PySem.W.nsIn K mainGlobals "_law_flood" = some (some (.ref f_law_flood))) (l_law_flood : K.lookup f_law_flood = some ⟨oc_law_flood, od_law_flood, .func (PySem.W.fnOf "_law_flood" "_law_flood" (defArgs sFlood) (defBody sFlood) (defScope sFlood) .none kV_law_flood dc_law_flood pm_law_flood an_law_flood cd_law_flood ct_law_flood), sl_law_flood⟩) (c_law_flood : PySem.W.codeIn K cd_law_flood "_law_flood" = true) (k_law_flood : PySem.W.keepIn K (.ref f_law_flood) = true)
    (a_law_told : PySem.W.nsIn K mainGlobals "_law_told" = some (some (.ref f_law_told))) (l_law_told : K.lookup f_law_told = some ⟨oc_law_told, od_law_told, .func (PySem.W.fnOf "_law_told" "_law_told" (defArgs sTold) (defBody sTold) (defScope sTold) .none kV_law_told dc_law_told pm_law_told an_law_told cd_law_told ct_law_told), sl_law_told⟩) (c_law_told : PySem.W.codeIn K cd_law_told "_law_told" = true) (k_law_told : PySem.W.keepIn K (.ref f_law_told) = true)
    (alaw : PySem.W.nsIn K mainGlobals "law" = some (some (.ref flaw))) (llaw : K.lookup flaw = some ⟨oclaw, odlaw, .func (PySem.W.fnOf "law" "law" (defArgs sLaw) (defBody sLaw) (defScope sLaw) .none kVlaw dclaw pmlaw anlaw cdlaw ctlaw), sllaw⟩) (claw : PySem.W.codeIn K cdlaw "law" = true) (klaw : PySem.W.keepIn K (.ref flaw) = true)
    (aWATER : PySem.W.nsIn K mainGlobals "WATER" = some (some (.str "water" tWATER)))
    (aICE : PySem.W.nsIn K mainGlobals "ICE" = some (some (.str "ice" tICE)))
    (aLOST : PySem.W.nsIn K mainGlobals "LOST" = some (some (.str "lost" tLOST)))
    (aSHUT : PySem.W.nsIn K mainGlobals "SHUT" = some (some (.str "shut" tSHUT)))
    (aSLOW : PySem.W.nsIn K mainGlobals "SLOW" = some (some (.str "slow" tSLOW)))
    (aFREE : PySem.W.nsIn K mainGlobals "FREE" = some (some (.str "free" tFREE)))
    (zlen : PySem.W.nsIn K mainGlobals "len" = some none)
    (zmax : PySem.W.nsIn K mainGlobals "max" = some none)
    (zmin : PySem.W.nsIn K mainGlobals "min" = some none)
    (zlist : PySem.W.nsIn K mainGlobals "list" = some none)
    (zrange : PySem.W.nsIn K mainGlobals "range" = some none)
    (zsorted : PySem.W.nsIn K mainGlobals "sorted" = some none)
    (zrepr : PySem.W.nsIn K mainGlobals "repr" = some none)
    (zisinstance : PySem.W.nsIn K mainGlobals "isinstance" = some none)
    (zRuntimeError : PySem.W.nsIn K mainGlobals "RuntimeError" = some none)
    (zValueError : PySem.W.nsIn K mainGlobals "ValueError" = some none)
    : ∃ fd : FuncData, (∀ (s : Shared) (v : Value), BindsTo s fd ⟨[v], []⟩ [("_law_script", v)]) ∧ ∀ base : Heap, K.In base → base.Ns mainGlobals mg → FnOkG l.prog w K mg base CX0 7 fa fd ["_law_script"] (spLaw K) := by
  have e := hfa.symm.trans (PySem.W.mg_of X G alaw)
  cases e
  have F_number_at := fun_mk (st := sNumAt) l_number_at c_number_at k_number_at
  have g_number_at := PySem.W.mg_of X G a_number_at
  have b_number_at := F_number_at.binds (ps := ["readings", "kind", "until"]) fun _ _ _ _ _ _ us hl => match us, hl with | [_, _, _], _ => rfl
  have F_law_feed := fun_mk (st := sFeed) l_law_feed c_law_feed k_law_feed
  have g_law_feed := PySem.W.mg_of X G a_law_feed
  have b_law_feed := F_law_feed.binds (ps := ["_law_script"]) fun _ _ _ _ _ _ us hl => match us, hl with | [_], _ => rfl
  have F_law_draw := fun_mk (st := sDraw) l_law_draw c_law_draw k_law_draw
  have g_law_draw := PySem.W.mg_of X G a_law_draw
  have b_law_draw := F_law_draw.binds (ps := ["_law_feed_here", "_law_many"]) fun _ _ _ _ _ _ us hl => match us, hl with | [_, _], _ => rfl
  have F_law_of := fun_mk (st := sOf) l_law_of c_law_of k_law_of
  have g_law_of := PySem.W.mg_of X G a_law_of
  have b_law_of := F_law_of.binds (ps := ["_law_feed_here", "_law_some"]) fun _ _ _ _ _ _ us hl => match us, hl with | [_, _], _ => rfl
  have F_law_readings := fun_mk (st := sReadings) l_law_readings c_law_readings k_law_readings
  have g_law_readings := PySem.W.mg_of X G a_law_readings
  have b_law_readings := F_law_readings.binds (ps := ["_law_feed_here", "_law_many"]) fun _ _ _ _ _ _ us hl => match us, hl with | [_, _], _ => rfl
  have F_law_bounds := fun_mk (st := sBounds) l_law_bounds c_law_bounds k_law_bounds
  have g_law_bounds := PySem.W.mg_of X G a_law_bounds
  have b_law_bounds := F_law_bounds.binds (ps := ["_law_feed_here"]) fun _ _ _ _ _ _ us hl => match us, hl with | [_], _ => rfl
  have F_law_last := fun_mk (st := sLast) l_law_last c_law_last k_law_last
  have g_law_last := PySem.W.mg_of X G a_law_last
  have b_law_last := F_law_last.binds (ps := ["_law_rows", "_law_moment"]) fun _ _ _ _ _ _ us hl => match us, hl with | [_, _], _ => rfl
  have F_law_stand := fun_mk (st := sLStand) l_law_stand c_law_stand k_law_stand
  have g_law_stand := PySem.W.mg_of X G a_law_stand
  have b_law_stand := F_law_stand.binds (ps := ["_law_bounds_here", "_law_came", "_law_moment"]) fun _ _ _ _ _ _ us hl => match us, hl with | [_, _, _], _ => rfl
  have F_law_flood := fun_mk (st := sFlood) l_law_flood c_law_flood k_law_flood
  have g_law_flood := PySem.W.mg_of X G a_law_flood
  have b_law_flood := F_law_flood.binds (ps := ["_law_bounds_here", "_law_came", "_law_now_read"]) fun _ _ _ _ _ _ us hl => match us, hl with | [_, _, _], _ => rfl
  have F_law_told := fun_mk (st := sTold) l_law_told c_law_told k_law_told
  have g_law_told := PySem.W.mg_of X G a_law_told
  have b_law_told := F_law_told.binds (ps := ["_law_gauge", "_law_came", "_law_now_read", "_law_lasts", "_law_way"]) fun _ _ _ _ _ _ us hl => match us, hl with | [_, _, _, _, _], _ => rfl
  have Flaw := fun_mk (st := sLaw) llaw claw klaw
  have glaw := PySem.W.mg_of X G alaw
  have blaw := Flaw.binds (ps := ["_law_script"]) fun _ _ _ _ _ _ us hl => match us, hl with | [_], _ => rfl
  have oxTooLate := oex_of PySem.F.excBase_RuntimeError PySem.F.store_RuntimeError xlTooLate (by decide +kernel) hdTooLate saTooLate exTooLate tyTooLate kcTooLate
  have gCGauge := PySem.W.mg_of X G aGauge
  have FGauge___init__ : FunDf_Gauge___init__ K fGauge___init__ _ := ⟨⟨_, _, _, _, _, _, _, _, _, _, rfl, lGauge___init__, cGauge___init__, .inr ⟨by simp, TGauge___init__, _, [.int 60 tdGauge___init___0, .int 200 tdGauge___init___1, .int 400 tdGauge___init___2, .int 5 tdGauge___init___3, .int 20 tdGauge___init___4], _, rfl, dGauge___init__, rfl, .cons ⟨_, rfl⟩ (.cons ⟨_, rfl⟩ (.cons ⟨_, rfl⟩ (.cons ⟨_, rfl⟩ (.cons ⟨_, rfl⟩ (.nil)))))⟩, .inl rfl⟩, kGauge___init__⟩
  have FGauge_stand := fun_mk (st := sGStand) lGauge_stand cGauge_stand kGauge_stand
  have bGauge_stand := FGauge_stand.binds (ps := ["self", "readings", "minute"]) fun _ _ _ _ _ _ us hl => match us, hl with | [_, _, _], _ => rfl
  have FGauge__changes := fun_mk (st := sChg) lGauge__changes cGauge__changes kGauge__changes
  have bGauge__changes := FGauge__changes.binds (ps := ["self", "readings"]) fun _ _ _ _ _ _ us hl => match us, hl with | [_, _], _ => rfl
  have FGauge_last_call : FunDf_Gauge_last_call K fGauge_last_call _ := ⟨⟨_, _, _, _, _, _, _, _, _, _, rfl, lGauge_last_call, cGauge_last_call, .inr ⟨by simp, TGauge_last_call, _, [.int 120 tdGauge_last_call_0], _, rfl, dGauge_last_call, rfl, .cons ⟨_, rfl⟩ (.nil)⟩, .inl rfl⟩, kGauge_last_call⟩
  have gCTooLate := PySem.W.mg_of X G aTooLate
  have FTooLate___init__ := fun_mk (st := sTInit) lTooLate___init__ cTooLate___init__ kTooLate___init__
  have bTooLate___init__ := FTooLate___init__.binds (ps := ["self", "minute"]) fun _ _ _ _ _ _ us hl => match us, hl with | [_, _], _ => rfl
  have mWATER := PySem.W.mg_of X G aWATER
  have mICE := PySem.W.mg_of X G aICE
  have mLOST := PySem.W.mg_of X G aLOST
  have mSHUT := PySem.W.mg_of X G aSHUT
  have mSLOW := PySem.W.mg_of X G aSLOW
  have mFREE := PySem.W.mg_of X G aFREE
  have mlen := PySem.W.mg_none_of X G zlen
  have mmax := PySem.W.mg_none_of X G zmax
  have mmin := PySem.W.mg_none_of X G zmin
  have mlist := PySem.W.mg_none_of X G zlist
  have mrange := PySem.W.mg_none_of X G zrange
  have msorted := PySem.W.mg_none_of X G zsorted
  have mrepr := PySem.W.mg_none_of X G zrepr
  have misinstance := PySem.W.mg_none_of X G zisinstance
  have mRuntimeError := PySem.W.mg_none_of X G zRuntimeError
  have mValueError := PySem.W.mg_none_of X G zValueError
  exact ⟨_, fun s v => .of_eq rfl, fun base _ _ => ok_law Flaw ⟨mlen⟩ ⟨mlist⟩ ⟨mlen, mrange, msorted⟩ ⟨⟨_, mWATER⟩, ⟨_, mICE⟩, ⟨_, mLOST⟩, ⟨_, mSHUT⟩, ⟨_, mSLOW⟩, ⟨_, mFREE⟩⟩ ⟨mmin⟩ ⟨mrepr, misinstance, mRuntimeError, mValueError⟩ ⟨mlen, mmax, mlist, mrange, mrepr⟩
    ⟨⟨pgGauge, hdGauge, poGauge, saGauge⟩, nGauge_lag, nGauge_high, nGauge_top, nGauge_thin, nGauge_thick, gCGauge⟩
    ⟨gCTooLate, oxTooLate, ⟨gaTooLate, ggTooLate, exTooLate, hdTooLate⟩, ⟨gaTooLate, ggTooLate, exTooLate, hdTooLate, haTooLate, hnTooLate, htTooLate, hmTooLate⟩, nTooLate_minute, exm_hit exTooLate icTooLate tyTooLate seTooLate, kit_up (by decide +kernel) upTooLate, kit_upN (by decide +kernel) snTooLate_ValueError⟩
    ⟨mkGauge, aGauge___init__, iGauge___init__, kcGauge⟩ FGauge___init__ aTooLate___init__ (beq_iff_eq.mp iTooLate___init__) FTooLate___init__ bTooLate___init__
    ⟨aGauge_stand, iGauge_stand, kGauge_stand⟩ FGauge_stand bGauge_stand ⟨aGauge__changes, iGauge__changes, kGauge__changes⟩ FGauge__changes bGauge__changes ⟨aGauge_last_call, iGauge_last_call, kGauge_last_call⟩ FGauge_last_call
    F_number_at g_number_at b_number_at F_law_feed g_law_feed b_law_feed F_law_draw g_law_draw b_law_draw F_law_of g_law_of b_law_of F_law_readings g_law_readings b_law_readings F_law_bounds g_law_bounds b_law_bounds F_law_last g_law_last b_law_last F_law_stand g_law_stand b_law_stand F_law_flood g_law_flood b_law_flood F_law_told g_law_told b_law_told⟩
end Bb
open PySem PySem.W PyProof.Rows
set_option maxHeartbeats 0 in
theorem PySem.Challenge.cw_boatbridge_k44_last_calls_holds : PySem.Challenge.rw_boatbridge_k44_last_calls.Holds := by
  w_on; o_law; k_head; (case hw => w_witness2)
  k_fill
  refine Bb.walkG (l := PySem.Challenge.rw_boatbridge_k44_last_calls) (n := 63) (k := 7) (x := "_law_script") (sp := fun w => Bb.spLaw _) rfl (by decide) rfl ⟨rfl, by decide, by decide⟩ (fun w h Y => PySem.W.kIn_of Y) ?F (fun _ _ a ns hl _ hS => ⟨a, ns, rfl, hS, hl, fun _ => rfl⟩)
  case F =>
    intro w mg fa h KX G hmg
    refine' Bb.all_mk KX G hmg ?aTooLate ?xlTooLate ?hdTooLate ?saTooLate ?exTooLate ?tyTooLate ?kcTooLate ?icTooLate ?seTooLate ?upTooLate ?gaTooLate ?ggTooLate ?haTooLate ?hnTooLate ?htTooLate ?hmTooLate ?nTooLate_minute ?snTooLate_ValueError ?aGauge ?pgGauge ?hdGauge ?poGauge ?saGauge ?mkGauge ?kcGauge ?haGauge ?hnGauge ?htGauge ?hmGauge ?nfGauge ?nGauge_lag ?nGauge_high ?nGauge_top ?nGauge_thin ?nGauge_thick ?aGauge___init__ ?iGauge___init__ ?lGauge___init__ ?cGauge___init__ ?kGauge___init__ ?dGauge___init__ ?aGauge_stand ?iGauge_stand ?lGauge_stand ?cGauge_stand ?kGauge_stand ?aGauge__changes ?iGauge__changes ?lGauge__changes ?cGauge__changes ?kGauge__changes ?aGauge_last_call ?iGauge_last_call ?lGauge_last_call ?cGauge_last_call ?kGauge_last_call ?dGauge_last_call ?aTooLate___init__ ?iTooLate___init__ ?lTooLate___init__ ?cTooLate___init__ ?kTooLate___init__ ?a_number_at ?l_number_at ?c_number_at ?k_number_at ?a_law_feed ?l_law_feed ?c_law_feed ?k_law_feed ?a_law_draw ?l_law_draw ?c_law_draw ?k_law_draw ?a_law_of ?l_law_of ?c_law_of ?k_law_of ?a_law_readings ?l_law_readings ?c_law_readings ?k_law_readings ?a_law_bounds ?l_law_bounds ?c_law_bounds ?k_law_bounds ?a_law_last ?l_law_last ?c_law_last ?k_law_last ?a_law_stand ?l_law_stand ?c_law_stand ?k_law_stand ?a_law_flood ?l_law_flood ?c_law_flood ?k_law_flood ?a_law_told ?l_law_told ?c_law_told ?k_law_told ?alaw ?llaw ?claw ?klaw ?aWATER ?aICE ?aLOST ?aSHUT ?aSLOW ?aFREE ?zlen ?zmax ?zmin ?zlist ?zrange ?zsorted ?zrepr ?zisinstance ?zRuntimeError ?zValueError
    (case aTooLate => k_is)
    (case xlTooLate => k_is)
    (case hdTooLate => k_is)
    (case saTooLate => k_is)
    (case exTooLate => k_is)
    (case tyTooLate => k_is)
    (case kcTooLate => k_is)
    (case icTooLate => k_is)
    (case seTooLate => k_is)
    (case upTooLate => k_is)
    (case gaTooLate => k_is)
    (case ggTooLate => k_is)
    (case haTooLate => k_is)
    (case hnTooLate => k_is)
    (case htTooLate => k_is)
    (case hmTooLate => k_is)
    (case nTooLate_minute => k_is)
    (case snTooLate_ValueError => k_is)
    (case aGauge => k_is)
    (case pgGauge => k_is)
    (case hdGauge => k_is)
    (case poGauge => k_is)
    (case saGauge => k_is)
    (case mkGauge => k_is)
    (case kcGauge => k_is)
    (case haGauge => k_is)
    (case hnGauge => k_is)
    (case htGauge => k_is)
    (case hmGauge => k_is)
    (case nfGauge => k_is)
    (case nGauge_lag => k_is)
    (case nGauge_high => k_is)
    (case nGauge_top => k_is)
    (case nGauge_thin => k_is)
    (case nGauge_thick => k_is)
    (case aGauge___init__ => k_is)
    (case iGauge___init__ => k_is)
    (case lGauge___init__ => k_is)
    (case cGauge___init__ => k_is)
    (case kGauge___init__ => k_is)
    (case dGauge___init__ => k_is)
    (case aGauge_stand => k_is)
    (case iGauge_stand => k_is)
    (case lGauge_stand => k_is)
    (case cGauge_stand => k_is)
    (case kGauge_stand => k_is)
    (case aGauge__changes => k_is)
    (case iGauge__changes => k_is)
    (case lGauge__changes => k_is)
    (case cGauge__changes => k_is)
    (case kGauge__changes => k_is)
    (case aGauge_last_call => k_is)
    (case iGauge_last_call => k_is)
    (case lGauge_last_call => k_is)
    (case cGauge_last_call => k_is)
    (case kGauge_last_call => k_is)
    (case dGauge_last_call => k_is)
    (case aTooLate___init__ => k_is)
    (case iTooLate___init__ => k_is)
    (case lTooLate___init__ => k_is)
    (case cTooLate___init__ => k_is)
    (case kTooLate___init__ => k_is)
    (case a_number_at => k_is)
    (case l_number_at => k_is)
    (case c_number_at => k_is)
    (case k_number_at => k_is)
    (case a_law_feed => k_is)
    (case l_law_feed => k_is)
    (case c_law_feed => k_is)
    (case k_law_feed => k_is)
    (case a_law_draw => k_is)
    (case l_law_draw => k_is)
    (case c_law_draw => k_is)
    (case k_law_draw => k_is)
    (case a_law_of => k_is)
    (case l_law_of => k_is)
    (case c_law_of => k_is)
    (case k_law_of => k_is)
    (case a_law_readings => k_is)
    (case l_law_readings => k_is)
    (case c_law_readings => k_is)
    (case k_law_readings => k_is)
    (case a_law_bounds => k_is)
    (case l_law_bounds => k_is)
    (case c_law_bounds => k_is)
    (case k_law_bounds => k_is)
    (case a_law_last => k_is)
    (case l_law_last => k_is)
    (case c_law_last => k_is)
    (case k_law_last => k_is)
    (case a_law_stand => k_is)
    (case l_law_stand => k_is)
    (case c_law_stand => k_is)
    (case k_law_stand => k_is)
    (case a_law_flood => k_is)
    (case l_law_flood => k_is)
    (case c_law_flood => k_is)
    (case k_law_flood => k_is)
    (case a_law_told => k_is)
    (case l_law_told => k_is)
    (case c_law_told => k_is)
    (case k_law_told => k_is)
    (case alaw => k_is)
    (case llaw => k_is)
    (case claw => k_is)
    (case klaw => k_is)
    (case aWATER => k_is)
    (case aICE => k_is)
    (case aLOST => k_is)
    (case aSHUT => k_is)
    (case aSLOW => k_is)
    (case aFREE => k_is)
    (case zlen => k_is)
    (case zmax => k_is)
    (case zmin => k_is)
    (case zlist => k_is)
    (case zrange => k_is)
    (case zsorted => k_is)
    (case zrepr => k_is)
    (case zisinstance => k_is)
    (case zRuntimeError => k_is)
    (case zValueError => k_is)
