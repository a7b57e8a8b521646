import PyProof.Rows.All
import Wide.All
import OpenK.AllK
import Wide.FinOn
import PyProof.FString3
import PyProof.InstNe
import HandS.ForMost
import HandS.FStr
import HandS.StrMore
import HandS.IsInst
import HandS.Codes
import HandS.TryOnly
import HandS.SlotsOwn
import HandS.Defaults
import HandS.MakeKw
import HandS.MakeKwOnly
import HandS.OwnEq
import KE.KCallOwn
import KE.KFmtOwn
import HandS.ExcInit
import HandS.ExcIs
import HandS.ExcField
import HandS.ExcValue
import KE.KExcIs
import KE.KExcInit
import HandS.Conv
import OpenK.KOps
import PyProof.Rows.Range3
import PyProof.ListRange
import HandS.Style
import PyProof.ReprRoads
import PyProof.ExcBaseAll.LookupError
import PyProof.ExcBaseAll.IndexError
import HandS.SortInts
import HandS.SortKw
import HandS.Star
import HandS.Flow
import HandS.WordsExc
import HandS.FStrTup
import HandS.CallSlots
import HandS.Zip
import PySem.Challenge.RW_boatbridge_k65_longest_and_mean
set_option Elab.async false
set_option linter.all false
set_option maxRecDepth 100000
namespace Bb
open PySem PySem.Spec PyProof.Rows L2 PySem.W
open C8 (pss_cut)
open TL (tl ext_tl partition_app partition_none)
def topS (i : Nat) : Stmt := PySem.Challenge.pw_boatbridge_k65_longest_and_mean.main.body.getD i (.Pass ⟨0, 0, 0, 0⟩)
abbrev sFeed : Stmt := topS 7
abbrev NFeed : List Str := ["_law_script"]
theorem scFeed : FnScope NFeed ["_law_script"] (defScope sFeed) := ⟨rfl, rfl, rfl, by decide +kernel, rfl, by decide +kernel, by decide +kernel⟩
abbrev sDraw : Stmt := topS 8
abbrev NDraw : List Str := ["_law_feed_here", "_law_many", "_law_found", "_law_spot", "_law_cell", "_law_mixed"]
theorem scDraw : FnScope NDraw ["_law_feed_here", "_law_many"] (defScope sDraw) := ⟨rfl, rfl, rfl, by decide +kernel, rfl, by decide +kernel, by decide +kernel⟩
abbrev sOf : Stmt := topS 9
abbrev NOf : List Str := ["_law_feed_here", "_law_some"]
theorem scOf : FnScope NOf ["_law_feed_here", "_law_some"] (defScope sOf) := ⟨rfl, rfl, rfl, by decide +kernel, rfl, by decide +kernel, by decide +kernel⟩

/-- the tape at T: the cells' list, the draws done (at most n), the rest of a great cell -/
structure Tape (H : Hp) (T c : Addr) (n : Nat) : Prop where
  ex : ∃ (t r : Int) (ns : List Int), H T = some (.lst [.ref c, .int t, .int r]) ∧ H c = some (.lst (ns.map V.int)) ∧ c ≠ T ∧ 0 ≤ t ∧ t ≤ n ∧ ns.length ≤ 63
/-- all but the tape stands as it stood -/
def Keep (T : Addr) (H H' : Hp) : Prop := ∀ a o, a ≠ T → H a = some o → H' a = some o
theorem Keep.refl {T : Addr} {H : Hp} : Keep T H H := fun _ _ _ e => e
theorem Keep.trans {T : Addr} {H H1 H2 : Hp} (a : Keep T H H1) (b : Keep T H1 H2) : Keep T H H2 := fun x o n e => b x o n (a x o n e)
theorem Keep.updT {T : Addr} {H H1 : Hp} {o : HO} (a : Keep T H H1) : Keep T H (upd H1 T o) := fun x o n e => by
  rw [upd_ne n]; exact a x o n e
theorem Keep.new {T : Addr} {H H1 : Hp} {p : Addr} {o : HO} (a : Keep T H H1) (h : H1 p = none) : Keep T H (upd H1 p o) := fun x o n e => by
  have z := a x o n e
  rw [upd_ne (ne_of_none z h)]; exact z
theorem Tape.mono {H : Hp} {T c : Addr} {n m : Nat} (h : Tape H T c n) (l : n ≤ m) : Tape H T c m := by
  obtain ⟨t, r, ns, h1, h2, h3, h4, h5, h6⟩ := h.ex
  exact ⟨t, r, ns, h1, h2, h3, h4, by omega, h6⟩
theorem Tape.upd {H : Hp} {T c : Addr} {n : Nat} {p : Addr} {o : HO} (h : Tape H T c n) (n1 : p ≠ T) (n2 : p ≠ c) : Tape (upd H p o) T c n := by
  obtain ⟨t, r, ns, h1, h2, h3, h4, h5, h6⟩ := h.ex
  exact ⟨t, r, ns, by rw [upd_ne n1.symm]; exact h1, by rw [upd_ne n2.symm]; exact h2, h3, h4, h5, h6⟩
theorem Tape.new {H : Hp} {T c : Addr} {n : Nat} {p : Addr} {o : HO} (h : Tape H T c n) (hp : H p = none) : Tape (L2.upd H p o) T c n := by
  obtain ⟨t, r, ns, h1, h2, h3, h4, h5, h6⟩ := h.ex
  exact ⟨t, r, ns, by rw [upd_ne (ne_of_none h1 hp)]; exact h1, by rw [upd_ne (ne_of_none h2 hp)]; exact h2, h3, h4, h5, h6⟩
theorem Tape.nec {H : Hp} {T c : Addr} {n : Nat} {p : Addr} (h : Tape H T c n) (hp : H p = none) : p ≠ c := by
  obtain ⟨t, r, ns, _, h2, _⟩ := h.ex
  exact (ne_of_none h2 hp).symm
theorem Tape.ne {H : Hp} {T c : Addr} {n : Nat} {p : Addr} (h : Tape H T c n) (hp : H p = none) : p ≠ T := by
  obtain ⟨t, r, ns, h1, _⟩ := h.ex
  exact (ne_of_none h1 hp).symm
theorem upd_at {H : Hp} {p a : Addr} {o z : HO} (hp : H p = none) (h : H a = some z) : (upd H p o) a = some z := by
  rw [upd_ne (ne_of_none h hp)]; exact h
def spTape (K : PySem.W.Frag) : Sp := fun vs H Q _ => ∃ (a : Addr) (ns : List Int), vs = [.ref a] ∧ SqL K H a (ns.map V.int) ∧ ns.length ≤ 63 ∧
  ∀ T c H', H T = none → H c = none → Same H H' → Tape H' T c 0 → Q (.ref T) H'
def spDraw : Sp := fun vs H Q _ => ∃ (T c : Addr) (b : Int) (n : Nat), vs = [.ref T, .int b] ∧ 0 < b ∧ b < 1073741824 ∧ n < 1000000 ∧ Tape H T c n ∧
  ∀ d H', 0 ≤ d → d < b → Tape H' T c (n + 1) → Keep T H H' → Q (.int d) H'
/-- an item of a list, any one -/
def spPick : Sp := fun vs H Q _ => ∃ (T c p : Addr) (xs : List V) (n : Nat), vs = [.ref T, .ref p] ∧ H p = some (.lst xs) ∧ p ≠ T ∧ 0 < xs.length ∧ xs.length < 1000000 ∧ n < 1000000 ∧ Tape H T c n ∧
  ∀ (j : Nat) (x : V) H', xs[j]? = some x → Tape H' T c (n + 1) → Keep T H H' → Q x H'
theorem dp_ints {K : PySem.W.Frag} {H : Hp} : ∀ ns : List Int, DpAll K H (ns.map V.int) (ns.map PyData.int)
  | [] => .nil
  | _ :: r => .cons (.int _) (dp_ints r)
theorem cut63 {ns : List Int} (h : ns.length ≤ 63) : cutV (ns.map V.int) none (some 63) = ns.map V.int := by
  unfold cutV
  rw [HT.sIx_none, show HT.sIx (ns.map V.int).length (ns.map V.int).length (some 63) = min 63 (ns.map V.int).length from HT.sIx_nat _ _ 63, List.length_map, Nat.min_eq_right h]
  show ((ns.map V.int).take (ns.length - 0)) = _
  rw [Nat.sub_zero]
  exact List.take_of_length_le (by rw [List.length_map]; exact Nat.le_refl _)
theorem fmod_in {a b : Int} (h : 0 < b) : 0 ≤ a.fmod b ∧ a.fmod b < b := by
  rw [Int.fmod_eq_emod_of_nonneg a (Int.le_of_lt h)]; exact ⟨Int.emod_nonneg a (by omega), Int.emod_lt_of_pos a h⟩
/-- what the law's helpers ask of the module's names -/
structure Txt0 (mg : Str → Option Value) : Prop where
  mlen : mg "len" = none
structure TxtF (mg : Str → Option Value) : Prop where
  mlist : mg "list" = none
section
variable {P : Program} {w : World} {K : PySem.W.Frag} {mg : Str → Option Value} {base : Heap}
theorem ok_draw {f : Addr} {fd : FuncData} {k : Nat} (F : Fun K "_law_draw" "_law_draw" sDraw f fd) (T : Txt0 mg) : FnOk P w K mg base CX0 (k + 1) f fd ["_law_feed_here", "_law_many"] spDraw := by
  refine F.ok scDraw (fun vs H Q E h => ?_) (fun cdv A outer s H vs Q E hr h => ?_)
  · obtain ⟨T, c, b, n, rfl, _⟩ := h
    rfl
  · obtain ⟨a, c, b, n, rfl, hb0, hb1, hn, hT, q⟩ := h
    obtain ⟨t, r, ns, h1, h2, h3, h4, h5, h6⟩ := hT.ex
    refine ⟨_,
      (pss_cons (ps_if (pt_cmpR op_gt (pe_ix ix_list (pv 0) pe_int (fun _ _ => rfl)) pe_int (nomark _))
      (pss_cons (ps_set (i := 2) scDraw.nd rfl (.inl rfl) (pe_op op_modN (pe_ix ix_list (pv 0) pe_int (fun _ _ => rfl)) (pv 1)))
      (pss_cons (ps_asg (pe_op op_fdivN (pe_ix ix_list (pv 0) pe_int (fun _ _ => rfl)) (pv 1)) (pg_sub (pv 0) pe_int set_list))
      (pss_one (ps_ret (pv 2)))))
      pss_nil)
      (pss_cons (ps_set (i := 3) scDraw.nd rfl (.inl rfl) (pe_ix ix_list (pv 0) pe_int (fun _ _ => rfl)))
      (pss_cut (ps_asg (pe_op op_add (pv 3) pe_int) (pg_sub (pv 0) pe_int set_list))
      (pss_cut (ps_set (i := 4) scDraw.nd rfl (.inl rfl) (pe_ifExp (pt_cmpR (op_neD hr.units) (pe_ix ix_list (pv 0) pe_int (fun _ _ => rfl)) (pe_lst pa_nil) (nomark _)) (pe_ix ix_list (pe_ix ix_list (pv 0) pe_int (fun _ _ => rfl)) (pe_op op_modN (pv 3) (pe_callB call_len_seq (by rfl) T.mlen PySem.boot_len (pa_cons (pe_ix ix_list (pv 0) pe_int (fun _ _ => rfl)) pa_nil))) (fun _ _ => rfl)) (pe_op op_add (pe_op op_mul pe_int (pv 3)) pe_int)))
      (pss_cut (ps_if (PW.pt (pw_and (pt_cmpR op_lt (pv 3) (pe_callB call_len_seq (by rfl) T.mlen PySem.boot_len (pa_cons (pe_ix ix_list (pv 0) pe_int (fun _ _ => rfl)) pa_nil)) (nomark _)) (pw_and1 (pt_cmpR op_ge (pv 4) (pe_op op_pow pe_int pe_int) (nomark _)))))
      (pss_cons (ps_asg (pe_op op_fdivN (pv 4) (pv 1)) (pg_sub (pv 0) pe_int set_list))
      (pss_one (ps_ret (pe_op op_modN (pv 4) (pv 1)))))
      pss_nil)
      (pss_cut (ps_set (i := 5) scDraw.nd rfl (.inl rfl) (pe_op op_modN (pe_op op_pow (pe_op op_add (pe_op op_add (pe_op op_modN (pv 4) pe_int) (pe_op op_mul pe_int (pv 3))) pe_int) pe_int) pe_int))
      (pss_cut (ps_set (i := 5) scDraw.nd rfl (.inl rfl) (pe_op op_modN (pe_op op_mul (pe_op op_add (pe_op op_fdivN (pv 5) pe_int) pe_int) (pe_op op_add (pe_op op_modN (pe_op op_mul pe_int (pv 3)) pe_int) pe_int)) pe_int))
      (pss_one (ps_ret (pe_op op_modN (pe_op op_fdivN (pv 5) pe_int) (pv 1)))))))))))
      , ?_⟩
    -- if feed[2] > 0
    refine ⟨_, rfl, a, _, 2, _, rfl, rfl, SqL.of h1, atI_nat (j := 2) rfl, _, _, rfl, rfl, _, rfl, ite2 (fun _ => ?_) (fun _ => ?_)⟩
    · obtain ⟨e1, e2⟩ := fmod_in (a := r) hb0
      refine ⟨_, rfl, a, _, 2, _, rfl, rfl, SqL.of h1, atI_nat (j := 2) rfl, _, rfl, _, _, rfl, rfl, by omega, ?_⟩
      refine ⟨_, rfl, a, _, 2, _, rfl, rfl, SqL.of h1, atI_nat (j := 2) rfl, _, rfl, _, _, rfl, rfl, ⟨by omega, by omega⟩, ?_⟩
      refine ⟨_, rfl, a, _, 2, 2, rfl, rfl, h1, rfl, ?_⟩
      refine ⟨_, rfl, q _ _ e1 e2 ⟨t, _, ns, upd_same, ?_, h3, h4, by omega, h6⟩ Keep.refl.updT⟩
      rw [upd_ne h3]; exact h2
    · refine ⟨_, rfl, a, _, 1, _, rfl, rfl, SqL.of h1, atI_nat (j := 1) rfl, ?_⟩
      refine ⟨fun σ H2 => σ = [some (.ref a), some (.int b), none, some (.int t), none, none] ∧ H2 a = some (.lst [.ref c, .int (t + 1), .int r]) ∧ H2 c = some (.lst (ns.map V.int)) ∧ Keep a H H2, ?_, ?_⟩
      · refine ⟨_, rfl, _, _, rfl, rfl, _, rfl, a, _, 1, 1, rfl, rfl, h1, rfl, rfl, upd_same, ?_, Keep.refl.updT⟩
        rw [upd_ne h3]; exact h2
      rintro σ H1 ⟨rfl, g1, g2, k0⟩
      refine ⟨fun σ H2 => ∃ cell : Int, σ = [some (.ref a), some (.int b), none, some (.int t), some (.int cell), none] ∧ H2 a = some (.lst [.ref c, .int (t + 1), .int r]) ∧ H2 c = some (.lst (ns.map V.int)) ∧ Keep a H H2, ?_, ?_⟩
      · refine ⟨_, rfl, a, _, 0, _, rfl, rfl, SqL.of g1, atI_nat (j := 0) rfl, Nat.zero_le _, fun l hl => ?_⟩
        have u1 := upd_at (o := .lst []) hl g1
        have u2 := upd_at (o := .lst []) hl g2
        refine ⟨_, .list [], .lst (SqL.of u2) (dp_ints _), .lst (SqL.of upd_same) .nil, ke_shaped_ints ns, ke_shaped_ints [], _, rfl, ?_⟩
        cases hns : ns with
        | nil =>
          refine iteF ⟨_, rfl, _, _, rfl, rfl, .inl ⟨by decide, by decide⟩, _, _, rfl, rfl, _, rfl, u1, by rw [← hns]; exact u2, k0.new hl⟩
        | cons z zs =>
          refine iteT ?_
          rw [← hns]
          have hpos : 0 < (ns.length : Int) := by rw [hns]; simp
          refine ⟨_, rfl, a, _, 0, _, rfl, rfl, SqL.of u1, atI_nat (j := 0) rfl, _, rfl, _, rfl, a, _, 0, _, rfl, rfl, SqL.of u1, atI_nat (j := 0) rfl, c, _, rfl, .inl (SqL.of u2), _, _, rfl, rfl, ?_, ?_⟩
          · rw [List.length_map]; omega
          · obtain ⟨e1, e2⟩ := fmod_in (a := t) hpos
            obtain ⟨j, hj⟩ := Int.eq_ofNat_of_zero_le e1
            have hj2 : j < ns.length := by omega
            refine ⟨c, _, (j : Int), .int ns[j], rfl, ?_, SqL.of u2, atI_nat ?_, _, rfl, u1, u2, k0.new hl⟩
            · exact congrArg V.int (by rw [List.length_map]; exact hj)
            · rw [List.getElem?_map, List.getElem?_eq_getElem hj2]; rfl
      · rintro σ H2 ⟨cell, rfl, u1, u2, k2⟩
        have tp : ∀ (r' : Int) (H3 : Hp), H3 a = some (.lst [.ref c, .int (t + 1), .int r']) → H3 c = some (.lst (ns.map V.int)) → Tape H3 a c (n + 1) := fun r' H3 x1 x2 => ⟨t + 1, r', ns, x1, x2, h3, by omega, by omega, h6⟩
        refine ⟨fun σ H3 => σ = [some (.ref a), some (.int b), none, some (.int t), some (.int cell), none] ∧ H3 = H2, ?_, ?_⟩
        · refine ⟨_, rfl, _, rfl, a, _, 0, _, rfl, rfl, SqL.of u1, atI_nat (j := 0) rfl, c, _, rfl, .inl (SqL.of u2), _, _, rfl, rfl, _, rfl, ite2 (fun _ => ?_) (fun _ => iteF ⟨rfl, rfl⟩)⟩
          refine ⟨_, rfl, _, _, rfl, rfl, ⟨by decide, by decide, by decide⟩, _, _, rfl, rfl, _, rfl, ite2 (fun _ => ?_) (fun _ => ⟨rfl, rfl⟩)⟩
          refine ⟨_, rfl, _, rfl, _, _, rfl, rfl, ⟨by omega, by omega⟩, _, rfl, a, _, 2, 2, rfl, rfl, u1, rfl, ?_⟩
          refine ⟨_, rfl, _, rfl, _, _, rfl, rfl, by omega, ?_⟩
          exact q _ _ (fmod_in hb0).1 (fmod_in hb0).2 (tp _ _ upd_same (by rw [upd_ne h3]; exact u2)) k2.updT
        · rintro σ H3 ⟨rfl, rfl⟩
          obtain ⟨c0, c1⟩ := fmod_in (a := cell) (b := 2147483629) (by decide)
          refine ⟨fun σ H4 => ∃ m1 : Int, σ = [some (.ref a), some (.int b), none, some (.int t), some (.int cell), some (.int m1)] ∧ H4 = H3, ?_, ?_⟩
          · refine ⟨_, rfl, _, _, rfl, rfl, (by show (2147483629 : Int) ≠ 0; decide), _, rfl, _, _, rfl, rfl, .inl ⟨by decide, by decide⟩, _, _, rfl, rfl, _, _, rfl, rfl, _, _, rfl, rfl, ⟨by decide, by decide, by omega⟩, _, _, rfl, rfl, (by show (2147483647 : Int) ≠ 0; decide), _, rfl, rfl⟩
          rintro σ H4 ⟨m1, rfl, rfl⟩
          refine ⟨fun σ H5 => ∃ m2 : Int, σ = [some (.ref a), some (.int b), none, some (.int t), some (.int cell), some (.int m2)] ∧ H5 = H4, ?_, ?_⟩
          · obtain ⟨f0, f1⟩ := fmod_in (a := 48271 * t) (b := 65521) (by decide)
            refine ⟨_, rfl, _, _, rfl, rfl, ⟨by decide, by decide⟩, _, _, rfl, rfl, _, rfl, _, _, rfl, rfl, .inl ⟨by decide, by decide⟩, _, _, rfl, rfl, (by show (65521 : Int) ≠ 0; decide), _, _, rfl, rfl, _, _, rfl, rfl, .inr ⟨by omega, by omega⟩, _, _, rfl, rfl, (by show (2147483587 : Int) ≠ 0; decide), _, rfl, rfl⟩
          rintro σ H5 ⟨m2, rfl, rfl⟩
          refine ⟨_, rfl, _, _, rfl, rfl, ⟨by decide, by decide⟩, _, rfl, _, _, rfl, rfl, by omega, ?_⟩
          exact q _ _ (fmod_in hb0).1 (fmod_in hb0).2 (tp _ _ u1 u2) k2
/-- an item of a list by a draw -/
theorem ok_of {f fD : Addr} {fd fdD : FuncData} {k : Nat} (F : Fun K "_law_of" "_law_of" sOf f fd) (T : Txt0 mg) (F_law_draw : Fun K "_law_draw" "_law_draw" sDraw fD fdD) (g_law_draw : mg "_law_draw" = some (.ref fD)) (b_law_draw : Binds K fdD ["_law_feed_here", "_law_many"] []) :
    FnOk P w K mg base CX0 (k + 2) f fd ["_law_feed_here", "_law_some"] spPick := by
  have G_law_draw : FnOk P w K mg base CX0 (k + 1) fD fdD ["_law_feed_here", "_law_many"] spDraw := ok_draw F_law_draw T
  refine F.ok scOf (fun vs H Q E h => ?_) (fun cdv A outer s H vs Q E hr h => ?_)
  · obtain ⟨T, c, p, xs, n, rfl, _⟩ := h
    rfl
  · obtain ⟨a, c, p, xs, n, rfl, hS, hpa, hx0, hx1, hn, hT, q⟩ := h
    have hr_law_draw := hr
    refine ⟨_,
      (pss_one (ps_ret (pe_ix ix_list (pv 1) (pe_call G_law_draw hr_law_draw (by rfl) g_law_draw F_law_draw.kp b_law_draw .nil pass0 (pa_cons (pv 0) (pa_cons (pe_callB call_len_seq (by rfl) T.mlen PySem.boot_len (pa_cons (pv 1) pa_nil)) pa_nil))) (fun _ _ => rfl))))
      , ?_⟩
    refine ⟨_, rfl, _, rfl, _, rfl, p, xs, rfl, .inl (SqL.of hS), a, c, xs.length, n, rfl, by omega, by omega, hn, hT, fun d H' d0 d1 T' k' => ?_⟩
    obtain ⟨j, rfl⟩ := Int.eq_ofNat_of_zero_le d0
    have hj : j < xs.length := by omega
    exact ⟨p, xs, (j : Int), xs[j], rfl, rfl, SqL.of (k' p _ hpa hS), atI_nat (List.getElem?_eq_getElem hj), q j _ _ (List.getElem?_eq_getElem hj) T' k'⟩
/-- the tape's making: the cells in a list of their own -/
theorem ok_feed {f : Addr} {fd : FuncData} {k : Nat} (F : Fun K "_law_feed" "_law_feed" sFeed f fd) (T : TxtF mg) : FnOk P w K mg base CX0 (k + 1) f fd ["_law_script"] (spTape K) := by
  refine F.ok scFeed (fun vs H Q E h => ?_) (fun cdv A outer s H vs Q E hr h => ?_)
  · obtain ⟨a, ns, rfl, _⟩ := h
    rfl
  · obtain ⟨a, ns, rfl, hS, hlen, q⟩ := h
    refine ⟨_,
      (pss_one (ps_ret (pe_lst (pa_cons (pe_callTy call_list_of (by rfl) T.mlist (by decide +kernel) (pa_cons (pe_slice sl_list (pv 0) po_none (po_some pe_int)) pa_nil)) (pa_cons pe_int (pa_cons pe_int pa_nil))))))
      , ?_⟩
    refine ⟨_, rfl, _, rfl, a, _, rfl, hS, fun p0 hp0 => ?_⟩
    refine ⟨p0, _, rfl, .inl (SqL.of upd_same), fun p hp => ?_⟩
    refine ⟨by show 3 ≤ sizeLine; decide, fun l hl => ?_⟩
    have nlp : p ≠ l := fun e => by rw [e, upd_same] at hl; cases hl
    have hp1 : H p = none := by
      by_cases e : p = p0
      · rw [e, upd_same] at hp; cases hp
      · rw [upd_ne e] at hp; exact hp
    have hl0 : H l = none := by
      rw [upd_ne nlp.symm] at hl
      by_cases e : l = p0
      · rw [e, upd_same] at hl; cases hl
      · rw [upd_ne e] at hl; exact hl
    refine q l p _ hl0 hp1 (fun b o e => upd_at hl (upd_at hp (upd_at hp0 e))) ⟨0, 0, ns, upd_same, ?_, nlp, by omega, by omega, hlen⟩
    rw [upd_ne nlp, upd_same, cut63 hlen]
end
/-! ### heaps that grow -/
theorem Tape.same {H H' : Hp} {T c : Addr} {n : Nat} (h : Tape H T c n) (s : Same H H') : Tape H' T c n := by
  obtain ⟨t, r, ns, h1, h2, h3, h4, h5, h6⟩ := h.ex
  exact ⟨t, r, ns, s _ _ h1, s _ _ h2, h3, h4, h5, h6⟩
theorem Keep.same {T : Addr} {H H1 H2 : Hp} (a : Keep T H H1) (b : Same H1 H2) : Keep T H H2 := fun x o n e => b x o (a x o n e)
theorem same_upd {H : Hp} {p : Addr} {o : HO} (h : H p = none) : Same H (upd H p o) := fun b x e => by
  rw [upd_ne (ne_of_none e h)]; exact e
theorem same_refl {H : Hp} : Same H H := fun _ _ e => e
theorem small_line {n : Nat} (h : n ≤ 100) : n ≤ sizeLine := Nat.le_trans h (by decide)
/-! ### a call with keywords alone -/
section
variable {X : Cx} {CX : CXT} {k : Nat} {f : Addr} {fd : FuncData} {ps ks : List Str} {sp : Sp} {E : XK} {x : Str} {p pos : Pos} {kws : List Keyword} {tk : TA} {g : List Value → List Value → List Value} {gV : List V → List V → List V}
theorem pe_callK0 (F : FnOk X.prog X.w X.K X.mg X.base CX k f fd ps sp) (hr : Room k X.A) (hg : Gl X x) (hm : X.mg x = some (.ref f)) (hk : PySem.W.keepIn X.K (.ref f) = true) (hb : KBinds X.K fd ps ks g gV) (hx : Passes CX X E)
    (hkw : PK X kws tk) (hall : (backToKw pos (keywordEach kws X.env)).all (·.1.isSome) = true := by rfl) (hks : (backToKw pos (keywordEach kws X.env)).filterMap (·.1) = ks := by rfl)
    (hdb : (x == ("__debug__" : Str)) = false := by decide)
    (hpl : ((backTo pos (starEach [] X.env)).any (·.1) || (backToKw pos (keywordEach kws X.env)).any (·.1.isNone)) = false := by rfl) :
    PE X (.Call (.Name x p) [] kws pos) (tCallK sp gV E tNil tk) := by
  refine ⟨fun pins s σ H Q I h => ?_⟩
  refine wpAny_Call_Name_kw (ld_glob I hg hm ?_ hdb)
  refine PySem.W.callWith_KW0 (h₀ := X.base) I.ok.mod.kin hk hall ?_ hpl
  refine thn (hkw.run pos pins s σ H _ I h) fun ws s2 ⟨zs, H2, I2, rz, q2⟩ => ⟨I2.kIn, ?_⟩
  rw [hks]
  exact run_fnk F hr hb hx I2 .nil rz q2
/-- keywords in the parameters' own order -/
theorem fun_kbinds {K : Frag} {x qual : Str} {st : Stmt} {f : Addr} {fd : FuncData} {ps ks : List Str} (F : Fun K x qual st f fd)
    (h : ∀ (kV doc pm : Value) (an : Option Addr) (cdv ct : Value) (us ws : List Value), (us ++ ws).length = ps.length → bindArgs (PySem.W.fnOf x qual (defArgs st) (defBody st) (defScope st) .none kV doc pm an cdv ct) ⟨us, ks.zip ws⟩ = pure (ps.zip (us ++ ws))) :
    KBinds K fd ps ks (· ++ ·) (· ++ ·) := by
  obtain ⟨oc, od, kV, doc, pm, an, cdv, ct, osl, rfl, lk, hcd⟩ := F.ex
  exact ⟨fun s us ws _ hl => .of_eq (h kV doc pm an cdv ct us ws hl), fun a b => a.append b⟩
theorem vals_rev : ∀ {zs : List V} {ws : List Value}, Vals zs ws → Vals zs.reverse ws.reverse
  | _, _, .nil => .nil
  | _, _, .cons r t => by
    rw [List.reverse_cons, List.reverse_cons]
    exact (vals_rev t).append (.cons r .nil)
/-- all by keywords -/
def kwAll {α : Type} (n : Nat) (us ws : List α) : List α := if us.length = 0 ∧ ws.length = n then ws else []
theorem kwAll_vals {n : Nat} {vs zs : List V} {us ws : List Value} (a : Vals vs us) (b : Vals zs ws) : Vals (kwAll n vs zs) (kwAll n us ws) := by
  unfold kwAll
  rw [a.length, b.length]
  split
  · exact b
  · exact .nil
theorem fun_kbindsA {K : Frag} {x qual : Str} {st : Stmt} {f : Addr} {fd : FuncData} {ps ks : List Str} (F : Fun K x qual st f fd) (hn : ps ≠ [])
    (h : ∀ (kV doc pm : Value) (an : Option Addr) (cdv ct : Value) (ws : List Value), ws.length = ps.length → bindArgs (PySem.W.fnOf x qual (defArgs st) (defBody st) (defScope st) .none kV doc pm an cdv ct) ⟨[], ks.zip ws⟩ = pure (ps.zip ws)) :
    KBinds K fd ps ks (kwAll ps.length) (kwAll ps.length) := by
  obtain ⟨oc, od, kV, doc, pm, an, cdv, ct, osl, rfl, lk, hcd⟩ := F.ex
  refine ⟨fun s us ws _ hl => ?_, kwAll_vals⟩
  unfold kwAll at hl ⊢
  split at hl
  · rename_i c
    rw [if_pos c, List.eq_nil_of_length_eq_zero c.1]
    exact .of_eq (h kV doc pm an cdv ct ws c.2)
  · exact absurd (List.eq_nil_of_length_eq_zero hl.symm) hn
/-- all by keywords, in the parameters' order turned about -/
theorem fun_kbindsR {K : Frag} {x qual : Str} {st : Stmt} {f : Addr} {fd : FuncData} {ps ks : List Str} (F : Fun K x qual st f fd) (hn : ps ≠ [])
    (h : ∀ (kV doc pm : Value) (an : Option Addr) (cdv ct : Value) (ws : List Value), ws.length = ps.length → bindArgs (PySem.W.fnOf x qual (defArgs st) (defBody st) (defScope st) .none kV doc pm an cdv ct) ⟨[], ks.zip ws⟩ = pure (ps.zip ws.reverse)) :
    KBinds K fd ps ks (fun us ws => (kwAll ps.length us ws).reverse) (fun us ws => (kwAll ps.length us ws).reverse) := by
  obtain ⟨oc, od, kV, doc, pm, an, cdv, ct, osl, rfl, lk, hcd⟩ := F.ex
  refine ⟨fun s us ws _ hl => ?_, fun a b => vals_rev (kwAll_vals a b)⟩
  rw [List.length_reverse] at hl
  unfold kwAll at hl ⊢
  split at hl
  · rename_i c
    rw [if_pos c, List.eq_nil_of_length_eq_zero c.1]
    exact .of_eq (h kV doc pm an cdv ct ws c.2)
  · exact absurd (List.eq_nil_of_length_eq_zero hl.symm) hn
end
/-! ### defs that are called where no repr is under way (so that repr of lists and tuples is known) -/
structure FnOkG (P : Program) (w : World) (K : PySem.W.Frag) (mg : Str → Option Value) (base : Heap) (CX : CXT) (k : Nat) (f : Addr) (fd : FuncData) (ps : List Str) (sp : Sp) : Prop where
  many : ∀ vs H Q E, sp vs H Q E → vs.length = ps.length
  goes : ∀ (A : Around) (outer : List Env) (s : Shared) (H : Hp) (args : Args) (us : List Value) (vs : List V) (Q : VK) (E : XK), A.guards = some [] → Room k A → Env0 P w K mg base A outer s H → BindsTo s fd args (ps.zip us) → Vals vs us → sp vs H Q E →
    codeAny (model P w) A (.call (.ref f) args) (CR CX outer P w H s Q E) s
theorem FnOk.g {P : Program} {w : World} {K : PySem.W.Frag} {mg : Str → Option Value} {base : Heap} {CX : CXT} {k : Nat} {f : Addr} {fd : FuncData} {ps : List Str} {sp : Sp} (F : FnOk P w K mg base CX k f fd ps sp) : FnOkG P w K mg base CX k f fd ps sp :=
  ⟨F.len, fun A o s H a us vs Q E _ => F.run A o s H a us vs Q E⟩
section
variable {P : Program} {w : World} {K : PySem.W.Frag} {mg : Str → Option Value} {base : Heap}
theorem okG {x qual : Str} {st : Stmt} {f : Addr} {fd : FuncData} {N ps : List Str} {k : Nat} {sp : Sp} (F : Fun K x qual st f fd) (S : FnScope N ps (defScope st)) (hn : ∀ vs H Q E, sp vs H Q E → vs.length = ps.length)
    (hb : ∀ (cdv : Value) (A : Around) (outer : List Env) (s : Shared) (H : Hp) (vs : List V) (Q : VK) (E : XK), A.guards = some [] → Room k (A.deeper (envOfC qual (defScope st) s.heap.objs.size f cdv)) → sp vs H Q E →
      ∃ t, PSs (cxOf CX0 P w K mg base N qual (defScope st) f cdv A outer s H E).nox (defBody st) t ∧ t { nx := fun _ H' => Q .non H', rt := Q } (start N vs) H) : FnOkG P w K mg base CX0 (k + 1) f fd ps sp := by
  obtain ⟨oc, od, kV, doc, pm, an, cdv, ct, osl, rfl, lk, hcd⟩ := F.ex
  constructor
  · exact hn
  intro A outer s H args us vs Q E gd hr env bnd rel want
  have olds : ∀ z y, base.get? z = some y → s.heap.get? z = some y := fun z y e => (env.bs z y e).1
  have inK : K.In s.heap := env.mod.kin.keeps olds
  have vis : ∀ q ∈ ps.zip us, (defScope st).names.lookup q.1 = some .local ∨ ((defScope st).names.lookup q.1 = some .cell ∧ ((cellsFrom (s.heap.objs.size + 1) (defScope st).names []).lookup q.1).isSome = true) := by
    intro q hq
    obtain ⟨n, v⟩ := q
    exact (S.par n (List.of_mem_zip hq).1).elim Or.inl fun c => Or.inr ⟨c, PySem.W.cellsFrom_some _ _ _ (Or.inl c)⟩
  apply codeAny_call_function hr.depth (inK _ _ lk) rfl S.co S.gen rfl (PySem.W.codeRec_of inK hcd)
  apply bnd
  refine wpAny_newFunctionEnv_cells S.kind vis fun env' he s1 x => ?_
  cases he
  refine ⟨(env.mod.nolimit.keeps olds).keeps x.toInCall.keep, codeAny_func ?_⟩
  obtain ⟨t, ht, hq⟩ := hb cdv A outer s H vs Q E gd (hr.deeper _) want
  have ht := ht.nox
  have J0 : L2.Inv (cxOf CX0 P w K mg base N qual (defScope st) f cdv A outer s H E) [] (start N vs) H s1 := inv_start S hr.hd env (hn _ _ _ _ want) rel x
  refine wpAny_mono (ht.run [] s1 (start N vs) H _ J0 hq) (fun fl s' z => ?_) fun _ _ z => z
  match fl, z with
  | .ret u, ⟨v, σ', H', J, rv, q⟩ => exact ⟨v, H', J.os, J.bare, J.base, J.hok, rv, q⟩
  | .next, ⟨σ', H', J, q⟩ => exact ⟨V.non, H', J.os, J.bare, J.base, J.hok, rfl, q⟩
  | .brk, ⟨_, _, _, q⟩ => exact q.elim
  | .cont, ⟨_, _, _, q⟩ => exact q.elim
end
section
variable {X : Cx} {CX : CXT} {k : Nat} {f : Addr} {fd : FuncData} {ps : List Str} {sp : Sp} {dvs : List V} {ds : List Value} {E : XK} {x : Str} {p pos : Pos} {e : Expr} {es : List Expr} {t : TA}
/-- f(e, ..), f such a def -/
theorem pe_callG (F : FnOkG X.prog X.w X.K X.mg X.base CX k f fd ps sp) (gd : X.A.guards = some []) (hr : Room k X.A) (hg : Gl X x) (hm : X.mg x = some (.ref f)) (hk : PySem.W.keepIn X.K (.ref f) = true) (hb : L2.Binds X.K fd ps ds) (hd : Vals dvs ds) (hx : Passes CX X E)
    (ha : PA X (e :: es) t) (n1 : (x == ("__debug__" : Str)) = false := by decide) (n2 : starEach (e :: es) X.env = (false, eval e X.env) :: starEach es X.env := by rfl) (n3 : (backTo pos (starEach es X.env)).any (·.1) = false := by rfl) :
    PE X (.Call (.Name x p) (e :: es) [] pos) (tCall sp dvs E t) := by
  constructor
  intro pins s σ H Q I h
  apply wpAny_Call_Name_kw (ld_glob I hg hm ?_ n1)
  refine PySem.W.callWith_K (h₀ := X.base) I.ok.mod.kin hk (thn (ha.run pos pins s σ H _ I h) ?_) n2 n3
  rintro us s1 ⟨vs, H1, I1, r, q⟩
  refine ⟨I1.kIn, ?_⟩
  have rr : Vals (vs ++ dvs) (us ++ ds) := r.append hd
  have ll : (us ++ ds).length = ps.length := rr.length.symm.trans (F.many _ _ _ _ q)
  refine wpAny_call (codeAny_mono (F.goes X.A X.stack s1 H1 ⟨us, []⟩ (us ++ ds) (vs ++ dvs) Q E gd hr I1.env0 (hb s1 us I1.kIn ll) rr q) fun z s' hz => ?_)
  match z, hz with
  | .error er, hz => exact hx pins σ H1 s1 er s' I1 hz
  | .ok (.ret u), hz => exact I1.after hz
  | .ok .next, hz => exact (show False from hz).elim
  | .ok .brk, hz => exact (show False from hz).elim
  | .ok .cont, hz => exact (show False from hz).elim
/-- repr(x) of data -/
def rReprD (K : PySem.W.Frag) : List V → Hp → VK → Prop := fun xs H Q => ∃ x d, xs = [x] ∧ Dp K H x d ∧ SeqAt.shaped d = true ∧ d.showable = true ∧ d.shown.length ≤ sizeLine ∧ Q (.str d.shown) H
theorem call_reprD (gd : X.A.guards = some []) (hr : Room k X.A) : CallR X (.builtin "repr") (rReprD X.K) := by
  intro pins s σ H xs us Q I r h
  obtain ⟨y, d, rfl, hd, sh, sw, sz, q⟩ := h
  obtain ⟨u, rfl, ru⟩ := Vals.one r
  have dd := SeqAt.depth_of_shaped sh
  have un := hr.un
  have nd : d.hasDict = true → sysModules ∉ ([] : List Addr) := fun z => by rw [PyData.hasDict_of_canLay d (SeqAt.canLay_of_shaped sh)] at z; cases z
  cases hd with
  | non =>
    cases (show u = Value.none from ru)
    exact P.repr_of_none ⟨V.str "None", H, I.tok _, ⟨_, rfl⟩, by rw [PyData.shown] at q; exact q⟩
  | bl b =>
    cases (show u = Value.bool b from ru)
    exact P.repr_of_bool ⟨V.str (if b then "True" else "False"), H, I.tok _, ⟨_, rfl⟩, by rw [PyData.shown] at q; exact q⟩
  | int i =>
    obtain ⟨t, rfl⟩ := (show ∃ t, u = Value.int i t from ru)
    refine P.repr_of_int (of_decide_eq_true (by rw [PyData.showable] at sw; exact sw)) ⟨V.str (toString i), H, I.tok _, ⟨_, rfl⟩, by rw [PyData.shown] at q; exact q⟩
  | str z =>
    obtain ⟨t, rfl⟩ := (show ∃ t, u = Value.str z t from ru)
    exact P.repr_of_str ⟨V.str (reprText z), H, I.tok _, ⟨_, rfl⟩, by rw [PyData.shown] at q; exact q⟩ (by rw [PyData.shown] at sz; exact sz)
  | lst a b =>
    obtain ⟨as, rd⟩ := Dp.reads I _ _ u (.lst a b) ru
    cases ru
    exact repr_of_reads' rd sw (fun z => by rw [PyData.hasDict_of_canLay _ (SeqAt.canLay_of_shaped sh)] at z; cases z) gd (by omega) (fun _ _ z => z) (fun h' t' tk hk => ⟨V.str (PyData.shown _), H, I.kept hk, ⟨_, rfl⟩, q⟩) sz
  | tup a b =>
    obtain ⟨as, rd⟩ := Dp.reads I _ _ u (.tup a b) ru
    cases ru
    exact repr_of_reads' rd sw (fun z => by rw [PyData.hasDict_of_canLay _ (SeqAt.canLay_of_shaped sh)] at z; cases z) gd (by omega) (fun _ _ z => z) (fun h' t' tk hk => ⟨V.str (PyData.shown _), H, I.kept hk, ⟨_, rfl⟩, q⟩) sz
end
/-! ### the law's end, for such a law -/
section
variable {P : Program} {w : World} {K : PySem.W.Frag} {mg mb : Str → Option Value} {k : Nat} {fa a : Addr} {fd : FuncData} {x : Str} {sp : Sp} {s₁ : Shared} {vs : List Value} {ns : List Int}
/-- from a heap in which nothing but the script may stand -/
theorem lawG0 (KX : K.In s₁.heap) (g1 : s₁.heap.Ns mainGlobals mg) (g2 : s₁.heap.Ns builtinsNs mb) (g3 : ∀ x : Str, x ≠ "__name__" → mb x = bootBuiltins x) (g4 : s₁.heap.NoLimit) (g5 : s₁.gens = #[])
    (ha : s₁.heap.get? a = some { cls := .type "list", data := .seq vs.toArray }) (hr : Room k callerA)
    (F : ∀ base : Heap, K.In base → base.Ns mainGlobals mg → FnOkG P w K mg base CX0 k fa fd [x] sp) (bd : ∀ (s : Shared) (u : Value), BindsTo s fd ⟨[u], []⟩ [(x, u)])
    (H : Hp) (hO : Only H) (want : sp [.ref a] H (fun v _ => v = .bl true) fun _ _ _ => False) (ok : HOk P w H s₁.heap) (hA : ∀ b, H b ≠ none → b = a) (hK : H a ≠ none → K.lookup a = none) :
    codeAny (model P w) callerA (.call (.ref fa) ⟨[.ref a], []⟩) (fun r s' => r = .ok (.ret (.bool true)) ∧ OldK s₁.heap s'.heap ∧ s'.os = s₁.os ∧ AllBare s'.gens) s₁ := by
  have noA : ∀ {b : Addr} {o : Obj} {es : Array DictEntry} {ep : Nat}, s₁.heap.get? b = some o → o.data = .dict es ep → H b = none := by
    intro b o es ep e d
    apply Classical.byContradiction
    intro z
    have e2 := e
    rw [hA b z, ha] at e2
    cases e2
    exact nomatch (show Data.seq vs.toArray _ = Data.dict es ep from d)
  have nsK : ∀ {b : Addr} {m : Str → Option Value}, s₁.heap.Ns b m → (hidT s₁.heap H).Ns b m := by
    rintro b m ⟨o, es, ep, e, d, r⟩
    exact ⟨o, es, ep, hidT_get e (noA e d), d, r⟩
  have kb : K.In (hidT s₁.heap H) := by
    intro b o e
    refine hidT_get (KX b o e) (Classical.byContradiction fun z => ?_)
    have eb := hA b z
    subst eb
    rw [hK z] at e
    cases e
  have M : Mod K mg (hidT s₁.heap H) := by
    obtain ⟨mc, h1, h2⟩ := g4
    exact ⟨kb, nsK g1, ⟨mb, nsK g2, g3⟩, ⟨mc, nsK h1, h2⟩⟩
  have e0 : Env0 P w K mg (hidT s₁.heap H) callerA [] s₁ H :=
    { frames := rfl, mod := M, bs := fun b o e => of_hidT e, bsz := Nat.le_of_eq (hidT_size _ _), funs := trivial, frf := fun b z => absurd (show b ∈ ([] : List Addr) from z) (by simp), hok := ok, bare := .of_eq g5 }
  have run := (F _ kb (nsK g1)).goes callerA [] s₁ H ⟨[.ref a], []⟩ [.ref a] [.ref a] _ _ rfl hr e0 (bd s₁ (.ref a)) (.cons rfl .nil) want
  refine codeAny_mono run fun r s' h => ?_
  match r, h with
  | .error e, h => exact (show False from h).elim
  | .ok .next, h => exact (show False from h).elim
  | .ok .brk, h => exact (show False from h).elim
  | .ok .cont, h => exact (show False from h).elim
  | .ok (.ret u), ⟨v, H', os, bare, un, ok', rv, (qv : v = .bl true)⟩ =>
    cases qv
    cases (show u = Value.bool true from rv)
    refine ⟨rfl, OldK.of_keep fun b o e => ?_, os, bare⟩
    cases q : H b with
    | none => exact un.keep b o e q (fun z => absurd (show b ∈ ([] : List Addr) from z) (by simp)) (by simp)
    | some y =>
      rcases hO b with z | ⟨ob, xs, z⟩
      · rw [z] at q; cases q
      · have f1 := (ok b _ z).1
        have f2 := (ok' b _ (un.frzs b ob _ z)).1
        rw [f1] at e
        cases e
        exact f2
theorem lawG (KX : K.In s₁.heap) (g1 : s₁.heap.Ns mainGlobals mg) (g2 : s₁.heap.Ns builtinsNs mb) (g3 : ∀ x : Str, x ≠ "__name__" → mb x = bootBuiltins x) (g4 : s₁.heap.NoLimit) (g5 : s₁.gens = #[])
    (ha : s₁.heap.get? a = some { cls := .type "list", data := .seq vs.toArray }) (hi : IntsAre vs ns) (hl : ns.length ≤ sizeLine) (hr : Room k callerA)
    (F : ∀ base : Heap, K.In base → base.Ns mainGlobals mg → FnOkG P w K mg base CX0 k fa fd [x] sp) (bd : ∀ (s : Shared) (u : Value), BindsTo s fd ⟨[u], []⟩ [(x, u)])
    (want : ∀ H : Hp, Only H → SqL K H a (ns.map V.int) → sp [.ref a] H (fun v _ => v = .bl true) fun _ _ _ => False) :
    codeAny (model P w) callerA (.call (.ref fa) ⟨[.ref a], []⟩) (fun r s' => r = .ok (.ret (.bool true)) ∧ OldK s₁.heap s'.heap ∧ s'.os = s₁.os ∧ AllBare s'.gens) s₁ := by
  have rv := vals_ints hi
  rcases hk : K.lookup a with _ | o
  · let H : Hp := fun b => if b = a then some (.frz { cls := .type "list", data := .seq vs.toArray } (.lst (ns.map V.int))) else none
    have Ha : H a = some (.frz { cls := .type "list", data := .seq vs.toArray } (.lst (ns.map V.int))) := if_pos rfl
    have Hn : ∀ b, b ≠ a → H b = none := fun b n => if_neg n
    have hO : Only H := fun b => (Classical.em (b = a)).elim (fun e => .inr ⟨_, _, e ▸ Ha⟩) fun n => .inl (Hn b n)
    have hA : ∀ b, H b ≠ none → b = a := fun b z => Classical.byContradiction fun n => z (Hn b n)
    refine lawG0 KX g1 g2 g3 g4 g5 ha hr F bd H hO (want H hO (.inl (.inr ⟨_, Ha⟩))) (fun b u z => ?_) hA fun _ => hk
    have e := hA b (by rw [z]; intro y; cases y)
    subst e
    rw [Ha] at z
    cases z
    exact ⟨ha, by rw [List.length_map]; exact hl, vs, _, rv, ha⟩
  · have e := KX a o hk
    rw [ha] at e
    cases e
    refine lawG0 KX g1 g2 g3 g4 g5 ha hr F bd (fun _ => none) (fun _ => .inl rfl) (want _ (fun _ => .inl rfl) (.inr ⟨_, vs.toArray, _, hk, rfl, rfl, rfl, by rw [List.size_toArray, hi.length]; exact hl, by simpa using rv⟩)) (fun b u z => nomatch (show (none : Option HO) = some u from z)) (fun b z => absurd rfl z) fun z => absurd rfl z
end
theorem walkG {l : PySem.W.OpenLaw} {n k : Nat} {q : Program} {loose : List Str} {XP : (Str → Option Value) → Heap → Prop} {YP : World → Heap → Prop} {d : DefRec} {K : Params → PySem.W.Frag} {sp : World → Sp} {x : Str}
    (hn : l.most = some n) (hn2 : n ≤ sizeLine) (hdf : d.params.defaults = []) (hr : Room k callerA) (hY : ∀ (w : World) (h : Heap), YP w h → (K w.params).In h)
    (F : ∀ (w : World) (mg : Str → Option Value) (fa : Addr) (h : Heap), (K w.params).In h → h.Ns mainGlobals mg → mg d.name = some (.ref fa) →
      ∃ fd : FuncData, (∀ (s : Shared) (u : Value), BindsTo s fd ⟨[u], []⟩ [(x, u)]) ∧ ∀ base : Heap, (K w.params).In base → base.Ns mainGlobals mg → FnOkG l.prog w (K w.params) mg base CX0 k fa fd [x] (sp w))
    (want : ∀ (w : World) (H : Hp) (a : Addr) (ns : List Int), ns.length ≤ n → Only H → SqL (K w.params) H a (ns.map V.int) → sp w [.ref a] H (fun v _ => v = .bl true) fun _ _ _ => False) :
    PySem.W.WalkO q loose XP YP l.row.toRowW d [] (fun f vs => PySem.call f vs) := by
  apply Att.attach_call hn hdf
  intro w s₀ s₁ mg mb fa o pm cd doc a vs ns G Y ho hd hcd hmg hobj hints hlen hg
  have KX := hY w _ Y
  obtain ⟨fd, bd, hF⟩ := F w mg fa _ KX G.T.g hmg
  exact lawG KX G.T.g G.T.b G.T.builtins G.T.nolimit hg hobj hints (Nat.le_trans hlen hn2) hr hF bd fun H hO hS => want w H a ns hlen hO hS
/-! ### an exception that is kept past its clause -/
/-- at a: an exception object of the class cls, its own dict at d -/
def keptX (cls : Value) (d : Option Addr) (a : Addr) : HO := .ext fun h => ∃ (oe : Obj) (vs : Array Value), h.get? a = some oe ∧ Zc cls d oe ∧ oe.data = .fields vs
theorem keptX_ok {P : Program} {w : World} {H : Hp} {h : Heap} {cls : Value} {d : Option Addr} {a : Addr} {oe : Obj} {vs : Array Value} (g : h.get? a = some oe) (z : Zc cls d oe) (f : oe.data = .fields vs) : ObjOk P w H h a (keptX cls d a) :=
  ⟨⟨oe, vs, g, z, f⟩, ⟨oe, g⟩, fun _ _ ⟨o, v, q, r⟩ k => ⟨o, v, k o q, r⟩⟩
theorem keptX_at {P : Program} {w : World} {H : Hp} {h : Heap} {cls : Value} {d : Option Addr} {a : Addr} (hok : HOk P w H h) (e : H a = some (keptX cls d a)) : ∃ (oe : Obj) (vs : Array Value), h.get? a = some oe ∧ Zc cls d oe ∧ oe.data = .fields vs := by
  have x : ObjOk P w H h a (.ext fun h => ∃ (oe : Obj) (vs : Array Value), h.get? a = some oe ∧ Zc cls d oe ∧ oe.data = .fields vs) := hok a _ e
  exact x.1
section
variable {X : Cx} {pins : List (Addr × Obj)} {σ : L2.St} {H : Hp} {s sI : Shared}
/-- the caught object is told to the ledger: it is none of the objects of the state sI ahead of it -/
theorem inv_keep (J : Inv X pins σ H sI) (ge : sI.heap.get? a = none) (I : Inv X pins σ H s) (hx : X.ex = []) {oe : Obj} {vs : Array Value} {cls : Value} {d : Option Addr} (ha : s.heap.get? a = some oe) (hz : Zc cls d oe) (hd : oe.data = .fields vs) (na : H a = none) :
    Inv X pins σ (upd H a (keptX cls d a)) s := by
  have ne : ∀ {b : Addr} {o : Obj}, sI.heap.get? b = some o → b ≠ a := by
    intro b o e z
    rw [z, ge] at e
    cases e
  have n0 : ∀ {b : Addr} {o : Obj}, X.s_0.heap.get? b = some o → b ≠ a := by
    intro b o e
    obtain ⟨o', e'⟩ := J.base.there b o e (by rw [hx]; exact fun z => nomatch z)
    exact ne e'
  have bs : Un X.fs X.ex X.H_0 (upd H a (keptX cls d a)) X.s_0.heap s.heap := {
    keep := I.base.keep
    slot := I.base.slot
    there := I.base.there
    free := by
      intro b o e n q
      rw [upd_ne (n0 e)]
      exact I.base.free b o e n q
    tups := by
      intro b xs e
      have z := I.base.tups b xs e
      rw [upd_ne (ne_of_none z na)]
      exact z
    frzs := by
      intro b o u e
      have z := I.base.frzs b o u e
      rw [upd_ne (ne_of_none z na)]
      exact z
    tbls := by
      intro b ps e
      obtain ⟨m, z⟩ := I.base.tbls b ps e
      exact ⟨m, by rw [upd_ne (ne_of_none z na)]; exact z⟩ }
  have fr : X.env.locals ≠ a := by
    obtain ⟨m, ⟨o, es, ep, ho, _⟩, _⟩ := J.loc
    exact ne ho
  refine ⟨I.ok, I.os, I.bare, bs, I.loc, I.cell, ?_, ?_, ?_, ?_, I.len⟩
  · rw [upd_ne fr]
    exact I.free
  · intro x c e
    obtain ⟨v, o, ho, _⟩ := J.cell x c e
    rw [upd_ne (ne ho)]
    exact I.freeC x c e
  · intro p hp
    obtain ⟨e, n, r⟩ := I.pin p hp
    refine ⟨e, ?_, r⟩
    rw [upd_ne (ne (J.pin p hp).1)]
    exact n
  · intro b o e
    by_cases hb : b = a
    · subst hb
      rw [upd_same] at e
      cases e
      exact keptX_ok ha hz hd
    · rw [upd_ne hb] at e
      refine (I.hok b o e).stay (fun c v _ q => q) (fun c q => ?_) (fun c xs q => ?_)
      · rw [upd_ne (ne_of_none q na)]
        exact q
      · rw [upd_ne (ne_of_none q na)]
        exact q
/-- into the clause's suite, no object pinned -/
theorem inv_into (I : Inv X pins σ H s) (a : Addr) : Inv (X.suite a (X.pn ++ pins)) [] σ H s where
  ok := I.ok.suite a _
  os := I.os
  bare := I.bare
  base := I.base
  loc := I.loc
  cell := I.cell
  free := I.free
  freeC := I.freeC
  pin := by
    intro p hp
    rw [List.append_nil] at hp
    exact I.pin p hp
  hok := I.hok
  len := I.len
/-- and out of it -/
theorem inv_outof {a : Addr} {pn : List (Addr × Obj)} (I : Inv (X.suite a (X.pn ++ pins)) pn σ H s) (ok : X.Ok) : Inv X pins σ H s where
  ok := ok
  os := I.os
  bare := I.bare
  base := I.base
  loc := I.loc
  cell := I.cell
  free := I.free
  freeC := I.freeC
  pin := fun p hp => I.pin p (List.mem_append_left _ hp)
  hok := I.hok
  len := I.len
end
/-- what the clause leaves: its own name is gone -/
def goneE (i : Nat) (D : Ends) : Ends where
  nx := fun σ H => D.nx (σ.set i none) H
  rt := D.rt
  bk := fun σ H => D.bk (σ.set i none) H
  ct := fun σ H => D.ct (σ.set i none) H
/-- what the clause wishes of the body's exceptions: each is caught, and stays -/
def wKeep (K : PySem.W.Frag) (c : Value) (i : Nat) (ts : Addr → Value → Option Addr → TS) (D : Ends) : WX := fun cls d σ H =>
  PySem.W.exmOne K cls c = some true ∧ ∀ a, H a = none → ts a cls d (goneE i D) (σ.set i (some (.ref a))) (upd H a (keptX cls d a))
section
variable {X : Cx} {x n : Str} {c : Value} {i : Nat} {body suite : List Stmt} {b₀ : Stmt} {np pos pos' : Pos} {tb : WX → TS} {ts : Addr → Value → Option Addr → TS}
theorem ps_try_keep (hs : X.stack = X.env :: X.outer) (hf : X.env.frame = some X.env.locals) (hex : X.ex = []) (hN : X.N.Nodup) (hi : X.N[i]? = some n) (hln : X.env.kindOf n = some .local) (hc : Names X x c)
    (hb : ∀ (W : WX) (pn : List (Addr × Obj)) (xe : Value → Shared → Prop), Takes (X.tr pn xe) W → PassesOwn (model X.prog X.w) X.A X.env xe → PSs (X.tr pn xe) body (tb W))
    (hsu : ∀ (a : Addr) (cls : Value) (d : Option Addr) (pn : List (Addr × Obj)), PSs (X.suite a pn) (b₀ :: suite) (ts a cls d)) :
    PS X (.Try body [.ExceptHandler (some (.Name x np)) (some n) (b₀ :: suite) pos'] [] [] pos) (fun D σ H => tb (wKeep X.K c i ts D) D σ H) := by
  constructor
  intro pins s σ H D I h
  have ok := I.ok
  have fr0 : X.A.frames = some (X.env :: X.outer) := by
    rw [ok.frames, hs]
  refine wpAny_Try_except ?_
  let xe' : Value → Shared → Prop := fun e s₁ => wpAny (model X.prog X.w) X.A (noteFrame e X.env) (fun _ s₂ => wpAny (model X.prog X.w) X.A (setFlight e none) (fun _ s₃ =>
    wpAny (model X.prog X.w) X.A (handleBy e X.env [.ExceptHandler (some (.Name x np)) (some n) (b₀ :: suite) pos']) (SP X pins D) X.xe s₃) X.xe s₂) X.xe s₁
  have catches : Takes (X.tr (X.pn ++ pins) xe') (wKeep X.K c i ts D) := by
    rintro u s' ⟨a, B, sI, pins', σ', H', cls, d, rfl, J', nb, up, sky, na, os, ag, hm, hyes⟩
    have J : Inv X pins σ' H' sI := J'.ofTry ok
    rw [show (X.tr (X.pn ++ pins) xe').stack = X.env :: X.outer from hs] at sky
    show wpAny (model X.prog X.w) X.A (noteFrame (.ref a) X.env) _ _ _
    refine Sky.land Zc.steady fr0 hf sky ?_
    intro h3 fl3 up3
    have J3 : Inv X pins σ' H' { s' with heap := h3 } := J.landed nb fl3.1 (up.trans up3) os ag
    refine wpAny_handleBy_cons (codeAny_handlers_test ?_) (fun q => nomatch q)
    -- the class is looked up and held against
    have look : PySem.W.Looks (model X.prog X.w) h3 (typeOf (.ref a)) cls := by
      obtain ⟨o3, v3, e3, z3, d3⟩ := fl3.there
      intro A Q E s k q
      refine wpAny_typeOf_ref (k _ _ e3) ?_
      rw [z3.1]
      exact q
    have hit := PySem.W.exm_one (M := model X.prog X.w) J3.kIn look hm
    have named : ∀ {Q : Value → Shared → Prop} {E : Value → Shared → Prop}, Q c { s' with heap := h3 } → wpAny (model X.prog X.w) (X.A.mark (some (.ref a))) (eval (.Name x np) X.env) Q E { s' with heap := h3 } := by
      intro Q E q
      have S3 := inv_into J3 a
      obtain ⟨hg, hdb, hv⟩ := hc
      rcases hv with hv | ⟨hv, hw, hn⟩
      · exact ld_glob (X := X.suite a (X.pn ++ pins)) S3 hg hv q hdb
      · exact ld_blt (X := X.suite a (X.pn ++ pins)) S3 hg hv hw q hn hdb
    refine named (hit.here (codeAny_handlers_suite_as (HandSPX.lands_againZ fl3 ?_)))
    intro h4 fl4 up4
    have J4 : Inv X pins σ' H' { s' with heap := h4 } := J.landed nb fl4.1 ((up.trans up3).trans up4) os ag
    obtain ⟨o4, v4, e4, z4, d4⟩ := fl4.there
    have ge : sI.heap.get? a = none := by
      cases q : sI.heap.get? a with
      | none => rfl
      | some o =>
        exfalso
        by_cases hm' : a ∈ frs (X.env :: X.outer)
        · obtain ⟨_, o', q', nf⟩ := fl4.2.2.1.mem hm'
          rw [e4] at q'
          cases q'
          exact nf _ d4
        · have z := nb a o q (by rw [show (X.tr (X.pn ++ pins) xe').stack = X.env :: X.outer from hs]; exact hm')
          rw [fl4.2.1] at z
          cases z
    have S4 := inv_into (inv_keep J ge J4 hex e4 z4 d4 na) a
    refine store_ok (X := X.suite a (X.pn ++ pins)) (v := .ref a) S4 hN hi (.inl hln) rfl ?_ (.inr hln)
    intro s5 S5
    refine wpAny_mono ((hsu a cls d (X.pn ++ pins)).run [] s5 _ _ (goneE i D) S5 (hyes a na)) ?_ (fun _ _ z => False.elim z)
    intro f s6 sp
    have out : ∀ {σ6 : L2.St} {H6 : Hp} {Q : Shared → Prop}, Inv (X.suite a (X.pn ++ pins)) [] σ6 H6 s6 → (∀ s7, Inv X pins (σ6.set i none) H6 s7 → Q s7) →
        wpAny (model X.prog X.w) X.A (do bindName X.env n .none; unbindBehindTheSuite X.env n pos') (fun _ s7 => Q s7) X.xe s6 := by
      intro σ6 H6 Q S6 hq
      exact gone_ok (inv_outof S6 ok) hN hi hln hq
    match f, sp with
    | .next, ⟨_, _, S6, q⟩ => exact out S6 fun s7 J7 => ⟨_, _, J7, q⟩
    | .brk, ⟨_, _, S6, q⟩ => exact out S6 fun s7 J7 => ⟨_, _, J7, q⟩
    | .cont, ⟨_, _, S6, q⟩ => exact out S6 fun s7 J7 => ⟨_, _, J7, q⟩
    | .ret u, ⟨_, _, _, S6, r, q⟩ => exact out S6 fun s7 J7 => ⟨_, _, _, J7, r, q⟩
  refine wpAny_mono ((hb (wKeep X.K c i ts D) (X.pn ++ pins) xe' catches PassesOwn.looking).run [] s σ H D (I.toTry _) h) ?_ (fun _ _ z => z)
  intro f s1 sp
  match f, sp with
  | .next, ⟨σ', H', J, q⟩ => exact wpAny_execs_nil ⟨σ', H', J.ofTry ok, q⟩
  | .brk, ⟨σ', H', J, q⟩ => exact ⟨σ', H', J.ofTry ok, q⟩
  | .cont, ⟨σ', H', J, q⟩ => exact ⟨σ', H', J.ofTry ok, q⟩
  | .ret u, ⟨v, σ', H', J, r, q⟩ => exact ⟨v, σ', H', J.ofTry ok, r, q⟩
end
/-! ### own exceptions under a class that is made by another's __new__ (KeyError, by LookupError's) -/
section
open Builtin Builtin.ObjectAttr
variable {prog : Program} {w : World} {M : Model} {A : Around} {E : Value → Shared → Prop} {R : Result → Shared → Prop} {h : Heap} {g : Array GenState} {d : Drawn} {t : Nat} {os : OsState}
variable {nm q : Str} {C N : Addr} {bs bm bmB : List Value} {hdct : Bool} {sn : List Str} {sub : List Value} {ab : Bool} {col : Option Bool} {dd : Option Addr} {k0 k1 k2 k3 k5 : Option Value} {B newId initId : String}
/-- what is asked of the classes above -/
structure Above (B : String) (bm : List Value) : Prop where
  is : bm.contains (.type B) = true
  noA : bm.contains (.type "AttributeError") = false
  noN : bm.contains (.type "NameError") = false
theorem mk_check (F : ExcBaseFacts B newId initId bmB) (T : Above B bm) {rest : List Value} {Q : Unit → Shared → Prop}
    (hC : h.get? C = some (excClassObj nm q C N bs bm hdct sn sub ab col dd k0 k1 k2 k3 k5 newId)) (hq : Q () ⟨h, g, d, t, os⟩) : wpAny M A (checkBuiltinCall newId ⟨.ref C :: rest, []⟩) Q E ⟨h, g, d, t, os⟩ := by
  have c1 : (Value.ref C :: bm).contains (.type B) = true := by
    rw [List.contains_cons, T.is, Bool.or_true]
  have c2 := F.noStar
  simp only [F.newKind, F.newSplit, F.newRow, checkBuiltinCall]
  repeat (first
    | refine wpAny_loadPart_at hC ?_
    | (refine wpAny_isSubtype_exc hC ?_; rw [c1])
    | refine wpAny_staticBase_exc hC ?_
    | refine wpAny_madeBy_exc hC ?_
    | simp only [bne_self_eq_false, Bool.false_eq_true, if_false]
    | wp_step)
  exact hq
theorem mk_new (F : ExcBaseFacts B newId initId bmB) (T : Above B bm) {rest : List Value}
    (hC : h.get? C = some (excClassObj nm q C N bs bm hdct sn sub ab col dd k0 k1 k2 k3 k5 newId)) (hz : rest.length ≤ sizeLine)
    (hq : R (.ok (.ret (.ref (h.objs.size + 1)))) ⟨(h.push (PySem.W.kdv_tup rest)).push (PySem.HandSPX.excO C h.objs.size), g, d, t, os⟩) :
    codeAny (model prog w) A (.builtin newId ⟨.ref C :: rest, []⟩) R ⟨h, g, d, t, os⟩ := by
  have ends := F.ends
  have c1 : (Value.ref C :: bm).contains (.type B) = true := by
    rw [List.contains_cons, T.is, Bool.or_true]
  have c2 : (Value.ref C :: bm).contains (.type "AttributeError") = false := by
    rw [List.contains_cons, T.noA]
    rfl
  have c3 : (Value.ref C :: bm).contains (.type "NameError") = false := by
    rw [List.contains_cons, T.noN]
    rfl
  refine PySem.codeAny_builtinAt F.entry ?_
  unfold Builtin.«BaseException.__new__»
  refine PySem.wpAt_bind ?_
  show PySem.wpAt _ _ _ (stack >>= _) _ _ _
  refine PySem.wpAt_bind (PySem.wpAt_stack ?_)
  intro p below
  refine PySem.wpAt_of_wpAny ?_
  wp_walk
  refine PySem.wpAt_of_wpAny ?_
  rw [F.owner]
  repeat (first
    | with_reducible refine wpAny_madeHere_exc F.canon hC ?_
    | with_reducible refine wpAny_loadPart_at hC ?_
    | (with_reducible refine wpAny_isSubtype_exc hC ?_; first | rw [c1] | rw [c2] | rw [c3])
    | wp_step)
  show R _ _
  rw [Heap.size_push]
  exact hq
theorem mk_type (F : ExcBaseFacts B newId initId bmB) (T : Above B bm) {rest : List Value} {fI : Addr} {Q : Fin → Shared → Prop}
    (hC : h.get? C = some (excClassObj nm q C N bs bm hdct sn sub ab col dd k0 k1 k2 k3 k5 newId)) (hi : PySem.W.Looks (model prog w) h (typeLookup (.ref C) "__init__") (some (.ref fI)))
    (hb : ∀ self, PySem.W.Looks (model prog w) h (bindSpecial (.ref fI) self) (.ref fI, [self])) (hz : rest.length ≤ sizeLine)
    (hq : codeAny (model prog w) A (.call (.ref fI) ⟨.ref (h.objs.size + 1) :: rest, []⟩) (fun r s' => match r with | .ok (.ret v) => v = .none ∧ Q (.done (.ret (.ref (h.objs.size + 1)))) s' | .ok _ => False | .error e => E e s')
      ⟨(h.push (PySem.W.kdv_tup rest)).push (PySem.HandSPX.excO C h.objs.size), g, d, t, os⟩) :
    wpAny (model prog w) A (Builtin.«type.__call__» ⟨.ref C :: rest, []⟩) Q E ⟨h, g, d, t, os⟩ := by
  have k : ∀ b o, h.get? b = some o → ((h.push (PySem.W.kdv_tup rest)).push (PySem.HandSPX.excO C h.objs.size)).get? b = some o := by
    intro b o e
    exact Heap.get?_push_of_some _ (Heap.get?_push_of_some _ e)
  have hC1 := k _ _ hC
  have got : ((h.push (PySem.W.kdv_tup rest)).push (PySem.HandSPX.excO C h.objs.size)).get? (h.objs.size + 1) = some (PySem.HandSPX.excO C h.objs.size) := by heap_get
  have self : (Value.ref C :: bm).contains (.ref C) = true := by simp
  repeat (first
    | with_reducible refine wpAny_loadPart_at hC ?_
    | with_reducible refine wpAny_madeBy_exc hC ?_
    | wp_step)
  refine codeAny_call_builtin_code (Code.quiet_builtin _ F.quiet) (mk_check F T hC (mk_new F T hC hz ?_))
  show wpAny _ _ _ _ _ _
  have look := hi.keeps k
  have bind := (hb (.ref (h.objs.size + 1))).keeps k
  unfold isInstance
  repeat (first
    | with_reducible refine wpAny_loadPart_at got ?_
    | (with_reducible refine wpAny_isSubtype_exc hC1 ?_; rw [self])
    | wp_step)
  show wpAny _ _ (typeLookup (.ref C) _) _ _ _
  refine look.at (wpAny_holding (wpAny_bind (bind.at (wpAny_bind (wpAny_call (codeAny_mono hq ?_))))))
  intro r s' z
  match r, z with
  | .error e, z => exact z
  | .ok (.ret v), ⟨e, z⟩ =>
    subst e
    first
      | exact wpAny_pure (wpAny_pure z)
      | (wp_walk; exact z)
theorem mk_call (F : ExcBaseFacts B newId initId bmB) (T : Above B bm) {rest : List Value} {fI : Addr}
    (hC : h.get? C = some (excClassObj nm q C N bs bm hdct sn sub ab col dd k0 k1 k2 k3 k5 newId)) (hi : PySem.W.Looks (model prog w) h (typeLookup (.ref C) "__init__") (some (.ref fI)))
    (hb : ∀ self, PySem.W.Looks (model prog w) h (bindSpecial (.ref fI) self) (.ref fI, [self])) (hz : rest.length ≤ sizeLine)
    (hq : codeAny (model prog w) (A.under (.builtin "type.__call__" ⟨.ref C :: rest, []⟩)) (.call (.ref fI) ⟨.ref (h.objs.size + 1) :: rest, []⟩) (PySem.W.InitBack (h.objs.size + 1) R)
      ⟨(h.push (PySem.W.kdv_tup rest)).push (PySem.HandSPX.excO C h.objs.size), g, d, t, os⟩) : codeAny (model prog w) A (.call (.ref C) ⟨rest, []⟩) R ⟨h, g, d, t, os⟩ := by
  have l1 := tc_lookup
  have l2 := tc_bind (.ref C)
  have ty : (⟨h, g, d, t, os⟩ : Shared).TypeIs (.ref C) "type" := ⟨_, hC, rfl⟩
  refine codeAny_of_tree ?_
  show wpAny _ _ (callAny (.ref C) _) _ _ _
  repeat (any_goals (first
    | assumption
    | with_reducible refine wpAny_loadPart_at hC ?_
    | wp_step))
  refine ⟨rfl, codeAny_call_builtin_at (Code.quiet_builtin _ (by decide +kernel)) entry_typeCall (wpAny_check_type_call_sub hC (mk_type F T hC hi hb hz (codeAny_mono hq ?_)))⟩
  intro r s' z
  rcases r with e | (v | _ | _ | _) <;> exact z
end
/-! ### own exceptions over any built-in class, with fields -/
section
open Builtin Builtin.ObjectAttr
/-- what the written part says of such a class -/
structure OexB (K : PySem.W.Frag) (C : Addr) : Prop where
  made : ∃ (B newId initId : String) (bmB bm : List Value) (nm q : Str) (N : Addr) (bs : List Value) (hdct : Bool) (sn : List Str) (sub : List Value) (ab : Bool) (col : Option Bool) (dd : Option Addr) (k0 k1 k2 k3 k5 : Option Value),
    PySem.ExcBaseFacts B newId initId bmB ∧ Above B bm ∧ K.lookup C = some (excClassObj nm q C N bs bm hdct sn sub ab col dd k0 k1 k2 k3 k5 newId)
  st : ∃ (T : String) (bmT : List Value), PySem.StoreFacts T bmT "object.__setattr__" "object" ∧ PySem.W.excOver K C bmT = true
  hd : PySem.W.hasDictIn K C = true
  sa : PySem.W.findIn K (.ref C) "__setattr__" = some (some (.builtin "object.__setattr__"))
  exC : PySem.W.subIn K (.ref C) (.type "BaseException") = some true
  tyC : PySem.W.typeIn K (.ref C) = some (.type "type")
  kC : PySem.W.keepIn K (.ref C) = true
theorem OexB.cd {K : PySem.W.Frag} {C : Addr} (T : OexB K C) : ∃ cd, PySem.W.clsIn K C = some cd ∧ cd.hasDict = true := PySem.W.any_some T.hd
theorem taker_none {K : PySem.W.Frag} {C : Addr} {f : Str} (h : PySem.W.findIn K (.ref C) f = some none) : PySem.W.takerIn K C f = some none := by
  unfold PySem.W.takerIn
  rw [h]
  rfl
variable {prog : Program} {w : World} {A : Around} {R : Result → Shared → Prop} {hp : Heap} {g : Array GenState} {d : Drawn} {t : Nat} {os : OsState} {K : PySem.W.Frag} {name : Str} {tk : Tok} {v : Value} {x C : Addr} {fv : Array Value}
theorem sa_first (T : OexB K C) (X : K.In hp) (hx : hp.get? x = some { cls := .ref C, data := .fields fv }) (ha : PySem.W.findIn K (.ref C) name = some none)
    (hq : ∀ h' tk' dx, (∀ b o, b ≠ x → hp.get? b = some o → h'.get? b = some o) → hp.objs.size ≤ dx → dx ≠ x → h'.get? x = some { cls := .ref C, dict := some dx, data := .fields fv } → h'.Ns1 dx (fun y => if y = name then some v else none) → R (.ok (.ret .none)) ⟨h', g, d, tk', os⟩) :
    codeAny (model prog w) A (.call (.builtin "object.__setattr__") ⟨[.ref x, .str name tk, v], []⟩) R ⟨hp, g, d, t, os⟩ := by
  obtain ⟨TT, bmT, SF, ov⟩ := T.st
  obtain ⟨cd, hcd, hdd⟩ := T.cd
  have I : PySem.W.InstAt hp x { cls := .ref C, data := .fields fv } C none := ⟨hx, rfl, rfl, trivial⟩
  have hxs : x ≠ hp.objs.size := Nat.ne_of_lt (Heap.lt_size hx)
  refine PySem.W.osa_openX SF X I ov (taker_none ha) (fun b => ?_)
  have lc : PySem.W.Looks (model prog w) hp (classData C) cd := PySem.W.looks_clsIn X hcd
  obtain ⟨z1, z2, z3, z4, z5, z6, z7, z8, z9, z10, z11⟩ := cd
  dsimp only at hdd
  subst hdd
  show wpAny _ _ (storeInOwnDict (.ref x) (.ref C) (.str name tk) name v b) _ _ _
  unfold storeInOwnDict ownDictForStores
  cases b <;>
  · repeat (first | with_reducible refine PySem.HandSPX.store_in_new ?_ ?_ | with_reducible refine wpAny_loadPart_at hx ?_ | with_reducible refine lc.at ?_ | wp_step)
    · exact ⟨_, #[], _, (Heap.get?_update_ne _ _ _ _ hxs.symm).trans (Heap.get?_push_at rfl rfl), rfl, fun e he => absurd he (by simp), fun _ => rfl⟩
    · intro h' tk' hn' hs
      have hx1 : (hp.push { cls := .type "dict", data := .dict #[] }).get? x = some { cls := .ref C, data := .fields fv } := Heap.get?_push_of_some _ hx
      refine hq h' tk' hp.objs.size ?_ (Nat.le_refl _) hxs.symm ?_ hn'
      · intro b o hb ho
        have e1 := hs.2 b (Nat.ne_of_lt (Heap.lt_size ho))
        rw [e1, Heap.get?_update_ne _ _ _ _ hb]
        exact Heap.get?_push_of_some _ ho
      · rw [hs.2 x hxs]
        exact Heap.get?_update_self _ hx1 rfl
theorem sa_further {dx : Addr} {m0 : Str → Option Value} {nl : List Str} (T : OexB K C) (X : K.In hp) (hx : hp.get? x = some { cls := .ref C, dict := some dx, data := .fields fv }) (hns : hp.Ns1 dx m0) (hw : Within m0 nl) (hz : nl.length ≤ 1000) (ha : PySem.W.findIn K (.ref C) name = some none)
    (hq : ∀ h' tk', (∀ b o, b ≠ dx → hp.get? b = some o → h'.get? b = some o) → h'.Ns1 dx (fun y => if y = name then some v else m0 y) → R (.ok (.ret .none)) ⟨h', g, d, tk', os⟩) :
    codeAny (model prog w) A (.call (.builtin "object.__setattr__") ⟨[.ref x, .str name tk, v], []⟩) R ⟨hp, g, d, t, os⟩ := by
  obtain ⟨TT, bmT, SF, ov⟩ := T.st
  obtain ⟨cd, hcd, hdd⟩ := T.cd
  obtain ⟨oD, _, _, hoD, _, _⟩ := hns.count hw
  have I : PySem.W.InstAt hp x { cls := .ref C, dict := some dx, data := .fields fv } C (some oD) := ⟨hx, rfl, rfl, hoD⟩
  refine PySem.W.osa_openX SF X I ov (taker_none ha) (fun b => ?_)
  have lc : PySem.W.Looks (model prog w) hp (classData C) cd := PySem.W.looks_clsIn X hcd
  obtain ⟨z1, z2, z3, z4, z5, z6, z7, z8, z9, z10, z11⟩ := cd
  dsimp only at hdd
  subst hdd
  show wpAny _ _ (storeInOwnDict (.ref x) (.ref C) (.str name tk) name v b) _ _ _
  unfold storeInOwnDict ownDictForStores
  cases b <;>
  · repeat (first | with_reducible refine PySem.OEX.store_in_old hns hw hz ?_ | with_reducible refine wpAny_loadPart_at hx ?_ | with_reducible refine lc.at ?_ | wp_step)
    intro h' tk' hn' hs
    exact hq h' tk' (fun b o hb ho => (hs.2 b hb).trans ho) hn'
end
section
variable {X : Cx} {pins : List (Addr × Obj)} {σ : L2.St} {H : Hp} {s : Shared} {a C dx : Addr} {f : Str} {y : V} {u : Value} {fs : List (Str × V)} {Q : Unit → Shared → Prop} {E : Value → Shared → Prop} {A : Around}
theorem put_first (T : OexB X.K C) (I : Inv X pins σ H s) (e : H a = some (exo a C none)) (hno : PySem.W.findIn X.K (.ref C) f = some none) (ry : RelV y u)
    (h : ∀ dx s', H dx = none → dx ≠ a → Inv X pins σ (upd (upd H dx (exd dx [(f, y)])) a (exo a C (some dx))) s' → Q () s') : wpAny (model X.prog X.w) A (setAttr (.ref a) f u) Q E s := by
  obtain ⟨t1, ho⟩ := exo_at I.hok e
  obtain ⟨hp, g, d, t, os⟩ := s
  refine PySem.W.set_plain I.kIn (od := none) ⟨ho, rfl, rfl, trivial⟩ T.sa (sa_first T I.kIn ho hno ?_)
  intro h' tk' dx k big ne hx hn
  have fresh : H dx = none := I.hok.fresh big
  have notd : ∀ {b : Addr} {o : Obj}, hp.get? b = some o → b ≠ dx := by
    intro b o q
    exact Nat.ne_of_lt (Nat.lt_of_lt_of_le (Heap.lt_size q) big)
  have nota : ∀ {b : Addr}, H b = none → b ≠ a := by
    intro b n z
    rw [z, e] at n
    cases n
  have step : Un X.fs [] H (upd (upd H dx (exd dx [(f, y)])) a (exo a C (some dx))) hp h' := by
    constructor
    case keep => exact fun b o q n _ _ => k b o (nota n) q
    case slot => exact fun b o q n _ _ => ⟨o.slots, k b o (nota n) q⟩
    case free =>
      intro b o q n _
      rw [upd_ne (nota n), upd_ne (notd q)]
      exact n
    case there =>
      intro b o q _
      by_cases hb : b = a
      · subst hb
        exact ⟨_, hx⟩
      · exact ⟨o, k b o hb q⟩
    case tups =>
      intro b xs q
      rw [upd_ne (at_ne e q exo_tup), upd_ne (ne_of_none q fresh)]
      exact q
    case frzs =>
      intro b o v q
      rw [upd_ne (at_ne e q exo_frz), upd_ne (ne_of_none q fresh)]
      exact q
    case tbls =>
      intro b ps q
      refine ⟨#[], ?_⟩
      rw [upd_ne (at_ne e q exo_tbl), upd_ne (ne_of_none q fresh), q]
      simp
  refine h dx _ fresh ne (I.un (t' := tk') step ?_)
  intro b o q
  by_cases hb : b = a
  · subst hb
    rw [upd_same] at q
    cases q
    exact exo_ok hx
  rw [upd_ne hb] at q
  by_cases hd : b = dx
  · subst hd
    rw [upd_same] at q
    cases q
    exact exd_ok hn (relO_put (fs := []) ry fun _ => True.intro)
  rw [upd_ne hd] at q
  refine (I.hok b o q).stay (fun c v hc z => k c v ?_ z) (fun c hc => ?_) (fun c xs hc => ?_)
  · rcases hc with rfl | hc
    · exact hb
    · exact at_ne e hc exo_own
  · rw [upd_ne (at_ne e hc exo_own), upd_ne (ne_of_none hc fresh)]
    exact hc
  · rw [upd_ne (at_ne e hc exo_tup), upd_ne (ne_of_none hc fresh)]
    exact hc
theorem put_further (T : OexB X.K C) (I : Inv X pins σ H s) (e : H a = some (exo a C (some dx))) (ed : H dx = some (exd dx fs)) (hl : fs.length ≤ 900) (hno : PySem.W.findIn X.K (.ref C) f = some none) (ry : RelV y u)
    (h : ∀ s', Inv X pins σ (upd H dx (exd dx ((f, y) :: fs))) s' → Q () s') : wpAny (model X.prog X.w) A (setAttr (.ref a) f u) Q E s := by
  obtain ⟨t1, ho⟩ := exo_at I.hok e
  obtain ⟨mA, hns, rel⟩ := exd_at I.hok ed
  have hw := within_of rel
  obtain ⟨hp, g, d, t, os⟩ := s
  obtain ⟨oD, _, _, hoD, _, _⟩ := hns.count hw
  refine PySem.W.set_plain I.kIn (od := some oD) ⟨ho, rfl, rfl, hoD⟩ T.sa (sa_further T I.kIn ho hns hw ?_ hno ?_)
  · rw [List.length_map]
    omega
  · intro h' tk' k hn
    have there : ∃ o, h'.get? dx = some o := by
      obtain ⟨o, _, _, e', _⟩ := hn
      exact ⟨o, e'⟩
    refine h _ (I.write (t' := tk') (x := dx) (e := dx) (o := exd dx ((f, y) :: fs)) ?_ (.inl rfl) k there (exd_ok hn (relO_put ry rel)))
    rw [ed]
    exact True.intro
end
/-- self.f = y in the __init__ of an exception -/
def tPut (K : PySem.W.Frag) (f : Str) (to te : TE) : TS := fun D σ H => te σ H fun y H1 => to σ H1 fun x H2 => ∃ a C : Addr, x = .ref a ∧ OexB K C ∧ PySem.W.findIn K (.ref C) f = some none ∧
  ((H2 a = some (exo a C none) ∧ ∀ dx, H2 dx = none → dx ≠ a → D.nx σ (upd (upd H2 dx (exd dx [(f, y)])) a (exo a C (some dx)))) ∨
    ∃ (dx : Addr) (fs : List (Str × V)), H2 a = some (exo a C (some dx)) ∧ H2 dx = some (exd dx fs) ∧ fs.length ≤ 900 ∧ D.nx σ (upd H2 dx (exd dx ((f, y) :: fs))))
section
variable {X : Cx} {o e : Expr} {es : List Expr} {to te : TE} {ta : TA} {f : Str} {p p' pos : Pos}
theorem ps_put (ho : PE X o to) (he : PE X e te) (hs : swapsWith e (some (.Attribute o f p')) pos.line X.env = pure false := by rfl) : PS X (.Assign [.Attribute o f p'] e pos) (tPut X.K f to te) := by
  constructor
  intro pins s σ H D I h
  refine plainObj_wpAny_Assign_Attribute (thn (he.run pins s σ H _ I h) ?_) hs
  rintro v s1 ⟨y, H1, I1, r1, q1⟩
  refine thn (ho.run pins s1 σ H1 _ I1 q1) ?_
  rintro u s2 ⟨x, H2, I2, r2, a, C, rfl, T, hno, q⟩
  obtain rfl : u = Value.ref a := r2
  rcases q with ⟨ea, q⟩ | ⟨dx, fs, ea, ed, hl, q⟩
  · exact put_first T I2 ea hno r1 fun dx s' n ne J => ⟨σ, _, J, q dx n ne⟩
  · exact put_further T I2 ea ed hl hno r1 fun s' J => ⟨σ, _, J, q⟩
/-- C(e, ..) of such a class, to be raised -/
theorem pmk_oexB {CX : CXT} {x : Str} {C fI : Addr} {k : Nat} {fd : FuncData} {ps : List Str} {sp : Sp} (T : OexB X.K C) (iC : PySem.W.findIn X.K (.ref C) "__init__" = some (some (.ref fI))) (tI : PySem.W.typeIn X.K (.ref fI) = some (.type "function"))
    (G : FnOk X.prog X.w X.K X.mg X.base CX k fI fd ps sp) (hr : Room (k + 1) X.A) (hb : Binds X.K fd ps []) (hx : Passes CX X (fun _ _ _ => False)) (hg : Gl X x) (hm : X.mg x = some (.ref C)) (ha : PA X (e :: es) ta)
    (hdb : (x == ("__debug__" : Str)) = false := by decide) (he : starEach (e :: es) X.env = (false, eval e X.env) :: starEach es X.env := by rfl) (hpl : (backTo pos (starEach es X.env)).any (·.1) = false := by rfl) :
    PMk X (.Call (.Name x p) (e :: es) [] pos) (tMkO C sp [] ta) := by
  intro pins s σ H Q I h
  obtain ⟨B, newId, initId, bmB, bm, nm, qn, N, bs, hdct, sn, sub, ab, col, dd, k0, k1, k2, k3, k5, FB, hT, hC0⟩ := T.made
  refine wpAny_Call_Name_kw (ld_glob I hg hm ?_ hdb)
  refine PySem.W.callWith_K (h₀ := X.base) I.ok.mod.kin T.kC (thn (ha.run pos pins s σ H _ I h) ?_) he hpl
  rintro us s1 ⟨vs, H1, I1, r1, hz, q1⟩
  refine ⟨I1.kIn, ?_⟩
  show wpAny _ _ (call (.ref C) us) _ _ _
  obtain ⟨hp, g, dr, tk, os⟩ := s1
  have hC := I1.kIn _ _ hC0
  let A1 := hp.objs.size + 1
  let hp2 := (hp.push (PySem.W.kdv_tup us)).push (PySem.HandSPX.excO C hp.objs.size)
  have big : hp.objs.size ≤ A1 := Nat.le_succ _
  have q2 := q1 A1 (I1.hok.fresh big)
  have kk : ∀ b o, hp.get? b = some o → hp2.get? b = some o := fun b o e => Heap.get?_push_of_some _ (Heap.get?_push_of_some _ e)
  have got : hp2.get? A1 = some (PySem.HandSPX.excO C hp.objs.size) := by
    show ((hp.push (PySem.W.kdv_tup us)).push (PySem.HandSPX.excO C hp.objs.size)).get? (hp.objs.size + 1) = _
    heap_get
  have I2 : Inv X pins σ (upd H1 A1 (exo A1 C none)) ⟨hp2, g, dr, tk, os⟩ := I1.laid (t' := tk) (a := A1) (o := exo A1 C none) (h' := hp2) kk big (exo_ok got)
  have r2 : Vals (V.ref A1 :: (vs ++ [])) (Value.ref A1 :: us) := by
    rw [List.append_nil]
    exact .cons rfl r1
  have hlen : (Value.ref A1 :: us).length = ps.length := by
    rw [← r2.length]
    exact G.len _ _ _ _ q2
  have hus : us.length ≤ sizeLine := by
    rw [← Paired.length r1, sizeLine_eq]
    omega
  have bd := hb ⟨hp2, g, dr, tk, os⟩ (Value.ref A1 :: us) I2.kIn (by rw [List.append_nil]; exact hlen)
  rw [List.append_nil] at bd
  refine wpAny_call (mk_call FB hT hC (PySem.W.looks_findIn I1.kIn iC) (fun self => PySem.W.bind_fn I1.kIn self tI) hus ?_)
  refine codeAny_mono (G.run _ X.stack _ _ ⟨Value.ref A1 :: us, []⟩ (Value.ref A1 :: us) _ _ (fun _ _ _ => False) (hr.make C us []) (I2.env0.make C us []) bd r2 q2) ?_
  intro r s' hq'
  match r, hq' with
  | .error er, hq' => exact hx pins σ _ _ er s' I2 hq'
  | .ok (.ret u), ⟨v, H2, os2, bare2, un2, hok2, rv, ev, d, fs, ea, ed, hd1, q3⟩ =>
    subst ev
    obtain ⟨h2, g2, d2, t2, os'⟩ := s'
    exact ⟨rv, mk_end (raises_own T.exC T.tyC) I1 big kk un2 hok2 os2 bare2 ea ed hd1 q3⟩
end
/-! ### a kept exception, looked at -/
/-- at a stands a kept exception of the class C with these fields -/
def KeptE (H : Hp) (a C : Addr) (fs : List (Str × V)) : Prop := ∃ dd : Addr, H a = some (keptX (.ref C) (some dd) a) ∧ H dd = some (.xd fs)
theorem keptE_inst {X : Cx} {pins : List (Addr × Obj)} {σ : L2.St} {H : Hp} {s : Shared} {a C : Addr} {fs : List (Str × V)} (I : Inv X pins σ H s) (h : KeptE H a C fs) : ∃ (ox od : Obj), PySem.W.InstAt s.heap a ox C (some od) ∧
    ∀ f, ∃ u, RelO (fs.lookup f) u ∧ PySem.W.lookIn f od = some u := by
  obtain ⟨dd, ea, ed⟩ := h
  obtain ⟨oe, vs, ho, hz, hd⟩ := keptX_at I.hok ea
  have hx : ObjOk X.prog X.w H s.heap dd (.xd fs) := I.hok dd _ ed
  obtain ⟨mA, hns, hr⟩ := hx
  obtain ⟨od, h1, hl⟩ := lookIn_ns hns
  refine ⟨oe, od, ⟨ho, hz.1, ?_, ?_⟩, fun f => ⟨mA f, hr f, hl f⟩⟩
  · unfold PySem.W.notCls
    rw [hd] <;> rfl
  · rw [hz.2]
    exact h1
/-- e.f, e a kept exception -/
def tFldX (K : PySem.W.Frag) (f : Str) (te : TE) : TE := fun σ H Q => te σ H fun x H1 => ∃ (a C : Addr) (fs : List (Str × V)) (v : V), x = .ref a ∧ XfC K C ∧ PySem.W.findIn K (.ref C) f = some none ∧ KeptE H1 a C fs ∧ fs.lookup f = some v ∧ Q v H1
theorem pe_fldX {X : Cx} {e : Expr} {te : TE} {pos : Pos} {n : Str} (he : PE X e te) (hb : attributeBase e n X.env (eval e X.env) = eval e X.env := by rfl) : PE X (.Attribute e n pos) (tFldX X.K n te) := by
  constructor
  intro pins s σ H Q I h
  refine attr_of hb (thn (he.run pins s σ H _ I h) ?_)
  rintro u s1 ⟨x, H1, I1, rx, a, C, fs, v, rfl, T, hno, hk, l, q⟩
  obtain rfl : u = Value.ref a := rx
  obtain ⟨ox, od, J, look⟩ := keptE_inst I1 hk
  obtain ⟨m, r, hl⟩ := look n
  obtain ⟨u, hu, ru⟩ := RelO.some_of (v := v) (o := m) (by rw [← l]; exact r)
  exact HandSPX.exc_get I1.kIn J T.ga T.gg T.exC (PySem.W.findObj_own T.hdC hno rfl (by rw [hl, hu])) (handed_of ru) ⟨v, H1, I1.tok _, ru, q⟩
theorem keptE_kit {K : PySem.W.Frag} {a C : Addr} {od : Option Obj} {ox : Obj} (T : ExcC K C) : PySem.W.KitX K (.ref a) (.ref C) (fun h => PySem.W.InstAt h a ox C od) := by
  obtain ⟨cd, hc, _⟩ := PySem.W.any_some T.hd
  exact PySem.W.kitx_exc (by rw [hc]; rfl) T.hg T.hk T.hs T.ha T.hn T.ht T.hm
/-- isinstance(e, c) of a kept exception, or of what the layer knows already -/
def rIsO (K : PySem.W.Frag) : List V → Hp → VK → Prop := fun xs H Q => rIsi K xs H Q ∨ ∃ (a C : Addr) (fs : List (Str × V)) (c : V) (u : Value) (b : Bool), xs = [.ref a, c] ∧ KeptE H a C fs ∧ ExcC K C ∧ ClsV c u ∧ PySem.W.kitOne K (.ref C) u = some b ∧ Q (.bl b) H
theorem call_isO {X : Cx} : CallR X (.builtin "isinstance") (rIsO X.K) := by
  intro pins s σ H xs us Q I r h
  rcases h with h | ⟨a, C, fs, c, u, b, rfl, hk, T, k, e, q⟩
  · exact call_isi pins s σ H xs us Q I r h
  obtain ⟨u1, u2, rfl, r1, r2⟩ := vals2 r
  obtain rfl : u1 = Value.ref a := r1
  have e2 := k.eq r2
  subst e2
  obtain ⟨ox, od, J, _⟩ := keptE_inst I hk
  exact PySem.W.kia_one (keptE_kit T) I.kIn J e (fun z => nomatch z) fun tk => ⟨.bl b, H, I.tok tk, rfl, q⟩
/-- isinstance(e, (c1, c2, ..)) of a kept exception, or of what the layer knows already -/
def rIsOT (K : PySem.W.Frag) : List V → Hp → VK → Prop := fun xs H Q => rIsiT K xs H Q ∨ ∃ (a C : Addr) (fs : List (Str × V)) (tp : Addr) (cs : List V) (us : List Value) (b : Bool), xs = [.ref a, .ref tp] ∧ KeptE H a C fs ∧ ExcC K C ∧ H tp = some (.tup cs) ∧ Paired ClsV cs us ∧
  PySem.W.kitAny K (.ref C) us = some b ∧ Q (.bl b) H
theorem call_isOT {X : Cx} : CallR X (.builtin "isinstance") (rIsOT X.K) := by
  intro pins s σ H xs us Q I r h
  rcases h with h | ⟨a, C, fs, tp, cs, ws, b, rfl, hk, T, hT, k, e, q⟩
  · exact call_isiT pins s σ H xs us Q I r h
  obtain ⟨u1, u2, rfl, r1, r2⟩ := vals2 r
  obtain rfl : u1 = Value.ref a := r1
  obtain rfl : u2 = Value.ref tp := r2
  obtain ⟨ox, od, J, _⟩ := keptE_inst I hk
  have ht : ObjOk X.prog X.w H s.heap tp (.tup cs) := I.hok tp _ hT
  obtain ⟨_, its, rv, o, h1, h2, n, h3⟩ := ht
  have e3 := ClsV.all k rv
  subst e3
  obtain ⟨oc, od', dt, sl⟩ := o
  simp only at h2 h3
  subst h2 h3
  exact PySem.W.kia_tup (keptE_kit T) I.kIn J h1 e (fun z => nomatch z) fun tk => ⟨.bl b, H, I.tok tk, rfl, q⟩
/-! ### an object made that may refuse -/
section
variable {X : Cx} {CX : CXT} {k : Nat} {f C : Addr} {fd : FuncData} {ps : List Str} {sp : Sp} {dvs : List V} {ds : List Value} {E : L2.St → XK} {x : Str} {p pos : Pos} {e : Expr} {es : List Expr} {t : TA}
def tMakeS (C : Addr) (sp : Sp) (dvs : List V) (E : L2.St → XK) (t : TA) : TE := fun σ H Q => t σ H fun vs H1 => ∀ x dx, H1 x = none → H1 dx = none → dx ≠ x → sp (.ref x :: (vs ++ dvs)) (upd (upd H1 dx (.own x)) x (.ins C dx [])) (fun v H2 => v = .non ∧ Q (.ref x) H2) (E σ)
theorem pe_makeS (M : Mk X.K C f) (G : FnOk X.prog X.w X.K X.mg X.base CX k f fd ps sp) (hr : Room (k + 1) X.A) (hg : Gl X x) (hm : X.mg x = some (.ref C)) (hb : Binds X.K fd ps ds) (hd : Vals dvs ds) (hx : ∀ σ, PassesAt CX X σ (E σ))
    (ha : PA X (e :: es) t) (hdb : (x == ("__debug__" : Str)) = false := by decide) (he : starEach (e :: es) X.env = (false, eval e X.env) :: starEach es X.env := by rfl) (hpl : (backTo pos (starEach es X.env)).any (·.1) = false := by rfl) :
    PE X (.Call (.Name x p) (e :: es) [] pos) (tMakeS C sp dvs E t) := by
  constructor
  intro pins s σ H Q I h
  refine wpAny_Call_Name_kw (ld_glob I hg hm ?_ hdb)
  refine PySem.W.callWith_K (h₀ := X.base) I.ok.mod.kin M.kp (thn (ha.run pos pins s σ H _ I h) ?_) he hpl
  rintro us s1 ⟨vs, H1, I1, r, q⟩
  refine ⟨I1.kIn, ?_⟩
  have q2 := q (s1.heap.objs.size + 1) s1.heap.objs.size (I1.hok.fresh (Nat.le_succ _)) (I1.hok.fresh (Nat.le_refl _)) (Nat.ne_of_lt (Nat.lt_succ_self _))
  have J := Inv.made (C := C) I1
  have r2 : Vals (V.ref (s1.heap.objs.size + 1) :: (vs ++ dvs)) (Value.ref (s1.heap.objs.size + 1) :: (us ++ ds)) := .cons rfl (r.append hd)
  have hl : (Value.ref (s1.heap.objs.size + 1) :: us ++ ds).length = ps.length := by
    have e := r2.length
    rw [G.len _ _ _ _ q2] at e
    exact e.symm
  refine wpAny_call (make_map (f := f) I1.kIn M.makes M.init (beq_iff_eq.mp M.fn) (codeAny_mono (G.run _ X.stack _ _ ⟨Value.ref (s1.heap.objs.size + 1) :: us, []⟩ (Value.ref (s1.heap.objs.size + 1) :: (us ++ ds)) _ _ (E σ) (hr.make C us [])
    (J.env0.make C us []) (hb _ (Value.ref (s1.heap.objs.size + 1) :: us) J.kIn hl) r2 q2) ?_))
  intro r s' hq
  match r, hq with
  | .error er, hq => exact hx σ pins _ _ er s' J hq
  | .ok (.ret u), hq =>
    obtain ⟨v, H', I3, rv, ev, q3⟩ := J.after hq
    subst ev
    exact ⟨rv, ⟨V.ref (s1.heap.objs.size + 1), H', I3, rfl, q3⟩⟩
end
theorem oex_of {K : PySem.W.Frag} {B newId initId : String} {nm q : Str} {C N : Addr} {bs bm : List Value} {sn : List Str} {sub : List Value} {ab : Bool} {col : Option Bool} {dd : Option Addr} {m0 m1 m2 m3 m5 : Option Value}
    (FB : PySem.ExcBaseFacts B newId initId bm) (SF : PySem.StoreFacts B bm "object.__setattr__" "object") (xL : K.lookup C = some (excClassObj nm q C N bs bm true sn sub ab col dd m0 m1 m2 m3 m5 newId)) (ht : PySem.W.excTail bm bm = true)
    (hd : PySem.W.hasDictIn K C = true) (sa : PySem.W.findIn K (.ref C) "__setattr__" = some (some (.builtin "object.__setattr__"))) (exC : PySem.W.subIn K (.ref C) (.type "BaseException") = some true) (tyC : PySem.W.typeIn K (.ref C) = some (.type "type")) (kC : PySem.W.keepIn K (.ref C) = true) : OexB K C := by
  refine ⟨⟨B, newId, initId, bm, bm, nm, q, N, bs, true, sn, sub, ab, col, dd, m0, m1, m2, m3, m5, FB, ⟨FB.hasB, FB.noAttr, FB.noName⟩, xL⟩, ⟨B, bm, SF, ?_⟩, hd, sa, exC, tyC, kC⟩
  unfold PySem.W.excOver PySem.W.clsIn
  rw [xL]
  simp [excClassObj, ht]
/-- KeyError: stores by its own facts, made by LookupError's __new__ -/
abbrev keyTail : List Value := [.type "KeyError", .type "LookupError", .type "Exception", .type "BaseException", .type "object"]
theorem store_KeyError : PySem.StoreFacts "KeyError" keyTail "object.__setattr__" "object" :=
  ⟨by kernel_rfl, .of (n := "__setattr__") (owner := "object") (by rw [typeLookup_type, builtinLookup_eq_fast]; kernel_rfl) (by decide +kernel) (by decide +kernel) (by decide +kernel) (.inl (by decide +kernel)) (by rw [isSubtype_type]; kernel_rfl),
    PySem.F.entry_object_sa, by decide +kernel, by decide +kernel, by decide +kernel, fun a b c => by unfold argsOk; kernel_rfl, fun self => by kernel_rfl⟩
theorem oex_key {K : PySem.W.Frag} {nm q : Str} {C N : Addr} {bs : List Value} {sn : List Str} {sub : List Value} {ab : Bool} {col : Option Bool} {dd : Option Addr} {m0 m1 m2 m3 m5 : Option Value}
    (xL : K.lookup C = some (excClassObj nm q C N bs keyTail true sn sub ab col dd m0 m1 m2 m3 m5 "LookupError.__new__"))
    (hd : PySem.W.hasDictIn K C = true) (sa : PySem.W.findIn K (.ref C) "__setattr__" = some (some (.builtin "object.__setattr__"))) (exC : PySem.W.subIn K (.ref C) (.type "BaseException") = some true) (tyC : PySem.W.typeIn K (.ref C) = some (.type "type")) (kC : PySem.W.keepIn K (.ref C) = true) : OexB K C := by
  refine ⟨⟨"LookupError", _, _, _, keyTail, nm, q, N, bs, true, sn, sub, ab, col, dd, m0, m1, m2, m3, m5, PySem.F.excBase_LookupError, ⟨by decide +kernel, by decide +kernel, by decide +kernel⟩, xL⟩, ⟨"KeyError", keyTail, store_KeyError, ?_⟩, hd, sa, exC, tyC, kC⟩
  unfold PySem.W.excOver PySem.W.clsIn
  rw [xL]
  simp [excClassObj, show PySem.W.excTail keyTail keyTail = true by decide +kernel]
theorem kit_up {K : PySem.W.Frag} {C : Addr} {T : String} (m : PySem.W.kitMeta T = true) (s : PySem.W.subIn K (.ref C) (.type T) = some true) : PySem.W.kitOne K (.ref C) (.type T) = some true := by
  show (if (Value.ref C == Value.type T) = true then some true else if PySem.W.kitMeta T = true then PySem.W.subIn K (.ref C) (.type T) else none) = some true
  rw [if_neg (by intro z; cases z), if_pos m]
  exact s
theorem kit_cls2 {K : PySem.W.Frag} {C D : Addr} {b : Bool} (ic : PySem.W.isClsIn K D = true) (ty : PySem.W.typeIn K (.ref D) = some (.type "type")) (s : PySem.W.subIn K (.ref C) (.ref D) = some b) : PySem.W.kitCls K (.ref C) (.ref D) = some b := by
  have ic' : (PySem.W.clsIn K D).isSome = true := ic
  have e : ((PySem.W.clsIn K D).isSome && PySem.W.typeIn K (.ref D) == some (.type "type")) = true := by rw [ic', ty]; rfl
  show (if ((PySem.W.clsIn K D).isSome && PySem.W.typeIn K (.ref D) == some (.type "type")) = true then PySem.W.subIn K (.ref C) (.ref D) else none) = some b
  rw [if_pos e]
  exact s
theorem kit_other {K : PySem.W.Frag} {C D : Addr} (self : PySem.W.subIn K (.ref C) (.ref C) = some true) (ic : PySem.W.isClsIn K D = true) (ty : PySem.W.typeIn K (.ref D) = some (.type "type")) (s : PySem.W.subIn K (.ref C) (.ref D) = some false) : PySem.W.kitOne K (.ref C) (.ref D) = some false := by
  have ne : ¬ (Value.ref C == Value.ref D) = true := by
    intro z
    have e := eq_of_beq z
    injection e with e
    subst e
    rw [self] at s
    cases s
  show (if (Value.ref C == Value.ref D) = true then some true else PySem.W.kitCls K (.ref C) (.ref D)) = some false
  rw [if_neg ne]
  exact kit_cls2 ic ty s
theorem exm_hit {K : PySem.W.Frag} {C : Addr} (ex : PySem.W.subIn K (.ref C) (.type "BaseException") = some true) (ic : PySem.W.isClsIn K C = true) (ty : PySem.W.typeIn K (.ref C) = some (.type "type")) (s : PySem.W.subIn K (.ref C) (.ref C) = some true) : PySem.W.exmOne K (.ref C) (.ref C) = some true := by
  show (if (PySem.W.subIn K (.ref C) (.type "BaseException") == some true) = true then PySem.W.kitCls K (.ref C) (.ref C) else none) = some true
  rw [if_pos (by rw [ex]; rfl)]
  exact kit_cls2 ic ty s
theorem any_no {K : PySem.W.Frag} {t c : Value} {cs : List Value} (h : PySem.W.kitOne K t c = some false) (r : PySem.W.kitAny K t cs = some false) : PySem.W.kitAny K t (c :: cs) = some false := kitAny_cons h (fun _ => r) (fun z => nomatch z)
/-! ### a block by a reading of one's own -/
theorem pss_imp {X : Cx} {b : List Stmt} {t t' : TS} (h : PSs X b t) (i : ∀ D σ H, t' D σ H → t D σ H) : PSs X b t' := ⟨fun pins s σ H D I z => h.run pins s σ H D I (i _ _ _ z)⟩
/-! ### o.m(e, .., k = v, ..), what is raised wished for at the caller's slots -/
section
variable {X : Cx} {CX : CXT} {k n : Nat} {f C : Addr} {fd : FuncData} {ps ks : List Str} {sp : Sp} {E : L2.St → XK} {m : Str} {apos pos : Pos} {o e : Expr} {es : List Expr} {kws : List Keyword} {ta : TE} {t tk : TA} {g : List Value → List Value → List Value} {gV : List V → List V → List V}
theorem passNo {P : Program} {w : World} {σ : L2.St} (hP : X.prog = P) (hw : X.w = w) : PassesAt (L2.CX P w) X σ E0 := by
  intro pins H s e s' I h
  obtain ⟨_, _, _, _, _, _, _, _, _, _, _, _, z⟩ := h
  exact (show False from z).elim
theorem run_kbn {pins : List (Addr × Obj)} {σ : L2.St} {H : Hp} {s : Shared} {Q : VK} {us ws : List Value} {vs zs : List V} (F : FnOk X.prog X.w X.K X.mg X.base CX k f fd ps sp) (hr : Room k X.A) (hb : KBn X.K fd ps n ks g gV) (hx : PassesAt CX X σ (E σ))
    (I : L2.Inv X pins σ H s) (r : Vals vs us) (rz : Vals zs ws) (l1 : vs.length = n) (l2 : zs.length = ks.length) (h : sp (gV vs zs) H Q (E σ)) : wpAny (model X.prog X.w) X.A (call (.ref f) us (ks.zip ws)) (EP X pins σ Q) X.xe s := by
  have bd := hb.to s us ws I.kIn (r.length.symm.trans l1) (rz.length.symm.trans l2)
  refine wpAny_call (codeAny_mono (F.run X.A X.stack s H ⟨us, ks.zip ws⟩ (g us ws) (gV vs zs) Q (E σ) hr I.env0 bd (hb.rel r rz) h) fun z s' hz => ?_)
  match z, hz with
  | .error er, hz => exact hx pins H s er s' I hz
  | .ok (.ret u), hz => exact I.after hz
  | .ok .next, hz => exact (show False from hz).elim
  | .ok .brk, hz => exact (show False from hz).elim
  | .ok .cont, hz => exact (show False from hz).elim
def tMethA (C : Addr) (m : Str) (n nk : Nat) (sp : Sp) (gV : List V → List V → List V) (E : L2.St → XK) (ta : TE) (t tk : TA) : TE := fun σ H Q => ta σ H fun x H1 => ∃ a dx fs, x = .ref a ∧ H1 a = some (.ins C dx fs) ∧ fs.lookup m = none ∧
  t σ H1 fun vs H2 => tk σ H2 fun zs H3 => vs.length = n ∧ zs.length = nk ∧ sp (gV (.ref a :: vs) zs) H3 Q (E σ)
theorem pe_methA {pl : Sem Bool} (he : PE X o ta) (c : Cls X.K C) (hm : Meth X.K C m f) (F : FnOk X.prog X.w X.K X.mg X.base CX k f fd ps sp) (hr : Room k X.A) (hb : KBn X.K fd ps (n + 1) ks g gV) (hx : ∀ σ, PassesAt CX X σ (E σ))
    (ha : PA X (e :: es) t) (hkw : PK X kws tk) (n1 : (backToKw pos (keywordEach kws X.env)).all (·.1.isSome) = true := by rfl) (n2 : (backToKw pos (keywordEach kws X.env)).filterMap (·.1) = ks := by rfl)
    (n3 : starEach (e :: es) X.env = (false, eval e X.env) :: starEach es X.env := by rfl) (n4 : ((backTo pos (starEach (e :: es) X.env)).any (·.1) || (backToKw pos (keywordEach kws X.env)).any (·.1.isNone)) = false := by rfl)
    (n5 : eval (.Call (.Attribute o m apos) (e :: es) kws pos) X.env = (do
      let ov ← eval o X.env
      standAt apos.atName
      let (f, first) ← holding [ov] (getMethod ov m pl)
      callWith pos f first (backTo pos (starEach (e :: es) X.env)) (backToKw pos (keywordEach kws X.env))) := by rfl) :
    PE X (.Call (.Attribute o m apos) (e :: es) kws pos) (tMethA C m n ks.length sp gV E ta t tk) := by
  constructor
  intro pins s σ H Q I h
  refine PySem.W.methodCall_KW (pl := pl) (thn (he.run pins s σ H _ I h) ?_) n5
  rintro u s1 ⟨x, H1, I1, rx, a, dx, fs, rfl, ea, l, q⟩
  cases (show u = Value.ref a from rx)
  refine getmeth_ok I1 ea c hm l ?_
  refine PySem.W.callWith_KW (first := [.ref a]) (h₀ := X.base) I.ok.mod.kin hm.kp n1 (thn (ha.run pos pins s1 σ H1 _ I1 q) ?_) n4 n3
  rintro us s2 ⟨vs, H2, I2, r, q2⟩
  refine thn (hkw.run pos pins s2 σ H2 _ I2 q2) ?_
  rintro ws s3 ⟨zs, H3, I3, rz, l1, l2, q3⟩
  refine ⟨I3.kIn, ?_⟩
  rw [n2]
  exact run_kbn (us := .ref a :: us) (vs := .ref a :: vs) F hr hb (hx σ) I3 (.cons rfl r) rz (congrArg Nat.succ l1) l2 q3
/-- o.m(k = v, ..) -/
theorem pe_methA0 {pl : Sem Bool} (he : PE X o ta) (c : Cls X.K C) (hm : Meth X.K C m f) (F : FnOk X.prog X.w X.K X.mg X.base CX k f fd ps sp) (hr : Room k X.A) (hb : KBn X.K fd ps 1 ks g gV) (hx : ∀ σ, PassesAt CX X σ (E σ))
    (hkw : PK X kws tk) (n1 : (backToKw pos (keywordEach kws X.env)).all (·.1.isSome) = true := by rfl) (n2 : (backToKw pos (keywordEach kws X.env)).filterMap (·.1) = ks := by rfl)
    (n4 : ((backTo pos (starEach [] X.env)).any (·.1) || (backToKw pos (keywordEach kws X.env)).any (·.1.isNone)) = false := by rfl)
    (n5 : eval (.Call (.Attribute o m apos) [] kws pos) X.env = (do
      let ov ← eval o X.env
      standAt apos.atName
      let (f, first) ← holding [ov] (getMethod ov m pl)
      callWith pos f first (backTo pos (starEach [] X.env)) (backToKw pos (keywordEach kws X.env))) := by rfl) :
    PE X (.Call (.Attribute o m apos) [] kws pos) (tMethA C m 0 ks.length sp gV E ta tNil tk) := by
  constructor
  intro pins s σ H Q I h
  refine PySem.W.methodCall_KW (pl := pl) (thn (he.run pins s σ H _ I h) ?_) n5
  rintro u s1 ⟨x, H1, I1, rx, a, dx, fs, rfl, ea, l, q⟩
  cases (show u = Value.ref a from rx)
  refine getmeth_ok I1 ea c hm l ?_
  refine PySem.W.callWith_KW0 (first := [.ref a]) (h₀ := X.base) I.ok.mod.kin hm.kp n1 ?_ n4
  refine thn (hkw.run pos pins s1 σ H1 _ I1 q) ?_
  rintro ws s3 ⟨zs, H3, I3, rz, l1, l2, q3⟩
  refine ⟨I3.kIn, ?_⟩
  rw [n2]
  exact run_kbn (us := [.ref a]) (vs := [.ref a]) F hr hb (hx σ) I3 (.cons rfl .nil) rz rfl l2 q3
/-- places alone, as a case of both -/
theorem kbn_of {K : Frag} {ds : List Value} {dvs : List V} (hb : L2.Binds K fd ps ds) (hd : Vals dvs ds) (hn : n + ds.length = ps.length) : KBn K fd ps n [] (fun us _ => us ++ ds) (fun vs _ => vs ++ dvs) :=
  ⟨fun s us ws X l1 l2 => hb s us X (by rw [List.length_append, l1, hn]), fun a _ => a.append hd⟩
end
/-! ### max(xs, default=d) of a list of ints -/
section
variable {prog : Program} {w : World} {A : Around} {R : Result → Shared → Prop} {I : Addr} {fp wr : List Addr} {n : Nat} {Pi : Nat → Value → Prop} {St : Nat → Heap → Prop}
theorem max_turns (W : Walks prog w A.in1 I fp wr n Pi St) (bt : Nat → Nat → Bool) (cm : CmpOf prog w A.in1 .Gt Pi bt) (S : Addr) (out : S ∉ fp) (kw : List (Str × Value)) : ∀ (k j : Nat) (s : Shared) (vb : Value) (c : Nat), n - (j + 1) = k → j + 1 ≤ n → St (j + 1) s.heap → Pi (argBest bt j) vb →
    s.heap.get? S = some { cls := .type "list", dict := none, data := .seq #[vb, vb] c, slots := #[] } →
    (∀ v h' tk, Pi (argBest bt (n - 1)) v → (∀ b o, b ∉ wr → b ≠ S → s.heap.get? b = some o → h'.get? b = some o) → R (.ok (.ret v)) { s with heap := h', toks := tk }) → codeAny (model prog w) A (.builtin "max.loop" ⟨[.ref I, .none, .ref S], kw⟩) R s := by
  have outW : S ∉ wr := fun z => out (W.sub _ z)
  have nm : (toString "max" ++ toString ".loop" : String) = "max.loop" := by decide
  intro k
  induction k with
  | zero =>
    intro j s vb c hk hj st hP hS q
    have last : j + 1 = n := by omega
    refine codeAny_builtin PySem.F.entry_max_loop ?_; rw [Around.under_plainId PySem.F.plain_max_loop _]
    show wpAny _ A.in1 (seqItems? (.ref S) >>= _) _ _ s; refine wpAny_bind (wpAny_seqItems hS rfl ?_)
    show wpAny _ A.in1 (tryCatch (pyNext (.ref I)) _ >>= _) _ _ s; refine wpAny_bind (wpAny_tryCatch (W.done s _ _ (last ▸ st) fun h' tk kk => ?_))
    have hS2 := kk S _ outW hS
    show wpAny _ A.in1 (updateSeq S (fun _ => #[]) >>= _) _ _ _; refine wpAny_bind (wpAny_updateSeq hS2 rfl (wpAny_bind (wpAny_letGo (wpAny_pure ?_))))
    exact q vb _ tk (by rw [← last]; exact hP) fun b o nb nS e => (Heap.get?_update_other _ _ (Ne.symm nS)).trans (kk b o nb e)
  | succ k ih =>
    intro j s vb c hk hj st hP hS q
    have more : j + 1 < n := by omega
    refine codeAny_builtin PySem.F.entry_max_loop ?_; rw [Around.under_plainId PySem.F.plain_max_loop _]
    show wpAny _ A.in1 (seqItems? (.ref S) >>= _) _ _ s; refine wpAny_bind (wpAny_seqItems hS rfl ?_)
    show wpAny _ A.in1 (tryCatch (pyNext (.ref I)) _ >>= _) _ _ s; refine wpAny_bind (wpAny_tryCatch (W.item (j + 1) s _ _ more st fun v h' tk hv st2 kk => ?_))
    have hS2 := kk S _ outW hS
    show wpAny _ A.in1 (tryCatch (holding [v, v] (richCompare .Gt v vb >>= _)) _ >>= _) _ _ _; refine wpAny_bind (wpAny_tryCatch (wpAny_holding (wpAny_bind (cm (j + 1) (argBest bt j) v vb _ _ _ hv hP ?_))))
    refine wpAny_bind (wpAny_holding (wpAny_truthy_bool (wpAny_bind (wpAny_letGo (wpAny_pure ?_)))))
    cases hb : bt (j + 1) (argBest bt j) with
    | true =>
      simp only [if_true]; refine wpAny_bind (wpAny_updateSeq hS2 rfl (wpAny_bind (wpAny_letGo ?_))); rw [nm]
      refine wpAny_pure ⟨plainId_quiet PySem.F.plain_max_loop _, ih (j + 1) _ v _ (by omega) more (W.frame _ _ _ st2 fun b nb o e => ?_) (by simp only [argBest, hb, if_true]; exact hv) (Heap.get?_update_self _ hS2 rfl) fun v3 h3 tk3 hv3 kk3 => ?_⟩
      · exact (Heap.get?_update_other _ _ (fun z : S = b => out (by rw [z]; exact nb))).trans e
      · exact q v3 h3 tk3 hv3 fun b o nb nS e => kk3 b o nb nS ((Heap.get?_update_other _ _ (Ne.symm nS)).trans (kk b o nb e))
    | false =>
      simp only [Bool.false_eq_true, if_false]; refine wpAny_bind (wpAny_letGo ?_); rw [nm]
      refine wpAny_pure ⟨plainId_quiet PySem.F.plain_max_loop _, ih (j + 1) _ vb c (by omega) more st2 (by simp only [argBest, hb, Bool.false_eq_true, if_false]; exact hP) hS2 fun v3 h3 tk3 hv3 kk3 => ?_⟩
      exact q v3 h3 tk3 hv3 fun b o nb nS e => kk3 b o nb nS (kk b o nb e)
theorem max_first (W : Walks prog w A.in1 I fp wr n Pi St) (bt : Nat → Nat → Bool) (cm : CmpOf prog w A.in1 .Gt Pi bt) (S : Addr) (out : S ∉ fp) (kw : List (Str × Value)) (hn : 0 < n) {s : Shared} {c : Nat} (st : St 0 s.heap)
    (hS : s.heap.get? S = some { cls := .type "list", dict := none, data := .seq #[] c, slots := #[] })
    (q : ∀ v h' tk, Pi (argBest bt (n - 1)) v → (∀ b o, b ∉ wr → b ≠ S → s.heap.get? b = some o → h'.get? b = some o) → R (.ok (.ret v)) { s with heap := h', toks := tk }) : codeAny (model prog w) A (.builtin "max.loop" ⟨[.ref I, .none, .ref S], kw⟩) R s := by
  have outW : S ∉ wr := fun z => out (W.sub _ z)
  have nm : (toString "max" ++ toString ".loop" : String) = "max.loop" := by decide
  refine codeAny_builtin PySem.F.entry_max_loop ?_; rw [Around.under_plainId PySem.F.plain_max_loop _]
  show wpAny _ A.in1 (seqItems? (.ref S) >>= _) _ _ s; refine wpAny_bind (wpAny_seqItems hS rfl ?_)
  show wpAny _ A.in1 (tryCatch (pyNext (.ref I)) _ >>= _) _ _ s; refine wpAny_bind (wpAny_tryCatch (W.item 0 s _ _ hn st fun v h' tk hv st2 kk => ?_))
  have hS2 := kk S _ outW hS
  show wpAny _ A.in1 (updateSeq S (fun _ => #[v, v]) >>= _) _ _ _; refine wpAny_bind (wpAny_updateSeq hS2 rfl ?_); rw [nm]
  refine wpAny_pure ⟨plainId_quiet PySem.F.plain_max_loop _, max_turns W bt cm S out kw _ 0 _ v _ rfl hn (W.frame _ _ _ st2 fun b nb o e => ?_) hv (Heap.get?_update_self _ hS2 rfl) fun v3 h3 tk3 hv3 kk3 => ?_⟩
  · exact (Heap.get?_update_other _ _ (fun z : S = b => out (by rw [z]; exact nb))).trans e
  · exact q v3 h3 tk3 hv3 fun b o nb nS e => kk3 b o nb nS ((Heap.get?_update_other _ _ (Ne.symm nS)).trans (kk b o nb e))
theorem max_empty (W : Walks prog w A.in1 I fp wr 0 Pi St) (S : Addr) (out : S ∉ fp) (d : Value) {s : Shared} {c : Nat} (st : St 0 s.heap)
    (hS : s.heap.get? S = some { cls := .type "list", dict := none, data := .seq #[] c, slots := #[] })
    (q : ∀ h' tk, (∀ b o, b ∉ wr → s.heap.get? b = some o → h'.get? b = some o) → R (.ok (.ret d)) { s with heap := h', toks := tk }) : codeAny (model prog w) A (.builtin "max.loop" ⟨[.ref I, .none, .ref S], [(Str.ofString "default", d)]⟩) R s := by
  refine codeAny_builtin PySem.F.entry_max_loop ?_; rw [Around.under_plainId PySem.F.plain_max_loop _]
  show wpAny _ A.in1 (seqItems? (.ref S) >>= _) _ _ s; refine wpAny_bind (wpAny_seqItems hS rfl ?_)
  show wpAny _ A.in1 (tryCatch (pyNext (.ref I)) _ >>= _) _ _ s; refine wpAny_bind (wpAny_tryCatch (W.done s _ _ st fun h' tk kk => ?_))
  refine wpAny_bind (wpAny_rule ?_)
  exact wpAny_pure (q h' tk kk)
end
section
variable {prog : Program} {w : World} {A : Around} {E : Value → Shared → Prop} {s : Shared} {l : Addr} {its : List Value} {ns : List Int} {Q : Value → Shared → Prop}
theorem max_args (a v : Value) : argsOk "max" ⟨[a], [(Str.ofString "default", v)]⟩ := by unfold argsOk; kernel_rfl
theorem max_dflt (d : Value) (hh : A.handled = none) (hl : s.heap.IsList l its.toArray) (hi : IntsAre its ns)
    (q0 : ns = [] → ∀ h' tk, (∀ b o, s.heap.get? b = some o → h'.get? b = some o) → Q d { s with heap := h', toks := tk })
    (q1 : ∀ h' tk M t', (∀ b o, s.heap.get? b = some o → h'.get? b = some o) → M ∈ ns → (∀ a, a ∈ ns → a ≤ M) → Q (.int M t') { s with heap := h', toks := tk }) : wpAny (model prog w) A (call (.builtin "max") [.ref l] [(Str.ofString "default", d)]) Q E s := by
  obtain ⟨xs, e⟩ := hi.allInts.items
  have hn : numsOf (intItems xs).toList = ns := by rw [← e]; exact hi.numsOf
  rw [nums_intItems] at hn
  subst hn
  rw [e] at hl
  have nm : (toString "max" ++ toString ".loop" : String) = "max.loop" := by decide
  refine kmk_tree PySem.F.kind_max PySem.F.plain_max PySem.F.entry_max (max_args _ _) ?_
  show wpAny _ A.in1 (Builtin.Builtins.bindParams "max" ["key", "default"] 0 ⟨[], [(Str.ofString "default", d)]⟩ >>= _) _ _ s
  refine wpAny_bind (wpAny_of_eq (show Builtin.Builtins.bindParams "max" ["key", "default"] 0 ⟨[], [(Str.ofString "default", d)]⟩ = pure [none, some d] from rfl) (wpAny_bind (wpAny_pure (wpAny_bind ?_))))
  refine iter_intList hl fun s₂ es st hfp hlI => ?_
  subst es
  refine wpAny_bind (wpAny_newObj_type ?_); rw [nm]
  have out : (s.heap.push { cls := .type "list_iterator", data := .fields #[.ref l, .int 0 0] }).objs.size ∉ [s.heap.objs.size, l] := fun z => Nat.lt_irrefl _ (hfp _ z)
  have W := Walks.list (prog := prog) (w := w) (A := A.in1) hh s.heap.objs.size l hlI (intItems xs)
  have hsz : (intItems xs).size = xs.size := by simp [intItems]
  rcases Nat.eq_zero_or_pos xs.size with z | z
  · have ez : (xs.toList.map (·.1)) = [] := by
      have : xs = #[] := Array.eq_empty_of_size_eq_zero z
      rw [this]; rfl
    rw [hsz, z] at W
    refine wpAny_pure ⟨plainId_quiet PySem.F.plain_max_loop _, max_empty W _ out d (W.frame _ _ _ st fun b _ o e => Heap.get?_push_of_some _ e) (Heap.get?_push_size _ rfl) fun h' tk kk => ?_⟩
    exact q0 ez h' tk (old_kept fun b o nb e => kk b o nb (Heap.get?_push_of_some _ e))
  · refine wpAny_pure ⟨plainId_quiet PySem.F.plain_max_loop _, max_first W _ (CmpOf.ints_gt (numAt xs) (fun _ _ => intItems_at)) _ out _ (by rw [hsz]; exact z) (W.frame _ _ _ st fun b _ o e => Heap.get?_push_of_some _ e) (Heap.get?_push_size _ rfl) fun v h' tk hv kk => ?_⟩
    rw [hsz] at hv
    obtain ⟨t, rfl⟩ := intItems_at hv
    obtain ⟨h1, h2⟩ := argBest_gt (numAt xs) (xs.size - 1)
    refine q1 h' tk _ t (old_kept fun b o nb e => kk b o nb (Nat.ne_of_lt (Heap.lt_size e)) (Heap.get?_push_of_some _ e)) ?_ fun a ha => ?_
    · rw [numAt_eq]; exact PySem.getD_mem (by rw [List.length_map, Array.length_toList]; omega)
    · obtain ⟨j, hj, rfl⟩ := mem_getD ha
      rw [List.length_map, Array.length_toList] at hj
      rw [← numAt_eq]; exact h2 j (by omega)
/-- max(xs, default=d): d of none -/
def rDmax (K : PySem.W.Frag) : List V → List V → Hp → VK → Prop := fun vs zs H Q => ∃ (a : Addr) (ns : List Int) (d : V), vs = [V.ref a] ∧ zs = [d] ∧ SqL K H a (ns.map V.int) ∧ (ns = [] → Q d H) ∧ ∀ M, M ∈ ns → (∀ a, a ∈ ns → a ≤ M) → Q (.int M) H
theorem call_Dmax {X : Cx} (hc : X.calm = true) : CallRK X (.builtin "max") ["default"] (rDmax X.K) := by
  intro pins s σ H xs zs us ws Q I r rz h
  obtain ⟨a, ns, d, rfl, rfl, hs, q0, q1⟩ := h
  obtain ⟨its, rv, hl, _⟩ := I.list hs
  obtain ⟨ud, rfl, rd⟩ := Vals.one rz
  rw [Vals.ref1 r]
  exact max_dflt ud (I.ok.hd hc) hl.isList rv.ints (fun e h' tk hk => ⟨d, H, I.kept hk, rd, q0 e⟩) fun h' tk M t' hk h1 h2 => ⟨.int _, H, I.kept hk, ⟨_, rfl⟩, q1 M h1 h2⟩
end
/-! ### min(xs, default=d) of a list of ints -/
section
variable {prog : Program} {w : World} {A : Around} {R : Result → Shared → Prop} {I : Addr} {fp wr : List Addr} {n : Nat} {Pi : Nat → Value → Prop} {St : Nat → Heap → Prop}
theorem min_turns (W : Walks prog w A.in1 I fp wr n Pi St) (bt : Nat → Nat → Bool) (cm : CmpOf prog w A.in1 .Lt Pi bt) (S : Addr) (out : S ∉ fp) (kw : List (Str × Value)) : ∀ (k j : Nat) (s : Shared) (vb : Value) (c : Nat), n - (j + 1) = k → j + 1 ≤ n → St (j + 1) s.heap → Pi (argBest bt j) vb →
    s.heap.get? S = some { cls := .type "list", dict := none, data := .seq #[vb, vb] c, slots := #[] } →
    (∀ v h' tk, Pi (argBest bt (n - 1)) v → (∀ b o, b ∉ wr → b ≠ S → s.heap.get? b = some o → h'.get? b = some o) → R (.ok (.ret v)) { s with heap := h', toks := tk }) → codeAny (model prog w) A (.builtin "min.loop" ⟨[.ref I, .none, .ref S], kw⟩) R s := by
  have outW : S ∉ wr := fun z => out (W.sub _ z)
  have nm : (toString "min" ++ toString ".loop" : String) = "min.loop" := by decide
  intro k
  induction k with
  | zero =>
    intro j s vb c hk hj st hP hS q
    have last : j + 1 = n := by omega
    refine codeAny_builtin PySem.F.entry_min_loop ?_; rw [Around.under_plainId PySem.F.plain_min_loop _]
    show wpAny _ A.in1 (seqItems? (.ref S) >>= _) _ _ s; refine wpAny_bind (wpAny_seqItems hS rfl ?_)
    show wpAny _ A.in1 (tryCatch (pyNext (.ref I)) _ >>= _) _ _ s; refine wpAny_bind (wpAny_tryCatch (W.done s _ _ (last ▸ st) fun h' tk kk => ?_))
    have hS2 := kk S _ outW hS
    show wpAny _ A.in1 (updateSeq S (fun _ => #[]) >>= _) _ _ _; refine wpAny_bind (wpAny_updateSeq hS2 rfl (wpAny_bind (wpAny_letGo (wpAny_pure ?_))))
    exact q vb _ tk (by rw [← last]; exact hP) fun b o nb nS e => (Heap.get?_update_other _ _ (Ne.symm nS)).trans (kk b o nb e)
  | succ k ih =>
    intro j s vb c hk hj st hP hS q
    have more : j + 1 < n := by omega
    refine codeAny_builtin PySem.F.entry_min_loop ?_; rw [Around.under_plainId PySem.F.plain_min_loop _]
    show wpAny _ A.in1 (seqItems? (.ref S) >>= _) _ _ s; refine wpAny_bind (wpAny_seqItems hS rfl ?_)
    show wpAny _ A.in1 (tryCatch (pyNext (.ref I)) _ >>= _) _ _ s; refine wpAny_bind (wpAny_tryCatch (W.item (j + 1) s _ _ more st fun v h' tk hv st2 kk => ?_))
    have hS2 := kk S _ outW hS
    show wpAny _ A.in1 (tryCatch (holding [v, v] (richCompare .Lt v vb >>= _)) _ >>= _) _ _ _; refine wpAny_bind (wpAny_tryCatch (wpAny_holding (wpAny_bind (cm (j + 1) (argBest bt j) v vb _ _ _ hv hP ?_))))
    refine wpAny_bind (wpAny_holding (wpAny_truthy_bool (wpAny_bind (wpAny_letGo (wpAny_pure ?_)))))
    cases hb : bt (j + 1) (argBest bt j) with
    | true =>
      simp only [if_true]; refine wpAny_bind (wpAny_updateSeq hS2 rfl (wpAny_bind (wpAny_letGo ?_))); rw [nm]
      refine wpAny_pure ⟨plainId_quiet PySem.F.plain_min_loop _, ih (j + 1) _ v _ (by omega) more (W.frame _ _ _ st2 fun b nb o e => ?_) (by simp only [argBest, hb, if_true]; exact hv) (Heap.get?_update_self _ hS2 rfl) fun v3 h3 tk3 hv3 kk3 => ?_⟩
      · exact (Heap.get?_update_other _ _ (fun z : S = b => out (by rw [z]; exact nb))).trans e
      · exact q v3 h3 tk3 hv3 fun b o nb nS e => kk3 b o nb nS ((Heap.get?_update_other _ _ (Ne.symm nS)).trans (kk b o nb e))
    | false =>
      simp only [Bool.false_eq_true, if_false]; refine wpAny_bind (wpAny_letGo ?_); rw [nm]
      refine wpAny_pure ⟨plainId_quiet PySem.F.plain_min_loop _, ih (j + 1) _ vb c (by omega) more st2 (by simp only [argBest, hb, Bool.false_eq_true, if_false]; exact hP) hS2 fun v3 h3 tk3 hv3 kk3 => ?_⟩
      exact q v3 h3 tk3 hv3 fun b o nb nS e => kk3 b o nb nS (kk b o nb e)
theorem min_first (W : Walks prog w A.in1 I fp wr n Pi St) (bt : Nat → Nat → Bool) (cm : CmpOf prog w A.in1 .Lt Pi bt) (S : Addr) (out : S ∉ fp) (kw : List (Str × Value)) (hn : 0 < n) {s : Shared} {c : Nat} (st : St 0 s.heap)
    (hS : s.heap.get? S = some { cls := .type "list", dict := none, data := .seq #[] c, slots := #[] })
    (q : ∀ v h' tk, Pi (argBest bt (n - 1)) v → (∀ b o, b ∉ wr → b ≠ S → s.heap.get? b = some o → h'.get? b = some o) → R (.ok (.ret v)) { s with heap := h', toks := tk }) : codeAny (model prog w) A (.builtin "min.loop" ⟨[.ref I, .none, .ref S], kw⟩) R s := by
  have outW : S ∉ wr := fun z => out (W.sub _ z)
  have nm : (toString "min" ++ toString ".loop" : String) = "min.loop" := by decide
  refine codeAny_builtin PySem.F.entry_min_loop ?_; rw [Around.under_plainId PySem.F.plain_min_loop _]
  show wpAny _ A.in1 (seqItems? (.ref S) >>= _) _ _ s; refine wpAny_bind (wpAny_seqItems hS rfl ?_)
  show wpAny _ A.in1 (tryCatch (pyNext (.ref I)) _ >>= _) _ _ s; refine wpAny_bind (wpAny_tryCatch (W.item 0 s _ _ hn st fun v h' tk hv st2 kk => ?_))
  have hS2 := kk S _ outW hS
  show wpAny _ A.in1 (updateSeq S (fun _ => #[v, v]) >>= _) _ _ _; refine wpAny_bind (wpAny_updateSeq hS2 rfl ?_); rw [nm]
  refine wpAny_pure ⟨plainId_quiet PySem.F.plain_min_loop _, min_turns W bt cm S out kw _ 0 _ v _ rfl hn (W.frame _ _ _ st2 fun b nb o e => ?_) hv (Heap.get?_update_self _ hS2 rfl) fun v3 h3 tk3 hv3 kk3 => ?_⟩
  · exact (Heap.get?_update_other _ _ (fun z : S = b => out (by rw [z]; exact nb))).trans e
  · exact q v3 h3 tk3 hv3 fun b o nb nS e => kk3 b o nb nS ((Heap.get?_update_other _ _ (Ne.symm nS)).trans (kk b o nb e))
theorem min_empty (W : Walks prog w A.in1 I fp wr 0 Pi St) (S : Addr) (out : S ∉ fp) (d : Value) {s : Shared} {c : Nat} (st : St 0 s.heap)
    (hS : s.heap.get? S = some { cls := .type "list", dict := none, data := .seq #[] c, slots := #[] })
    (q : ∀ h' tk, (∀ b o, b ∉ wr → s.heap.get? b = some o → h'.get? b = some o) → R (.ok (.ret d)) { s with heap := h', toks := tk }) : codeAny (model prog w) A (.builtin "min.loop" ⟨[.ref I, .none, .ref S], [(Str.ofString "default", d)]⟩) R s := by
  refine codeAny_builtin PySem.F.entry_min_loop ?_; rw [Around.under_plainId PySem.F.plain_min_loop _]
  show wpAny _ A.in1 (seqItems? (.ref S) >>= _) _ _ s; refine wpAny_bind (wpAny_seqItems hS rfl ?_)
  show wpAny _ A.in1 (tryCatch (pyNext (.ref I)) _ >>= _) _ _ s; refine wpAny_bind (wpAny_tryCatch (W.done s _ _ st fun h' tk kk => ?_))
  refine wpAny_bind (wpAny_rule ?_)
  exact wpAny_pure (q h' tk kk)
end
section
variable {prog : Program} {w : World} {A : Around} {E : Value → Shared → Prop} {s : Shared} {l : Addr} {its : List Value} {ns : List Int} {Q : Value → Shared → Prop}
theorem min_args (a v : Value) : argsOk "min" ⟨[a], [(Str.ofString "default", v)]⟩ := by unfold argsOk; kernel_rfl
theorem min_dflt (d : Value) (hh : A.handled = none) (hl : s.heap.IsList l its.toArray) (hi : IntsAre its ns)
    (q0 : ns = [] → ∀ h' tk, (∀ b o, s.heap.get? b = some o → h'.get? b = some o) → Q d { s with heap := h', toks := tk })
    (q1 : ∀ h' tk M t', (∀ b o, s.heap.get? b = some o → h'.get? b = some o) → M ∈ ns → (∀ a, a ∈ ns → M ≤ a) → Q (.int M t') { s with heap := h', toks := tk }) : wpAny (model prog w) A (call (.builtin "min") [.ref l] [(Str.ofString "default", d)]) Q E s := by
  obtain ⟨xs, e⟩ := hi.allInts.items
  have hn : numsOf (intItems xs).toList = ns := by rw [← e]; exact hi.numsOf
  rw [nums_intItems] at hn
  subst hn
  rw [e] at hl
  have nm : (toString "min" ++ toString ".loop" : String) = "min.loop" := by decide
  refine kmk_tree PySem.F.kind_min PySem.F.plain_min PySem.F.entry_min (min_args _ _) ?_
  show wpAny _ A.in1 (Builtin.Builtins.bindParams "min" ["key", "default"] 0 ⟨[], [(Str.ofString "default", d)]⟩ >>= _) _ _ s
  refine wpAny_bind (wpAny_of_eq (show Builtin.Builtins.bindParams "min" ["key", "default"] 0 ⟨[], [(Str.ofString "default", d)]⟩ = pure [none, some d] from rfl) (wpAny_bind (wpAny_pure (wpAny_bind ?_))))
  refine iter_intList hl fun s₂ es st hfp hlI => ?_
  subst es
  refine wpAny_bind (wpAny_newObj_type ?_); rw [nm]
  have out : (s.heap.push { cls := .type "list_iterator", data := .fields #[.ref l, .int 0 0] }).objs.size ∉ [s.heap.objs.size, l] := fun z => Nat.lt_irrefl _ (hfp _ z)
  have W := Walks.list (prog := prog) (w := w) (A := A.in1) hh s.heap.objs.size l hlI (intItems xs)
  have hsz : (intItems xs).size = xs.size := by simp [intItems]
  rcases Nat.eq_zero_or_pos xs.size with z | z
  · have ez : (xs.toList.map (·.1)) = [] := by
      have : xs = #[] := Array.eq_empty_of_size_eq_zero z
      rw [this]; rfl
    rw [hsz, z] at W
    refine wpAny_pure ⟨plainId_quiet PySem.F.plain_min_loop _, min_empty W _ out d (W.frame _ _ _ st fun b _ o e => Heap.get?_push_of_some _ e) (Heap.get?_push_size _ rfl) fun h' tk kk => ?_⟩
    exact q0 ez h' tk (old_kept fun b o nb e => kk b o nb (Heap.get?_push_of_some _ e))
  · refine wpAny_pure ⟨plainId_quiet PySem.F.plain_min_loop _, min_first W _ (CmpOf.ints_lt (numAt xs) (fun _ _ => intItems_at)) _ out _ (by rw [hsz]; exact z) (W.frame _ _ _ st fun b _ o e => Heap.get?_push_of_some _ e) (Heap.get?_push_size _ rfl) fun v h' tk hv kk => ?_⟩
    rw [hsz] at hv
    obtain ⟨t, rfl⟩ := intItems_at hv
    obtain ⟨h1, h2⟩ := argBest_lt (numAt xs) (xs.size - 1)
    refine q1 h' tk _ t (old_kept fun b o nb e => kk b o nb (Nat.ne_of_lt (Heap.lt_size e)) (Heap.get?_push_of_some _ e)) ?_ fun a ha => ?_
    · rw [numAt_eq]; exact PySem.getD_mem (by rw [List.length_map, Array.length_toList]; omega)
    · obtain ⟨j, hj, rfl⟩ := mem_getD ha
      rw [List.length_map, Array.length_toList] at hj
      rw [← numAt_eq]; exact h2 j (by omega)
/-- min(xs, default=d): d of none -/
def rDmin (K : PySem.W.Frag) : List V → List V → Hp → VK → Prop := fun vs zs H Q => ∃ (a : Addr) (ns : List Int) (d : V), vs = [V.ref a] ∧ zs = [d] ∧ SqL K H a (ns.map V.int) ∧ (ns = [] → Q d H) ∧ ∀ M, M ∈ ns → (∀ a, a ∈ ns → M ≤ a) → Q (.int M) H
theorem call_Dmin {X : Cx} (hc : X.calm = true) : CallRK X (.builtin "min") ["default"] (rDmin X.K) := by
  intro pins s σ H xs zs us ws Q I r rz h
  obtain ⟨a, ns, d, rfl, rfl, hs, q0, q1⟩ := h
  obtain ⟨its, rv, hl, _⟩ := I.list hs
  obtain ⟨ud, rfl, rd⟩ := Vals.one rz
  rw [Vals.ref1 r]
  exact min_dflt ud (I.ok.hd hc) hl.isList rv.ints (fun e h' tk hk => ⟨d, H, I.kept hk, rd, q0 e⟩) fun h' tk M t' hk h1 h2 => ⟨.int _, H, I.kept hk, ⟨_, rfl⟩, q1 M h1 h2⟩
end
/-! ### data over heaps that change -/
mutual
/-- data without lists -/
def noL : PyData → Bool
  | .list _ => false
  | .tuple ds => noLs ds
  | .dict _ => false
  | _ => true
def noLs : List PyData → Bool
  | [] => true
  | d :: ds => noL d && noLs ds
end
theorem sqT_same {K : PySem.W.Frag} {H H' : Hp} {a : Addr} {xs : List V} (h : SqT K H a xs) (s : Same H H') : SqT K H' a xs := by
  rcases h with (h | ⟨o, h⟩) | h
  · exact .inl (.inl (s _ _ h))
  · exact .inl (.inr ⟨o, s _ _ h⟩)
  · exact .inr h
theorem sqL_same {K : PySem.W.Frag} {H H' : Hp} {a : Addr} {xs : List V} (h : SqL K H a xs) (s : Same H H') : SqL K H' a xs := by
  rcases h with (h | ⟨o, h⟩) | h
  · exact .inl (.inl (s _ _ h))
  · exact .inl (.inr ⟨o, s _ _ h⟩)
  · exact .inr h
theorem sqT_keep {K : PySem.W.Frag} {T : Addr} {H H' : Hp} {ys : List V} {a : Addr} {xs : List V} (hT : H T = some (.lst ys)) (h : SqT K H a xs) (s : Keep T H H') : SqT K H' a xs := by
  rcases h with (h | ⟨o, h⟩) | h
  · exact .inl (.inl (s _ _ (ne_of h hT (by intro z; cases z)) h))
  · exact .inl (.inr ⟨o, s _ _ (ne_of h hT (by intro z; cases z)) h⟩)
  · exact .inr h
mutual
theorem dp_same {K : PySem.W.Frag} {H H' : Hp} (s : Same H H') : ∀ (d : PyData) (v : V), Dp K H v d → Dp K H' v d
  | .none, _, h => by cases h; exact .non
  | .bool b, _, h => by cases h; exact .bl b
  | .int i, _, h => by cases h; exact .int i
  | .str x, _, h => by cases h; exact .str x
  | .list ds, _, h => by cases h with | lst a b => exact .lst (sqL_same a s) (dps_same s ds _ b)
  | .tuple ds, _, h => by cases h with | tup a b => exact .tup (sqT_same a s) (dps_same s ds _ b)
  | .dict _, _, h => by cases h
theorem dps_same {K : PySem.W.Frag} {H H' : Hp} (s : Same H H') : ∀ (ds : List PyData) (vs : List V), DpAll K H vs ds → DpAll K H' vs ds
  | [], _, h => by cases h; exact .nil
  | d :: ds, _, h => by cases h with | cons a b => exact .cons (dp_same s d _ a) (dps_same s ds _ b)
end
mutual
theorem dp_tups {K : PySem.W.Frag} {H H' : Hp} (s : ∀ a xs, SqT K H a xs → SqT K H' a xs) : ∀ (d : PyData) (v : V), noL d = true → Dp K H v d → Dp K H' v d
  | .none, _, _, h => by cases h; exact .non
  | .bool b, _, _, h => by cases h; exact .bl b
  | .int i, _, _, h => by cases h; exact .int i
  | .str x, _, _, h => by cases h; exact .str x
  | .list ds, _, n, h => by simp [noL] at n
  | .tuple ds, _, n, h => by cases h with | tup a b => exact .tup (s _ _ a) (dps_tups s ds _ (by simpa [noL] using n) b)
  | .dict _, _, _, h => by cases h
theorem dps_tups {K : PySem.W.Frag} {H H' : Hp} (s : ∀ a xs, SqT K H a xs → SqT K H' a xs) : ∀ (ds : List PyData) (vs : List V), noLs ds = true → DpAll K H vs ds → DpAll K H' vs ds
  | [], _, _, h => by cases h; exact .nil
  | d :: ds, _, n, h => by
    have n' : noL d = true ∧ noLs ds = true := by simpa [noLs] using n
    cases h with | cons a b => exact .cons (dp_tups s d _ n'.1 a) (dps_tups s ds _ n'.2 b)
end
theorem dps_keep {K : PySem.W.Frag} {T : Addr} {H H' : Hp} {ys : List V} {ds : List PyData} {vs : List V} (h : DpAll K H vs ds) (hT : H T = some (.lst ys)) (s : Keep T H H') (n : noLs ds = true) : DpAll K H' vs ds := dps_tups (fun _ _ z => sqT_keep hT z s) ds vs n h
theorem dp_keep {K : PySem.W.Frag} {T : Addr} {H H' : Hp} {ys : List V} {d : PyData} {v : V} (h : Dp K H v d) (hT : H T = some (.lst ys)) (s : Keep T H H') (n : noL d = true) : Dp K H' v d := dp_tups (fun _ _ z => sqT_keep hT z s) d v n h
theorem dps_len {K : PySem.W.Frag} {H : Hp} : ∀ {vs : List V} {ds : List PyData}, DpAll K H vs ds → vs.length = ds.length
  | _, _, .nil => rfl
  | _, _, .cons _ r => congrArg (· + 1) (dps_len r)
theorem dps_at {K : PySem.W.Frag} {H : Hp} : ∀ {vs : List V} {ds : List PyData} {i : Nat} {x : V}, DpAll K H vs ds → vs[i]? = some x → ∃ d, ds[i]? = some d ∧ Dp K H x d
  | _, _, _, _, .nil, e => by cases e
  | _, _, 0, _, .cons h _, e => by cases e; exact ⟨_, rfl, h⟩
  | _, _, i + 1, _, .cons _ r, e => dps_at (i := i) r e
theorem dps_app {K : PySem.W.Frag} {H : Hp} : ∀ {vs ws : List V} {ds es : List PyData}, DpAll K H vs ds → DpAll K H ws es → DpAll K H (vs ++ ws) (ds ++ es)
  | _, _, _, _, .nil, h => h
  | _, _, _, _, .cons a r, h => .cons a (dps_app r h)
theorem dp_tup {K : PySem.W.Frag} {H : Hp} {v : V} {ds : List PyData} (h : Dp K H v (.tuple ds)) : ∃ a xs, v = .ref a ∧ SqT K H a xs ∧ DpAll K H xs ds := by cases h with | tup a b => exact ⟨_, _, rfl, a, b⟩
theorem dp_lst {K : PySem.W.Frag} {H : Hp} {v : V} {ds : List PyData} (h : Dp K H v (.list ds)) : ∃ a xs, v = .ref a ∧ SqL K H a xs ∧ DpAll K H xs ds := by cases h with | lst a b => exact ⟨_, _, rfl, a, b⟩
theorem noLs_map {α : Type} (f : α → PyData) (h : ∀ x, noL (f x) = true) : ∀ l : List α, noLs (l.map f) = true
  | [] => rfl
  | x :: l => by rw [List.map_cons, noLs, h x, noLs_map f h l]; rfl
/-! ### readings, a step at a time -/
section
variable {σ : L2.St} {H : Hp} {Q : VK} {D : Ends} {ta tb te : TE} {tr t : TA} {E : XK} {sp : Sp} {dvs : List V}
theorem i_var {i : Nat} {v : V} (e : σ[i]? = some (some v)) (h : Q v H) : tVar i σ H Q := ⟨v, e, h⟩
theorem i_c {v : V} (h : Q v H) : tC v σ H Q := h
theorem i_nil {Q : List V → Hp → Prop} (h : Q [] H) : tNil σ H Q := h
theorem i_cons {Q : List V → Hp → Prop} (h : ta σ H fun x H1 => tr σ H1 fun xs H2 => Q (x :: xs) H2) : tCons ta tr σ H Q := h
theorem i_op {r : R2} (h : ta σ H fun x H1 => tb σ H1 fun y H2 => r x y H2 Q) : tOp r ta tb σ H Q := h
theorem i_un {r : V → Hp → VK → Prop} (h : ta σ H fun x H1 => r x H1 Q) : tUn r ta σ H Q := h
theorem i_call (h : t σ H fun vs H1 => sp (vs ++ dvs) H1 Q E) : tCall sp dvs E t σ H Q := h
theorem i_cb {r : List V → Hp → VK → Prop} (h : t σ H fun vs H1 => r vs H1 Q) : tCB r t σ H Q := h
theorem i_asg {g : TG} (h : te σ H fun x H1 => g x σ H1 D.nx) : tAsg te g D σ H := h
theorem i_name {i : Nat} {v : V} {Q : L2.St → Hp → Prop} (h : Q (σ.set i (some v)) H) : gName i v σ H Q := h
theorem i_seq {u v : TS} (h : u { D with nx := v D } σ H) : tSeq u v D σ H := h
theorem i_next (h : D.nx σ H) : tNext D σ H := h
theorem i_ret (h : te σ H D.rt) : tRet te D σ H := h
theorem i_drop (h : te σ H fun _ H1 => D.nx σ H1) : tDrop te D σ H := h
theorem i_if {c : TT} {u v : TS} (h : c σ H fun b H1 => if b = true then u D σ H1 else v D σ H1) : tIfS c u v D σ H := h
theorem i_and {u v : TT} {Q : Bool → Hp → Prop} (h : u σ H fun c H1 => if c = true then v σ H1 Q else Q false H1) : tAnd u v σ H Q := h
theorem i_or {u v : TT} {Q : Bool → Hp → Prop} (h : u σ H fun c H1 => if c = true then Q true H1 else v σ H1 Q) : tOr u v σ H Q := h
theorem i_not {u : TT} {Q : Bool → Hp → Prop} (h : u σ H fun c H1 => Q (!c) H1) : tNot u σ H Q := h
theorem i_test {Q : Bool → Hp → Prop} (h : te σ H fun x H1 => ∃ k, x = .bl k ∧ Q k H1) : tTest te σ H Q := h
theorem i_ite {c : TT} (h : c σ H fun b H1 => if b = true then ta σ H1 Q else tb σ H1 Q) : tIf c ta tb σ H Q := h
theorem i_lst (h : t σ H fun xs H1 => xs.length ≤ sizeLine ∧ ∀ p, H1 p = none → Q (.ref p) (upd H1 p (.lst xs))) : tLst t σ H Q := h
theorem i_tup (h : t σ H fun xs H1 => xs.length ≤ sizeLine ∧ ∀ p, H1 p = none → Q (.ref p) (upd H1 p (.tup xs))) : tTup t σ H Q := h
theorem i_bm {K : PySem.W.Frag} {S : String} {r : V → List V → Hp → VK → Prop} (h : ta σ H fun x H1 => tyV K S x H1 ∧ t σ H1 fun xs H2 => r x xs H2 Q) : tBM K S r ta t σ H Q := h
theorem i_aug {i : Nat} {ti : TIp} {x : V} (e : σ[i]? = some (some x)) (h : te σ H fun y H1 => ti x y H1 fun z H2 => D.nx (σ.set i (some z)) H2) : tAug i te ti D σ H := ⟨x, e, h⟩
theorem i_par {i j : Nat} {v w : V} (h : t σ H fun vs H1 => ∃ v w, vs = [v, w] ∧ D.nx ((σ.set i (some v)).set j (some w)) H1) : tPar i j t D σ H := h
theorem i_gsub {to ti : TE} {ts : TSet} {v : V} {Q : L2.St → Hp → Prop} (h : to σ H fun o H1 => ti σ H1 fun i H2 => ts o i v H2 fun H3 => Q σ H3) : gSub to ti ts v σ H Q := h
theorem i_chain {r r' : R2} {tc : TE} (h : ta σ H fun x H1 => tb σ H1 fun y H2 => r x y H2 fun z H3 => ∃ k, z = .bl k ∧ if k = true then tc σ H3 fun v H4 => r' y v H4 Q else Q (.bl false) H3) : tChain r r' ta tb tc σ H Q := h
theorem i_sl {r : V → Option Int → Option Int → Hp → VK → Prop} {tl th : TO} (h : te σ H fun x H1 => tl σ H1 fun l H2 => th σ H2 fun u H3 => r x l u H3 Q) : tSl r te tl th σ H Q := h
theorem i_nopart {Q : Option Int → Hp → Prop} (h : Q none H) : tNoPart σ H Q := h
theorem i_part {Q : Option Int → Hp → Prop} (h : te σ H fun x H1 => ∃ i, x = .int i ∧ Q (some i) H1) : tPart te σ H Q := h
end
section
variable {σ : L2.St} {H : Hp} {Q : VK} {ta te : TE} {t : TA}
theorem i_m1 {r : V → List V → Hp → VK → Prop} (h : ta σ H fun x H1 => (∃ a, x = .str a) ∧ te σ H1 fun y H2 => r x [y] H2 Q) : tM1 r ta te σ H Q := h
theorem i_m0 {r : V → List V → Hp → VK → Prop} (h : ta σ H fun x H1 => (∃ a, x = .str a) ∧ r x [] H1 Q) : tM0 r ta σ H Q := h
theorem i_iList {K : PySem.W.Frag} {R : It → Hp → Prop} (h : ta σ H fun x H1 => ∃ a, x = .ref a ∧ (∃ xs, SqL K H1 a xs) ∧ R (Itl K a) H1) : iList K ta σ H R := h
theorem i_iTup {K : PySem.W.Frag} {R : It → Hp → Prop} (h : ta σ H fun x H1 => ∃ a, x = .ref a ∧ (∃ xs, SqT K H1 a xs) ∧ R (Itt K a) H1) : iTup K ta σ H R := h
theorem i_iStr {R : It → Hp → Prop} (h : ta σ H fun v H1 => ∃ x, v = .str x ∧ R (Its x) H1) : iStr ta σ H R := h
theorem i_r1 {R : It → Hp → Prop} (h : t σ H fun vs H1 => ∃ j : Int, vs = [.int j] ∧ -(2 ^ 62) ≤ j ∧ j < 2 ^ 62 ∧ R (Itr 0 j.toNat) H1) : iRng1 t σ H R := h
theorem i_lc {wi : TI} {g : TG} {tt : TT} {vs : List Nat} (h : wi σ H fun J H1 => ∀ D, H1 D = none → ∃ W : Nat → Nat → Hp → Prop, (∃ m, W 0 m (upd H1 D (.lst []))) ∧ ∀ i m H, W i m H →
  (J.stop i H ∧ Q (.ref D) H) ∨ (J.go i H ∧ ∃ Nx : Hp → Prop, (∀ H', Nx H' → ∃ m', m' < m ∧ W (i + 1) m' H') ∧ ∀ x H', J.yld i H x H' → g x (wipe σ vs) H' fun σ2 H2 => wipe σ2 vs = wipe σ vs ∧ tt σ2 H2 fun b H3 =>
    if b = true then te σ2 H3 fun y H4 => ∃ acc, H4 D = some (.lst acc) ∧ acc.length < sizeLine ∧ Nx (upd H4 D (.lst (acc ++ [y]))) else Nx H3)) : tLc wi g tt te vs σ H Q := h
end
theorem app_same {H1 H4 : Hp} {D : Addr} {o : HO} (hD : H1 D = none) (s : Same H1 H4) : Same H1 (upd H4 D o) := fun y u e => by rw [upd_ne (ne_of_none e hD)]; exact s _ _ e
theorem app_keep {F : Addr} {H1 H4 : Hp} {D : Addr} {o : HO} (hD : H1 D = none) (s : Keep F H1 H4) : Keep F H1 (upd H4 D o) := fun y u n e => by rw [upd_ne (ne_of_none e hD)]; exact s _ _ n e
theorem lt_line {n : Nat} (h : n < 100000) : n < sizeLine := Nat.lt_of_lt_of_le h (by decide)
theorem le_line {n : Nat} (h : n ≤ 100000) : n ≤ sizeLine := Nat.le_trans h (by decide)
theorem ixN_nat {n j : Nat} (h : j < n) : ixN n (j : Int) = some j := by
  unfold ixN
  rw [if_pos (by omega), if_pos (by omega)]
  simp
theorem i_callk {σ : L2.St} {H : Hp} {Q : VK} {sp : Sp} {gV : List V → List V → List V} {E : XK} {t tk : TA} (h : t σ H fun vs H1 => tk σ H1 fun zs H2 => sp (gV vs zs) H2 Q E) : tCallK sp gV E t tk σ H Q := h
set_option maxHeartbeats 8000000
local macro_rules | `(tactic| walk_at "c") => `(tactic| first | omega | decide | exact ⟨by omega, by omega⟩ | exact ⟨by decide, by decide⟩ | exact .inl ⟨by omega, by omega⟩ | exact .inr ⟨by omega, by omega⟩ | exact ⟨by omega, by omega, by omega⟩ | exact ⟨by decide, by decide, by decide⟩ | exact le_line (Nat.le_of_ble_eq_true rfl))
local macro_rules | `(tactic| walk_at "a") => `(tactic| with_reducible (first | refine i_seq ?_ | refine i_asg ?_ | refine i_cons ?_ | refine i_c ?_ | refine i_nil ?_ | refine i_op ?_ | refine i_call ?_ | refine i_cb ?_ | refine i_name ?_ | refine i_next ?_ | refine i_ret ?_ | refine i_drop ?_ | refine i_if ?_ | refine i_test ?_ | refine i_and ?_ | refine i_or ?_ | refine i_not ?_ | refine i_ite ?_ | refine i_lst ?_ | refine i_tup ?_ | refine i_bm ?_ | refine i_un ?_ | refine i_par ?_ | refine i_gsub ?_ | refine i_chain ?_ | refine i_sl ?_ | refine i_nopart ?_ | refine i_part ?_ | refine i_m1 ?_ | refine i_m0 ?_ | refine i_lc ?_ | refine i_iList ?_ | refine i_iTup ?_ | refine i_iStr ?_ | refine i_r1 ?_ | refine i_set ?_ | refine i_callk ?_))
local macro_rules | `(tactic| walk_at "s") => `(tactic| repeat (first | walk_at "a" | refine i_var rfl ?_ | refine i_aug rfl ?_ | refine And.intro ⟨_, rfl⟩ ?_ | refine ⟨_, rfl, ?_⟩ | refine ⟨_, _, rfl, rfl, ?_⟩ | refine ⟨_, _, rfl, ?_⟩ | refine ⟨rfl, ?_⟩ | refine And.intro (by walk_at "c") ?_))
abbrev sNWInit : Stmt := inClass (topS 1) 0
abbrev NNWInit : List Str := ["self", "many"]
theorem scNWInit : FnScope NNWInit ["self", "many"] (defScope sNWInit) := ⟨rfl, rfl, rfl, by decide +kernel, rfl, by decide +kernel, by decide +kernel⟩
abbrev sLongest : Stmt := topS 3
abbrev NLongest : List Str := ["waited"]
theorem scLongest : FnScope NLongest ["waited"] (defScope sLongest) := ⟨rfl, rfl, rfl, by decide +kernel, rfl, by decide +kernel, by decide +kernel⟩
abbrev sMean : Stmt := topS 4
abbrev NMean : List Str := ["waited", "minutes"]
theorem scMean : FnScope NMean ["waited"] (defScope sMean) := ⟨rfl, rfl, rfl, by decide +kernel, rfl, by decide +kernel, by decide +kernel⟩
abbrev sEnded : Stmt := topS 5
abbrev NEnded : List Str := ["waited", "name", "minutes"]
theorem scEnded : FnScope NEnded ["waited"] (defScope sEnded) := ⟨rfl, rfl, rfl, by decide +kernel, rfl, by decide +kernel, by decide +kernel⟩
abbrev sNames : Stmt := topS 10
abbrev NNames : List Str := ["_law_feed_here", "_law_many", "_law_letters", "_law_k", "_law_some", "_law_place", "_law_short", "_law_found", "_law_turned", "_law_shown", "_law_one"]
theorem scNames : FnScope NNames ["_law_feed_here", "_law_many"] (defScope sNames) := ⟨rfl, rfl, rfl, by decide +kernel, rfl, by decide +kernel, by decide +kernel⟩
abbrev sWaited : Stmt := topS 11
abbrev NWaited : List Str := ["_law_feed_here", "_law_ends", "_law_names_here", "_law_found", "_law_k", "_law_wait"]
theorem scWaited : FnScope NWaited ["_law_feed_here", "_law_ends"] (defScope sWaited) := ⟨rfl, rfl, rfl, by decide +kernel, rfl, by decide +kernel, by decide +kernel⟩
abbrev sLMean : Stmt := topS 12
abbrev NLMean : List Str := ["_law_some", "_law_told", "_law_error", "e", "_law_bases"]
theorem scLMean : FnScope NLMean ["_law_some"] (defScope sLMean) := ⟨rfl, rfl, rfl, by decide +kernel, rfl, by decide +kernel, by decide +kernel⟩
abbrev sLaw : Stmt := topS 13
abbrev NLaw : List Str := ["_law_script", "_law_feed_here", "_law_k", "_law_some", "_law_handed", "_law_numbers", "_law_most", "_law_whole", "_law_rest", "_law_number", "_law_step", "_law_due", "_law_turns", "_law_who", "_law_wait"]
theorem scLaw : FnScope NLaw ["_law_script"] (defScope sLaw) := ⟨rfl, rfl, rfl, by decide +kernel, rfl, by decide +kernel, by decide +kernel⟩
structure Ev (K : PySem.W.Frag) (mg : Str → Option Value) where
  flongest : Addr
  fdlongest : FuncData
  Flongest : Fun K "longest" "longest" sLongest flongest fdlongest
  blongest : Binds K fdlongest ["waited"] []
  glongest : mg "longest" = some (.ref flongest)
  fmean_wait : Addr
  fdmean_wait : FuncData
  Fmean_wait : Fun K "mean_wait" "mean_wait" sMean fmean_wait fdmean_wait
  bmean_wait : Binds K fdmean_wait ["waited"] []
  gmean_wait : mg "mean_wait" = some (.ref fmean_wait)
  f_ended : Addr
  fd_ended : FuncData
  F_ended : Fun K "_ended" "_ended" sEnded f_ended fd_ended
  b_ended : Binds K fd_ended ["waited"] []
  g_ended : mg "_ended" = some (.ref f_ended)
  f_law_feed : Addr
  fd_law_feed : FuncData
  F_law_feed : Fun K "_law_feed" "_law_feed" sFeed f_law_feed fd_law_feed
  b_law_feed : Binds K fd_law_feed ["_law_script"] []
  g_law_feed : mg "_law_feed" = some (.ref f_law_feed)
  f_law_draw : Addr
  fd_law_draw : FuncData
  F_law_draw : Fun K "_law_draw" "_law_draw" sDraw f_law_draw fd_law_draw
  b_law_draw : Binds K fd_law_draw ["_law_feed_here", "_law_many"] []
  g_law_draw : mg "_law_draw" = some (.ref f_law_draw)
  f_law_of : Addr
  fd_law_of : FuncData
  F_law_of : Fun K "_law_of" "_law_of" sOf f_law_of fd_law_of
  b_law_of : Binds K fd_law_of ["_law_feed_here", "_law_some"] []
  g_law_of : mg "_law_of" = some (.ref f_law_of)
  f_law_names : Addr
  fd_law_names : FuncData
  F_law_names : Fun K "_law_names" "_law_names" sNames f_law_names fd_law_names
  b_law_names : Binds K fd_law_names ["_law_feed_here", "_law_many"] []
  g_law_names : mg "_law_names" = some (.ref f_law_names)
  f_law_waited : Addr
  fd_law_waited : FuncData
  F_law_waited : Fun K "_law_waited" "_law_waited" sWaited f_law_waited fd_law_waited
  b_law_waited : Binds K fd_law_waited ["_law_feed_here", "_law_ends"] []
  g_law_waited : mg "_law_waited" = some (.ref f_law_waited)
  f_law_mean : Addr
  fd_law_mean : FuncData
  F_law_mean : Fun K "_law_mean" "_law_mean" sLMean f_law_mean fd_law_mean
  b_law_mean : Binds K fd_law_mean ["_law_some"] []
  g_law_mean : mg "_law_mean" = some (.ref f_law_mean)
  flaw : Addr
  fdlaw : FuncData
  Flaw : Fun K "law" "law" sLaw flaw fdlaw
  blaw : Binds K fdlaw ["_law_script"] []
  glaw : mg "law" = some (.ref flaw)
  fNoWaits___init__ : Addr
  fdNoWaits___init__ : FuncData
  FNoWaits___init__ : Fun K "__init__" "NoWaits.__init__" sNWInit fNoWaits___init__ fdNoWaits___init__
  bNoWaits___init__ : Binds K fdNoWaits___init__ ["self", "many"] []
  kblongest : KBinds K fdlongest ["waited"] ["waited"] (· ++ ·) (· ++ ·)
  kbmean_wait : KBinds K fdmean_wait ["waited"] ["waited"] (· ++ ·) (· ++ ·)
  mlen : mg "len" = none
  mlist : mg "list" = none
  mrange : mg "range" = none
  mmax : mg "max" = none
  msum : mg "sum" = none
  mdivmod : mg "divmod" = none
  misinstance : mg "isinstance" = none
  mrepr : mg "repr" = none
  mZeroDivisionError : mg "ZeroDivisionError" = none
  mArithmeticError : mg "ArithmeticError" = none
  mValueError : mg "ValueError" = none
  CNoWaits : Addr
  gCNoWaits : mg "NoWaits" = some (.ref CNoWaits)
  oxNoWaits : OexB K CNoWaits
  exNoWaits : PySem.W.subIn K (.ref CNoWaits) (.type "BaseException") = some true
  hdNoWaits : PySem.W.hasDictIn K CNoWaits = true
  tyNoWaits : PySem.W.typeIn K (.ref CNoWaits) = some (.type "type")
  icNoWaits : PySem.W.isClsIn K CNoWaits = true
  seNoWaits : PySem.W.subIn K (.ref CNoWaits) (.ref CNoWaits) = some true
  upNoWaits : PySem.W.subIn K (.ref CNoWaits) (.type "ZeroDivisionError") = some true
  gaNoWaits : PySem.W.findIn K (.ref CNoWaits) "__getattribute__" = some (some (.builtin "BaseException.__getattribute__"))
  ggNoWaits : PySem.W.findIn K (.ref CNoWaits) "__getattr__" = some none
  haNoWaits : PySem.W.findIn K (.ref CNoWaits) "__class__" = some (some (.builtin "object.__class__"))
  hnNoWaits : PySem.W.specialIn K (.builtin "object.__class__") "__get__" = some (some (.builtin "getset_descriptor.__get__"))
  htNoWaits : PySem.W.takesIn K (.builtin "object.__class__") = some true
  hmNoWaits : PySem.W.mroIn K CNoWaits (.type "object") = some true
  nNoWaits_many : PySem.W.findIn K (.ref CNoWaits) "many" = some none
  snNoWaits_ValueError : PySem.W.subIn K (.ref CNoWaits) (.type "ValueError") = some false
  usNoWaits_ArithmeticError : PySem.W.subIn K (.ref CNoWaits) (.type "ArithmeticError") = some true
  aNoWaits___init__ : PySem.W.findIn K (.ref CNoWaits) "__init__" = some (some (.ref fNoWaits___init__))
  iNoWaits___init__ : PySem.W.isFn K (.ref fNoWaits___init__) = true
  kNoWaits___init__ : PySem.W.keepIn K (.ref fNoWaits___init__) = true
/-! ### the tape, by what is known of the names -/
section
variable {P : Program} {w : World} {K : PySem.W.Frag} {mg : Str → Option Value} {base : Heap} (T : Ev K mg)
theorem ok_law_draw : FnOk P w K mg base CX0 1 T.f_law_draw T.fd_law_draw ["_law_feed_here", "_law_many"] spDraw := ok_draw T.F_law_draw ⟨T.mlen⟩
theorem ok_law_of : FnOk P w K mg base CX0 2 T.f_law_of T.fd_law_of ["_law_feed_here", "_law_some"] spPick := ok_of T.F_law_of ⟨T.mlen⟩ T.F_law_draw T.g_law_draw T.b_law_draw
theorem ok_law_feed : FnOk P w K mg base CX0 1 T.f_law_feed T.fd_law_feed ["_law_script"] (spTape K) := ok_feed T.F_law_feed ⟨T.mlist⟩
end
theorem dr {H : Hp} {F c : Addr} (b : Int) {n : Nat} {Q : VK} {E : XK} (hT : Tape H F c n) (b0 : 0 < b) (b1 : b < 1073741824) (hn : n < 1000000)
    (q : ∀ d H', 0 ≤ d → d < b → Tape H' F c (n + 1) → Keep F H H' → Q (.int d) H') : spDraw [.ref F, .int b] H Q E := ⟨F, c, b, n, rfl, b0, b1, hn, hT, q⟩
theorem pk {H : Hp} {F c p : Addr} {xs : List V} {n : Nat} {Q : VK} {E : XK} (hT : Tape H F c n) (hp : H p = some (.lst xs)) (ne : p ≠ F) (l0 : 0 < xs.length) (l1 : xs.length < 1000000) (hn : n < 1000000)
    (q : ∀ x H', x ∈ xs → Tape H' F c (n + 1) → Keep F H H' → Q x H') : spPick [.ref F, .ref p] H Q E := ⟨F, c, p, xs, n, rfl, hp, ne, l0, l1, hn, hT, fun _ x H' e => q x H' (List.mem_of_getElem? e)⟩
/-- of a list that is written there -/
theorem pkn {H : Hp} {F c : Addr} {xs : List V} {n : Nat} {Q : VK} {E : XK} (hT : Tape H F c n) (l0 : 0 < xs.length) (l1 : xs.length < 1000000) (hn : n < 1000000)
    (q : ∀ x H', x ∈ xs → Tape H' F c (n + 1) → Keep F H H' → Q x H') : ∀ p, H p = none → spPick [.ref F, .ref p] (upd H p (.lst xs)) Q E := fun p hp =>
  pk (hT.new hp) upd_same (hT.ne hp) l0 l1 hn fun x H' m t k => q x H' m t ((Keep.refl.new hp).trans k)
theorem Tape.tape {H : Hp} {F c : Addr} {n : Nat} (h : Tape H F c n) : ∃ ys, H F = some (.lst ys) := by
  obtain ⟨t, r, ns, h1, _⟩ := h.ex
  exact ⟨_, h1⟩
/-- a place that was free ahead of all that is kept -/
theorem Keep.free {F : Addr} {H H' : Hp} {p : Addr} (k : Keep F H H') (hp : H' p = none) (ne : p ≠ F) : H p = none := by
  cases e : H p with
  | none => rfl
  | some o => have := k p o ne e; rw [hp] at this; cases this
theorem emp (x : Str) : Str.empty ++ x = x := ext_tl (by show (Str.empty ++ x).cps.toList = _; rw [Str.cps_append]; simp [Str.empty])
theorem tl_app (x y : Str) : tl (x ++ y) = tl x ++ tl y := by unfold tl; rw [Str.cps_append]; simp
/-- texts of at most m small letters -/
def LowN (m : Nat) (z : Str) : Prop := z.length ≤ m ∧ ∀ c ∈ tl z, 97 ≤ c ∧ c ≤ 122
theorem tl_cut (z : Str) (lo hi : Option Int) : tl (cutS z lo hi) = ((tl z).drop (HT.sIx z.length 0 lo)).take (HT.sIx z.length z.length hi - HT.sIx z.length 0 lo) := by
  unfold tl cutS; simp
theorem cut_low {m : Nat} {z : Str} {lo hi : Option Int} (h : LowN m z) : LowN m (cutS z lo hi) := by
  refine ⟨?_, fun c hc => ?_⟩
  · have := TL.len_tl (cutS z lo hi)
    have h2 := TL.len_tl z
    rw [this, tl_cut, List.length_take, List.length_drop]
    have := h.1
    omega
  · rw [tl_cut] at hc
    exact h.2 c (List.mem_of_mem_drop (List.mem_of_mem_take hc))
theorem app_low {m k : Nat} {y z : Str} (h : LowN m y) (h2 : LowN k z) : LowN (m + k) (y ++ z) := by
  refine ⟨by rw [Str.length_append]; exact Nat.add_le_add h.1 h2.1, fun c hc => ?_⟩
  rw [tl_app] at hc
  rcases List.mem_append.mp hc with hc | hc
  · exact h.2 c hc
  · exact h2.2 c hc
theorem one_low {c : Nat} (h : 97 ≤ c ∧ c ≤ 122) : LowN 1 ⟨#[c]⟩ := ⟨Nat.le_refl _, fun d hd => by
  have : d = c := by simpa [tl] using hd
  rw [this]; exact h⟩
theorem join_low : ∀ ys : List Str, (∀ y ∈ ys, LowN 1 y ∧ y.length = 1) → (TL.joinL [] (ys.map tl)).length = ys.length ∧ ∀ c ∈ TL.joinL [] (ys.map tl), 97 ≤ c ∧ c ≤ 122
  | [], _ => ⟨rfl, fun c hc => by cases hc⟩
  | [y], h => by
    have hy := h y List.mem_cons_self
    exact ⟨by show (tl y).length = 1; rw [← TL.len_tl]; exact hy.2, hy.1.2⟩
  | y :: z :: r, h => by
    have hy := h y List.mem_cons_self
    obtain ⟨i1, i2⟩ := join_low (z :: r) fun w hw => h w (List.mem_cons_of_mem _ hw)
    refine ⟨?_, fun c hc => ?_⟩
    · show (tl y ++ ([] ++ TL.joinL [] ((z :: r).map tl))).length = (z :: r).length + 1
      rw [List.length_append, List.nil_append, i1, ← TL.len_tl, hy.2]
      omega
    · have hc' : c ∈ tl y ++ ([] ++ TL.joinL [] ((z :: r).map tl)) := hc
      rw [List.nil_append] at hc'
      rcases List.mem_append.mp hc' with hc' | hc'
      · exact hy.1.2 c hc'
      · exact i2 c hc'
theorem base_low {ys : List Str} (h : ∀ y ∈ ys, LowN 1 y ∧ y.length = 1) : LowN ys.length (Txt.join Str.empty ys) ∧ (Txt.join Str.empty ys).length = ys.length := by
  obtain ⟨a, b⟩ := join_low ys h
  have e : tl (Txt.join Str.empty ys) = TL.joinL [] (ys.map tl) := by rw [TL.join_eq, TL.tl_join]; rfl
  have l : (Txt.join Str.empty ys).length = ys.length := by rw [TL.len_tl, e, a]
  exact ⟨⟨Nat.le_of_eq l, fun c hc => b c (by rw [← e]; exact hc)⟩, l⟩
theorem letter : ∀ j : Nat, j < 26 → ∃ c, (tl "abcdefghijklmnopqrstuvwxyz")[j]? = some c ∧ 97 ≤ c ∧ c ≤ 122 := by
  have : ∀ j : Nat, j < 26 → (tl "abcdefghijklmnopqrstuvwxyz")[j]? = some (97 + j) := by decide +kernel
  intro j h
  exact ⟨_, this j h, by omega, by omega⟩
theorem LowN.mono {m k : Nat} {z : Str} (h : LowN m z) (l : m ≤ k) : LowN k z := ⟨Nat.le_trans h.1 l, h.2⟩
theorem letter_at {j : Nat} (h : j < 26) : (tl "abcdefghijklmnopqrstuvwxyz")[j]? = some (97 + j) := by
  have : ∀ j : Nat, j < 26 → (tl "abcdefghijklmnopqrstuvwxyz")[j]? = some (97 + j) := by decide +kernel
  exact this j h
theorem cut_before_len {z : Str} {t : Nat} (h : t < z.length) : (tl (cutS z none (some (t : Int)))).length = t := by
  have lz := TL.len_tl z
  rw [tl_cut, HT.sIx_none, show HT.sIx z.length z.length (some (t : Int)) = min t z.length from HT.sIx_nat z.length _ t, List.length_take, List.length_drop]
  omega
theorem cut_before {m : Nat} {z : Str} {t : Nat} (h : LowN m z) (ht : t < z.length) : LowN t (cutS z none (some (t : Int))) :=
  ⟨by rw [TL.len_tl]; exact Nat.le_of_eq (cut_before_len ht), (cut_low h).2⟩
theorem cut_after {m : Nat} {z : Str} {t : Nat} (h : LowN m z) (ht : t < z.length) : LowN (z.length - (t + 1)) (cutS z (some ((t : Int) + 1)) none) := by
  refine ⟨?_, (cut_low h).2⟩
  have lz := TL.len_tl z
  rw [TL.len_tl, tl_cut, HT.sIx_none, show HT.sIx z.length 0 (some ((t : Int) + 1)) = min (t + 1) z.length from HT.sIx_nat z.length _ (t + 1), List.length_take, List.length_drop]
  omega
theorem cut_from {xs : List V} {t : Nat} (h : t ≤ xs.length) : cutV xs (some (t : Int)) none = xs.drop t := by
  unfold cutV
  rw [show HT.sIx xs.length 0 (some (t : Int)) = min t xs.length from HT.sIx_nat xs.length 0 t, HT.sIx_none, Nat.min_eq_left h]
  exact List.take_of_length_le (by rw [List.length_drop]; exact Nat.le_refl _)
theorem cut_to {xs : List V} {t : Nat} (h : t ≤ xs.length) : cutV xs none (some (t : Int)) = xs.take t := by
  unfold cutV
  rw [HT.sIx_none, show HT.sIx xs.length xs.length (some (t : Int)) = min t xs.length from HT.sIx_nat xs.length _ t, Nat.min_eq_left h]
  show (xs.drop 0).take (t - 0) = _
  rw [Nat.sub_zero]; rfl
/-! ### data: of what depth, and how long its text -/
structure OkD (d : PyData) (k m : Nat) : Prop where
  lay : d.canLay0 = true
  dep : d.depth ≤ k
  sho : d.showable = true
  len : d.shown.length ≤ m
theorem logs {i : Int} (h : i.natAbs < 10000000000) : i.natAbs.log2 < 1920 := by
  by_cases z : i.natAbs = 0
  · rw [z]; decide
  · exact (Nat.log2_lt z).mpr (Nat.lt_of_lt_of_le h (Nat.le_trans (show 10000000000 ≤ 2 ^ 64 by decide) (Nat.pow_le_pow_right (by decide) (by decide : 64 ≤ 1920))))
theorem small10 {i : Int} (h : i.natAbs < 10000000000) : (Str.ofString (toString i)).length ≤ 11 := by
  have := PySem.int_text_length_le10 (a := i) (k := 10) (by decide) h
  rw [PySem.ofString_length]
  exact this
theorem okd_none : OkD .none 0 4 := ⟨by simp [PyData.canLay0], by simp [PyData.depth], by simp [PyData.showable], by rw [PyData.shown]; decide⟩
theorem okd_bool (b : Bool) : OkD (.bool b) 0 5 := ⟨by simp [PyData.canLay0], by simp [PyData.depth], by simp [PyData.showable], by rw [PyData.shown]; cases b <;> decide⟩
theorem okd_int {i : Int} (h : i.natAbs < 10000000000) : OkD (.int i) 0 11 := ⟨by simp [PyData.canLay0], by simp [PyData.depth], by simp [PyData.showable, logs h], by rw [PyData.shown]; exact small10 h⟩
theorem okd_str {x : Str} {n : Nat} (h : PyData.strOk x = true) (l : x.length ≤ n) : OkD (.str x) 0 (10 * n + 2) := by
  refine ⟨by simp [PyData.canLay0, h], by simp [PyData.depth], by simp [PyData.showable], ?_⟩
  rw [PyData.shown]
  refine Nat.le_trans (PySem.StrLaws.reprText_len x fun c hc => ?_) (by omega)
  unfold PyData.strOk at h
  have := Array.all_eq_true_iff_forall_mem.mp h c (by simpa using hc)
  exact Nat.lt_trans (of_decide_eq_true this) (by decide)
theorem OkD.mono {d : PyData} {k m k' m' : Nat} (h : OkD d k m) (a : k ≤ k') (b : m ≤ m') : OkD d k' m' := ⟨h.lay, Nat.le_trans h.dep a, h.sho, Nat.le_trans h.len b⟩
theorem okd_all {k m : Nat} : ∀ ds : List PyData, (∀ d ∈ ds, OkD d k m) → PyData.canLayAll0 ds = true ∧ PyData.depthAll ds ≤ k ∧ PyData.showableAll ds = true ∧ piled (PyData.shownAll ds) ≤ ds.length * (m + 2)
  | [], _ => ⟨by simp [PyData.canLayAll0], by simp [PyData.depthAll], by simp [PyData.showableAll], by simp [PyData.shownAll, piled_nil]⟩
  | d :: ds, h => by
    have h1 := h d List.mem_cons_self
    obtain ⟨a, b, c, e⟩ := okd_all ds fun x hx => h x (List.mem_cons_of_mem _ hx)
    refine ⟨by simp [PyData.canLayAll0, h1.lay, a], ?_, by simp [PyData.showableAll, h1.sho, c], ?_⟩
    · have := h1.dep
      simp only [PyData.depthAll]; omega
    · have := h1.len
      rw [PyData.shownAll, piled_cons, List.length_cons, Nat.add_mul]; omega
theorem list_text : ∀ ts : List Str, (listText ts).length ≤ piled ts + 2
  | [] => by decide
  | t :: r => by
    have h := textFrom_length_pos r 1 (("[" : Str) ++ (if (0 : Nat) > 0 then ", " else "" : String) ++ t) (Nat.succ_pos 0)
    have e : ((("[" : Str) ++ (if (0 : Nat) > 0 then ", " else "" : String) ++ t)).length = 1 + t.length := by rw [Str.length_append, Str.length_append]; rfl
    have x1 : (listText (t :: r)).length = (textFrom 0 "[" (t :: r)).length + 1 := by show (textFrom 0 "[" (t :: r) ++ "]").length = _; rw [Str.length_append]; rfl
    have x2 : (textFrom 0 "[" (t :: r)).length = (textFrom 1 (("[" : Str) ++ (if (0 : Nat) > 0 then ", " else "" : String) ++ t) r).length := rfl
    rw [x1, x2, h, e, piled_cons]; omega
theorem okd_tup {k m n : Nat} {ds : List PyData} (h : ∀ d ∈ ds, OkD d k m) (l : ds.length ≤ n) : OkD (.tuple ds) (k + 1) (n * (m + 2) + 2) := by
  obtain ⟨a, b, c, e⟩ := okd_all ds h
  refine ⟨by simp only [PyData.canLay0]; exact a, by simp only [PyData.depth]; omega, by simp only [PyData.showable]; exact c, ?_⟩
  rw [PyData.shown]
  have := PySem.fmt_text (PyData.shownAll ds)
  have := Nat.mul_le_mul_right (m + 2) l
  omega
theorem okd_lst {k m n : Nat} {ds : List PyData} (h : ∀ d ∈ ds, OkD d k m) (l : ds.length ≤ n) : OkD (.list ds) (k + 1) (n * (m + 2) + 2) := by
  obtain ⟨a, b, c, e⟩ := okd_all ds h
  refine ⟨by simp only [PyData.canLay0]; exact a, by simp only [PyData.depth]; omega, by simp only [PyData.showable]; exact c, ?_⟩
  rw [PyData.shown]
  have := list_text (PyData.shownAll ds)
  have := Nat.mul_le_mul_right (m + 2) l
  omega
theorem okd_map {α : Type} {k m n : Nat} {f : α → PyData} {l : List α} (h : ∀ x ∈ l, OkD (f x) k m) (e : l.length ≤ n) : OkD (.list (l.map f)) (k + 1) (n * (m + 2) + 2) :=
  okd_lst (fun d hd => by obtain ⟨x, hx, rfl⟩ := List.mem_map.mp hd; exact h x hx) (by rw [List.length_map]; exact e)
theorem OkD.shaped {d : PyData} {k m : Nat} (h : OkD d k m) (a : k ≤ 64 := by decide) : SeqAt.shaped d = true := by
  show (d.canLay0 && decide (d.depth ≤ 64)) = true
  rw [h.lay, decide_eq_true (Nat.le_trans h.dep a)]; rfl
theorem OkD.line {d : PyData} {k m : Nat} (h : OkD d k m) (a : m ≤ 100000 := by decide) : d.shown.length ≤ sizeLine := le_line (Nat.le_trans h.len a)
theorem OkD.refl {d : PyData} {k m : Nat} (h : OkD d k m) : PyData.eqv d d = true := SeqAt.eqv_refl _ h.lay
/-- repr of such data -/
theorem OkD.rep {K : PySem.W.Frag} {H : Hp} {v : V} {d : PyData} {k m : Nat} {Q : VK} (h : OkD d k m) (hd : Dp K H v d) (q : Q (.str d.shown) H) (a : k ≤ 64 := by decide) (b : m ≤ 100000 := by decide) : rReprD K [v] H Q :=
  ⟨v, d, rfl, hd, h.shaped a, h.sho, h.line b, q⟩
/-- a thing is not other than itself -/
theorem ne_self {α : Type} [DecidableEq α] (x : α) : (!decide (x = x)) = false := by rw [decide_eq_true rfl]; rfl
theorem OkD.same {K : PySem.W.Frag} {H : Hp} {u v : V} {d : PyData} {k m : Nat} {Q : VK} (h : OkD d k m) (hu : Dp K H u d) (hv : Dp K H v d) (q : Q (.bl true) H) (a : k ≤ 64 := by decide) : rEqD K u v H Q :=
  ⟨d, d, hu, hv, h.shaped a, h.shaped a, by rw [h.refl]; exact q⟩
theorem OkD.not {K : PySem.W.Frag} {H : Hp} {u v : V} {d : PyData} {k m : Nat} {Q : VK} (h : OkD d k m) (hu : Dp K H u d) (hv : Dp K H v d) (q : Q (.bl false) H) (a : k ≤ 64 := by decide) : rNeD K u v H Q :=
  ⟨d, d, hu, hv, h.shaped a, h.shaped a, by rw [h.refl]; exact q⟩
theorem low_strOk {m : Nat} {z : Str} (h : LowN m z) : PyData.strOk z = true := by
  unfold PyData.strOk
  rw [Array.all_eq_true_iff_forall_mem]
  intro c hc
  have := h.2 c (by simpa [tl] using hc)
  exact decide_eq_true (by omega)
/-! ### waits -/
abbrev Wt := Str × Option Int
def wV : Option Int → V
  | none => .non
  | some i => .int i
def wN : Option Int → PyData
  | none => .none
  | some i => .int i
def wD (x : Wt) : PyData := .tuple [.str x.1, wN x.2]
theorem wD_noL (x : Wt) : noL (wD x) = true := by cases x with | mk s o => cases o <;> rfl
theorem wts_at {K : PySem.W.Frag} {H : Hp} {xs : List V} {ws : List Wt} (h : DpAll K H xs (ws.map wD)) {i : Nat} {x : V} (e : xs[i]? = some x) : ∃ a w, x = .ref a ∧ ws[i]? = some w ∧ SqT K H a [.str w.1, wV w.2] := by
  obtain ⟨d, h1, h2⟩ := dps_at h e
  rw [List.getElem?_map] at h1
  cases hw : ws[i]? with
  | none => rw [hw] at h1; cases h1
  | some w =>
    rw [hw] at h1
    cases h1
    obtain ⟨a, ys, rfl, hs, hd⟩ := dp_tup h2
    obtain ⟨s, o⟩ := w
    cases hd with | cons h1 h2 =>
    cases h2 with | cons h2 h3 =>
    cases h3
    cases h1
    refine ⟨a, _, rfl, rfl, ?_⟩
    cases o with
    | none => cases h2; exact hs
    | some i => cases h2; exact hs
def ends (ws : List Wt) : List Int := ws.filterMap (·.2)
theorem ends_succ {ws : List Wt} {i : Nat} {w : Wt} (h : ws[i]? = some w) : ends (ws.take (i + 1)) = ends (ws.take i) ++ (match w.2 with | none => [] | some z => [z]) := by
  unfold ends
  rw [List.take_succ, h, List.filterMap_append]
  obtain ⟨s, o⟩ := w
  cases o <;> rfl
def spEnded (K : PySem.W.Frag) : Sp := fun vs H Q _ => ∃ (p : Addr) (xs : List V) (ws : List Wt), vs = [.ref p] ∧ SqL K H p xs ∧ DpAll K H xs (ws.map wD) ∧ ws.length ≤ 1000 ∧ ∀ D H', H' D = some (.lst ((ends ws).map V.int)) → Same H H' → H D = none → Q (.ref D) H'
def spLongest (K : PySem.W.Frag) : Sp := fun vs H Q _ => ∃ (p : Addr) (xs : List V) (ws : List Wt), vs = [.ref p] ∧ SqL K H p xs ∧ DpAll K H xs (ws.map wD) ∧ ws.length ≤ 1000 ∧
  ∀ H', Same H H' → (ends ws = [] → Q .non H') ∧ ∀ M, M ∈ ends ws → (∀ a, a ∈ ends ws → a ≤ M) → Q (.int M) H'
section
variable {P : Program} {w : World} {K : PySem.W.Frag} {mg : Str → Option Value} {base : Heap} (T : Ev K mg)
theorem ok_ended : FnOk P w K mg base CX0 1 T.f_ended T.fd_ended ["waited"] (spEnded K) := by
  refine T.F_ended.ok scEnded (fun vs H Q E h => ?_) (fun cdv A outer s H vs Q E hr h => ?_)
  · obtain ⟨p, xs, ws, rfl, _⟩ := h
    rfl
  · obtain ⟨p, xs, ws, rfl, hp, hw, hl, q⟩ := h
    refine ⟨_,
      (pss_one (ps_ret (pe_lc (own := [("name", 1), ("minutes", 2)]) (g := gTup K 2 (gCons (gName 1) (gCons (gName 2) gNil)))  rfl scEnded.nd (pi_list (pv 0)) (blkOk_by (N := NEnded) (own := [("name", 1), ("minutes", 2)]) (sc := defScope sEnded) (by decide +kernel)) (fun _ _ _ _ _ => pg_tup rfl (pgs_cons (pg_name (i := 1) scEnded.nd rfl (Or.inl rfl)) (pgs_cons (pg_name (i := 2) scEnded.nd rfl (Or.inl rfl)) pgs_nil))) (fun _ _ _ _ _ => pts_one (pt_cmpR op_notN (pv 2) pe_non (nomark _))) (fun _ _ _ _ _ => (pv 2)))))
      , ?_⟩
    have hxl := dps_len hw
    rw [List.length_map] at hxl
    refine ⟨_, rfl, p, rfl, ⟨_, hp⟩, fun D hD => ?_⟩
    refine lc_list (K := K) (a := p) (xs := xs) (fun i H' => H' D = some (.lst ((ends (ws.take i)).map V.int)) ∧ Same H H') ⟨upd_same, same_upd hD⟩ (fun i H' _ z => sqL_same hp z.2) ?_ ?_
    · rintro i x H' hx ⟨eD, si⟩
      obtain ⟨a, w, rfl, hw1, ha⟩ := wts_at hw hx
      have hi : i < xs.length := (List.getElem?_eq_some_iff.mp hx).1
      refine ⟨a, _, rfl, sqT_same ha si, rfl, ?_⟩
      walk_at "s"

      rw [ends_succ hw1]
      obtain ⟨n, o⟩ := w
      cases o with
      | none => exact iteF ⟨by rw [List.append_nil]; exact eD, si⟩
      | some z =>
        have hlen : (ends (ws.take i)).length ≤ i := Nat.le_trans (List.length_filterMap_le _ _) (by rw [List.length_take]; omega)
        refine iteT ⟨_, rfl, _, eD, by rw [List.length_map]; exact Nat.lt_of_lt_of_le (show _ < 2000 by omega) (by decide), by rw [upd_same, List.map_append]; rfl, fun y u e => ?_⟩
        rw [upd_ne (ne_of_none e hD)]; exact si _ _ e
    · rintro H' ⟨eD, si⟩
      rw [hxl, List.take_length] at eD
      exact q D H' eD si hD
theorem oklongest : FnOk P w K mg base CX0 2 T.flongest T.fdlongest ["waited"] (spLongest K) := by
  refine T.Flongest.ok scLongest (fun vs H Q E h => ?_) (fun cdv A outer s H vs Q E hr h => ?_)
  · obtain ⟨p, xs, ws, rfl, _⟩ := h
    rfl
  · obtain ⟨p, xs, ws, rfl, hp, hw, hl, q⟩ := h
    refine ⟨_,
      (pss_one (ps_ret (pe_callBK (call_Dmax rfl) (by rfl) T.mmax (by decide +kernel) (pa_cons (pe_call (ok_ended T) (hr.mono (by decide)) (by rfl) T.g_ended T.F_ended.kp T.b_ended .nil pass0 (pa_cons (pv 0) pa_nil)) pa_nil) (pk_cons pe_non pk_nil))))
      , ?_⟩
    refine ⟨_, rfl, p, xs, ws, rfl, hp, hw, hl, fun D H' eD s1 hD => ?_⟩
    exact ⟨D, _, .non, rfl, rfl, SqL.of eD, (q H' s1).1, (q H' s1).2⟩
end
theorem raise_same {H H1 H' : Hp} {e d : Addr} {X Y : HO} (s : Same H H1) (he : H1 e = none) (hd : (upd H1 e X) d = none) (ne : d ≠ e) (k : ∀ x o, x ≠ e → upd H1 e X x = some o → H' x = some o) : Same H (upd (del H' e) d Y) := by
  intro x o ex
  have e1 := s _ _ ex
  have nx : x ≠ e := ne_of_none e1 he
  have nd : x ≠ d := by
    intro z
    rw [z] at e1
    rw [upd_ne ne, e1] at hd
    cases hd
  rw [upd_ne nd, del_ne nx]
  exact k x o nx (by rw [upd_ne nx]; exact e1)
/-! ### exceptions of one field -/
def x1F (f : Str) (v : V) : List (Str × V) := [(f, v)]
def spX1 (C : Addr) (f : Str) : Sp := fun vs H Q _ => ∃ (p : Addr) (m : V), vs = [.ref p, m] ∧ H p = some (exo p C none) ∧ ∀ d H', H d = none → d ≠ p → H' p = some (exo p C (some d)) → H' d = some (exd d (x1F f m)) → (∀ x o, x ≠ p → H x = some o → H' x = some o) → Q .non H'
def spMean (K : PySem.W.Frag) (C : Addr) : Sp := fun vs H Q E => ∃ (p : Addr) (xs : List V) (ws : List Wt), vs = [.ref p] ∧ SqL K H p xs ∧ DpAll K H xs (ws.map wD) ∧ ws.length ≤ 1000 ∧
  (ends ws ≠ [] → ∀ t H', Same H H' → H' t = some (.tup [.int ((ends ws).sum / ((ends ws).length : Int)), .int ((ends ws).sum % ((ends ws).length : Int))]) → Q (.ref t) H') ∧
  (ends ws = [] → ∀ d H', Same H H' → H' d = some (.xd (x1F "many" (.int (ws.length : Nat)))) → E (.ref C) (some d) H')
section
variable {P : Program} {w : World} {K : PySem.W.Frag} {mg : Str → Option Value} {base : Heap} (T : Ev K mg)
theorem okNoWaits___init__ : FnOk P w K mg base CX0 1 T.fNoWaits___init__ T.fdNoWaits___init__ ["self", "many"] (spX1 T.CNoWaits "many") := by
  refine T.FNoWaits___init__.ok scNWInit (fun vs H Q E h => ?_) (fun cdv A outer s H vs Q E hr h => ?_)
  · obtain ⟨p, m, rfl, _⟩ := h
    rfl
  · obtain ⟨p, a, rfl, hp, q⟩ := h
    refine ⟨_, pss_one (ps_put (pv 0) (pv 1)), ?_⟩
    refine ⟨_, rfl, _, rfl, p, T.CNoWaits, rfl, T.oxNoWaits, T.nNoWaits_many, .inl ⟨hp, fun d hd ne => ?_⟩⟩
    refine q d _ hd ne upd_same ?_ fun x o n e => ?_
    · rw [upd_ne ne, upd_same]; rfl
    · rw [upd_ne n, upd_ne (ne_of_none e hd)]
      exact e
theorem okmean_wait : FnOk P w K mg base (L2.CX P w) 3 T.fmean_wait T.fdmean_wait ["waited"] (spMean K T.CNoWaits) := by
  refine T.Fmean_wait.okX scMean (fun vs H Q E h => ?_) (fun cdv A outer s H vs Q E hr h => ?_)
  · obtain ⟨p, xs, ws, rfl, _⟩ := h
    rfl
  · obtain ⟨p, xs, ws, rfl, hp, hw, hl, q0, q1⟩ := h
    refine ⟨_,
      (pss_cons (ps_set (i := 1) scMean.nd rfl (.inl rfl) (pe_call (ok_ended T) (hr.mono (by decide)) (by rfl) T.g_ended T.F_ended.kp T.b_ended .nil pass0 (pa_cons (pv 0) pa_nil)))
      (pss_cons (ps_if (pt_not (pt_truth (pv 1) (by intro _; rfl)))
      (pss_one (ps_raise rfl (takes_of rfl rfl rfl rfl) (pmk_oexB T.oxNoWaits T.aNoWaits___init__ (beq_iff_eq.mp T.iNoWaits___init__) (okNoWaits___init__ T) (hr.mono (by decide)) T.bNoWaits___init__ pass0 (by rfl) T.gCNoWaits (by exact (pa_cons (pe_callB call_len_seq (by rfl) T.mlen PySem.boot_len (pa_cons (pv 0) pa_nil)) pa_nil)))))
      pss_nil)
      (pss_one (ps_ret (pe_callB call_divmod (by rfl) T.mdivmod (by decide +kernel) (pa_cons (pe_callB (cr_sum rfl) (by rfl) T.msum (by decide +kernel) (pa_cons (pv 1) pa_nil)) (pa_cons (pe_callB call_len_seq (by rfl) T.mlen PySem.boot_len (pa_cons (pv 1) pa_nil)) pa_nil)))))))
      , ?_⟩
    have hxl := dps_len hw
    rw [List.length_map] at hxl
    refine ⟨_, rfl, p, xs, ws, rfl, hp, hw, hl, fun D H' eD s1 hD => ?_⟩
    walk_at "s"
    refine ⟨!(ends ws).isEmpty, .inl ⟨_, SqL.of eD, by rw [List.isEmpty_map]⟩, ?_⟩
    by_cases he : ends ws = []
    · rw [he]
      refine iteT ?_
      walk_at "s"
      refine ⟨p, xs, rfl, .inl (sqL_same hp s1), Nat.le_of_ble_eq_true rfl, fun e0 n0 => ?_⟩
      rw [hxl]
      refine ⟨e0, .int (ws.length : Nat), rfl, upd_same, fun d H2 hd ne he1 hd1 k => ⟨rfl, d, _, he1, hd1, ?_, ?_⟩⟩
      · rw [upd_ne ne] at hd; exact hd
      · exact q1 he d _ (raise_same s1 n0 hd ne k) upd_same
    · refine ite2 (fun c => absurd (by simpa using c) he) (fun _ => ?_)
      have hel : (ends ws).length ≤ ws.length := List.length_filterMap_le _ _
      have hpos : 0 < (ends ws).length := List.length_pos_iff.mpr he
      walk_at "s"
      refine ⟨D, _, rfl, SqL.of eD, _, rfl, D, _, rfl, .inl (SqL.of eD), ?_⟩
      rw [List.length_map]
      refine ⟨_, _, rfl, ⟨by omega, by omega⟩, fun t ht => ?_⟩
      exact q0 he t _ (s1.trans (same_upd ht)) upd_same
end
/-! ### drawn names: one letter another one in each -/
def abc : Str := "abcdefghijklmnopqrstuvwxyz"
def lettered (ns : List Int) : Str := Txt.join Str.empty (ns.map fun i => (⟨#[97 + i.toNat]⟩ : Str))
theorem tl_lettered : ∀ ns : List Int, tl (lettered ns) = ns.map fun i => 97 + i.toNat := by
  have h : ∀ ns : List Int, TL.joinL [] ((ns.map fun i => (⟨#[97 + i.toNat]⟩ : Str)).map tl) = ns.map fun i => 97 + i.toNat := by
    intro ns
    induction ns with
    | nil => rfl
    | cons x r ih =>
      cases r with
      | nil => rfl
      | cons y r =>
        show [97 + x.toNat] ++ ([] ++ TL.joinL [] (((y :: r).map fun i => (⟨#[97 + i.toNat]⟩ : Str)).map tl)) = _
        rw [ih]; rfl
  intro ns
  unfold lettered
  rw [TL.join_eq, TL.tl_join]
  exact h ns
theorem lettered_len (ns : List Int) : (lettered ns).length = ns.length := by rw [TL.len_tl, tl_lettered, List.length_map]
/-- the k-th name of a row of letters -/
def nameK (ns : List Int) (pl : Nat) (sh : Int) (k : Nat) : Str :=
  cutS (lettered (ns.set pl ((ns.getD pl 0 + 7 * (k : Int)).fmod 26))) none (some (max ((pl : Int) + 1) (((ns.length : Nat) : Int) - sh * (k : Int).fmod 3)))
def In26 (ns : List Int) : Prop := ∀ i ∈ ns, 0 ≤ i ∧ i < 26
theorem nameK_low {ns : List Int} {pl k : Nat} {sh : Int} (h8 : ns.length ≤ 8) (hi : In26 ns) (hp : pl < ns.length) : LowN 8 (nameK ns pl sh k) := by
  refine cut_low ⟨by rw [lettered_len, List.length_set]; exact h8, fun c hc => ?_⟩
  rw [tl_lettered] at hc
  obtain ⟨i, hm, rfl⟩ := List.mem_map.mp hc
  have : 0 ≤ i ∧ i < 26 := by
    rcases List.mem_or_eq_of_mem_set hm with z | z
    · exact hi i z
    · rw [z]; exact fmod_in (by decide)
  omega
theorem nameK_at {ns : List Int} {pl k : Nat} {sh : Int} (hi : In26 ns) (hp : pl < ns.length) (hs : 0 ≤ sh ∧ sh < 2) : (tl (nameK ns pl sh k))[pl]? = some (97 + ((ns.getD pl 0 + 7 * (k : Int)).fmod 26).toNat) := by
  have f3 := fmod_in (a := (k : Int)) (b := 3) (by decide)
  have l1 := lettered_len (ns.set pl ((ns.getD pl 0 + 7 * (k : Int)).fmod 26))
  rw [List.length_set] at l1
  unfold nameK
  rw [tl_cut, HT.sIx_none, l1]
  have hb : ∃ q : Nat, max ((pl : Int) + 1) (((ns.length : Nat) : Int) - sh * (k : Int).fmod 3) = (q : Int) ∧ pl < q := by
    generalize hz : max ((pl : Int) + 1) (((ns.length : Nat) : Int) - sh * (k : Int).fmod 3) = z
    have : (pl : Int) + 1 ≤ z := by rw [← hz]; exact Int.le_max_left _ _
    obtain ⟨q, rfl⟩ := Int.eq_ofNat_of_zero_le (show 0 ≤ z by omega)
    exact ⟨q, rfl, by omega⟩
  obtain ⟨q, e, hq⟩ := hb
  rw [e, show HT.sIx ns.length ns.length (some (q : Int)) = min q ns.length from HT.sIx_nat _ _ q, List.drop_zero, Nat.sub_zero, List.getElem?_take, if_pos (by omega), tl_lettered, List.getElem?_map, List.getElem?_set]
  simp [hp]
theorem nameK_pos {ns : List Int} {pl k : Nat} {sh : Int} (hi : In26 ns) (hp : pl < ns.length) (hs : 0 ≤ sh ∧ sh < 2) : 1 ≤ (nameK ns pl sh k).length := by
  have := (List.getElem?_eq_some_iff.mp (nameK_at (k := k) hi hp hs)).1
  rw [TL.len_tl]; omega
theorem nameK_inj {ns : List Int} {pl i j : Nat} {sh : Int} (hi : In26 ns) (hp : pl < ns.length) (hs : 0 ≤ sh ∧ sh < 2) (h1 : i < 26) (h2 : j < 26) (e : nameK ns pl sh i = nameK ns pl sh j) : i = j := by
  have a := nameK_at (k := i) hi hp hs
  have b := nameK_at (k := j) hi hp hs
  rw [e] at a
  have c := Option.some.inj (a.symm.trans b)
  have f1 := fmod_in (a := ns.getD pl 0 + 7 * (i : Int)) (b := 26) (by decide)
  have f2 := fmod_in (a := ns.getD pl 0 + 7 * (j : Int)) (b := 26) (by decide)
  rw [Int.fmod_eq_emod_of_nonneg _ (by decide)] at c f1 f2
  rw [Int.fmod_eq_emod_of_nonneg _ (by decide)] at c
  generalize ns.getD pl 0 = z at c
  omega
def namesOf (ns : List Int) (pl : Nat) (sh : Int) (m : Nat) : List Str := (List.range m).map (nameK ns pl sh)
theorem namesOf_nodup {ns : List Int} {pl m : Nat} {sh : Int} (hi : In26 ns) (hp : pl < ns.length) (hs : 0 ≤ sh ∧ sh < 2) (hm : m ≤ 26) : (namesOf ns pl sh m).Nodup := by
  unfold namesOf
  exact List.pairwise_map.mpr ((List.nodup_range (n := m)).imp_of_mem fun {i j} h1 h2 ne e => ne (nameK_inj hi hp hs (by have := List.mem_range.mp h1; omega) (by have := List.mem_range.mp h2; omega) e))
theorem max_if (x y : Int) : (if x > y then x else y) = max y x := by
  rw [Int.max_def]; split <;> split <;> omega
def spNames2 : Sp := fun vs H Q _ => ∃ (T c : Addr) (m n : Nat), vs = [.ref T, .int (m : Int)] ∧ m ≤ 26 ∧ n < 900000 ∧ Tape H T c n ∧
  ∀ (p : Addr) (zs : List Str) H', zs.length = m → (∀ z ∈ zs, LowN 8 z ∧ 1 ≤ z.length) → zs.Nodup → H' p = some (.lst (zs.map V.str)) → p ≠ T → H p = none → Tape H' T c (n + 11) → Keep T H H' → Q (.ref p) H'
section
variable {P : Program} {w : World} {K : PySem.W.Frag} {mg : Str → Option Value} {base : Heap} (T : Ev K mg)
theorem ok_law_names : FnOk P w K mg base CX0 2 T.f_law_names T.fd_law_names ["_law_feed_here", "_law_many"] spNames2 := by
  refine T.F_law_names.ok scNames (fun vs H Q E h => ?_) (fun cdv A outer s H vs Q E hr h => ?_)
  · obtain ⟨a, c, m, n, rfl, _⟩ := h
    rfl
  · obtain ⟨a, c, m, n, rfl, hm, hn, hT, q⟩ := h
    refine ⟨_,
      (pss_cons (ps_set (i := 2) scNames.nd rfl (.inr rfl) pe_str)
      (pss_cut (ps_setLc (i := 4) (own := [("_law_k", 3)]) (g := gName 3) (tt := tYes) rfl scNames.nd rfl rfl (sw_true rfl rfl rfl (by decide +kernel)) (pi_range1 (by rfl) T.mrange (pa_cons (pe_op op_add pe_int (pe_call (ok_law_draw T) (hr.mono (by decide)) (by rfl) T.g_law_draw T.F_law_draw.kp T.b_law_draw .nil pass0 (pa_cons (pv 0) (pa_cons pe_int pa_nil)))) pa_nil)) (blkOk_by (N := NNames) (own := [("_law_k", 3)]) (sc := defScope sNames) (by decide +kernel)) (fun _ _ _ _ _ => pg_name (i := 3) scNames.nd rfl (Or.inl rfl)) (fun _ _ _ _ _ => pts_nil) (fun _ _ _ _ _ => (pe_call (ok_law_draw T) (hr.mono (by decide)) (by rfl) T.g_law_draw T.F_law_draw.kp T.b_law_draw .nil pass0 (pa_cons (pv 0) (pa_cons pe_int pa_nil)))))
      (pss_cut (ps_par (i := 5) (j := 6) rfl scNames.nd rfl rfl (by decide) rfl rfl (pa_cons (pe_call (ok_law_draw T) (hr.mono (by decide)) (by rfl) T.g_law_draw T.F_law_draw.kp T.b_law_draw .nil pass0 (pa_cons (pv 0) (pa_cons (pe_callB call_len_seq (by rfl) T.mlen PySem.boot_len (pa_cons (pv 4) pa_nil)) pa_nil))) (pa_cons (pe_call (ok_law_draw T) (hr.mono (by decide)) (by rfl) T.g_law_draw T.F_law_draw.kp T.b_law_draw .nil pass0 (pa_cons (pv 0) (pa_cons pe_int pa_nil))) pa_nil)) (by rfl))
      (pss_cons (ps_set (i := 7) scNames.nd rfl (.inl rfl) (pe_lst pa_nil))
      (pss_cons (ps_for PassesOwn.never rfl (pi_range1 (by rfl) T.mrange (pa_cons (pv 1) pa_nil)) (pg_name (i := 3) scNames.nd rfl (.inl rfl))
      (pss_cons (ps_set (i := 8) scNames.nd rfl (.inl rfl) (pe_callTy call_list_of (by rfl) T.mlist (by decide +kernel) (pa_cons (pv 4) pa_nil)))
      (pss_cons (ps_asg (pe_op op_modN (pe_op op_add (pe_ix ix_list (pv 4) (pv 5) (fun _ _ => rfl)) (pe_op op_mul pe_int (pv 3))) pe_int) (pg_sub (pv 8) (pv 5) set_list))
      (pss_cons (ps_set (i := 9) scNames.nd rfl (.inl rfl) (pe_join pe_str (pe_lc (own := [("_law_one", 10)]) (g := gName 10) (tt := tYes) rfl scNames.nd (pi_list (pv 8)) (blkOk_by (N := NNames) (own := [("_law_one", 10)]) (sc := defScope sNames) (by decide +kernel)) (fun _ _ _ _ _ => pg_name (i := 10) scNames.nd rfl (Or.inl rfl)) (fun _ _ _ _ _ => pts_nil) (fun _ _ _ _ _ => (pe_ix ix_str (pv 2) (pv 10) (fun _ _ => rfl))))))
      (pss_one (ps_expr (pe_bm PySem.F.plainAttrs_list PySem.F.slot_list_append PySem.F.type_list_append mt_append (pv 7) (pa_cons (pe_slice sl_str (pv 9) po_none (po_some (pe_callB (call_max2 rfl) (by rfl) T.mmax (by decide +kernel) (pa_cons (pe_op op_add (pv 5) pe_int) (pa_cons (pe_op op_sub (pe_callB call_len_str (by rfl) T.mlen PySem.boot_len (pa_cons (pv 9) pa_nil)) (pe_op op_mul (pv 6) (pe_op op_modN (pv 3) pe_int))) pa_nil))))) pa_nil))))))))
      (pss_one (ps_ret (pv 7))))))))
      , ?_⟩
    refine ⟨fun σ H' => ∃ (sp : Addr) (ns : List Int), ns.length ≤ 8 ∧ 0 < ns.length ∧ In26 ns ∧ σ = [some (.ref a), some (.int (m : Int)), some (.str abc), none, some (.ref sp), none, none, none, none, none, none] ∧ H' sp = some (.lst (ns.map V.int)) ∧ sp ≠ a ∧ H sp = none ∧ Tape H' a c (n + 9) ∧ Keep a H H', ?_, ?_⟩
    · walk_at "s"
      refine dr 8 hT (by omega) (by omega) (by omega) fun d8 H1 d80 d81 T1 k1 => ?_
      walk_at "s"
      intro D nD
      have nDa := T1.ne nD
      have nDc := T1.nec nD
      refine lc_range (lo := 0) (n := (1 + d8).toNat) (fun i H' => ∃ ns : List Int, ns.length = i ∧ In26 ns ∧ H' D = some (.lst (ns.map V.int)) ∧ Tape H' a c (n + 1 + i) ∧ Keep a H H')
        ⟨[], rfl, fun y hy => (by cases hy), upd_same, T1.new nD, k1.new nD⟩ ?_ ?_
      · rintro i H' hi ⟨ns, ln, hin, eD, Ti, ki⟩
        walk_at "s"
        refine dr 26 Ti (by omega) (by omega) (by omega) fun d H4 d0 d1 T4 k4 => ?_
        refine ⟨_, k4 _ _ nDa eD, by rw [List.length_map]; exact Nat.lt_of_lt_of_le (show ns.length < 100 by omega) (small_line (by decide)), ns ++ [d], by rw [List.length_append, ln]; rfl, ?_, by rw [upd_same, List.map_append]; rfl, (T4.upd nDa nDc).mono (by omega), fun x o nx e => ?_⟩
        · intro y hy
          rcases List.mem_append.mp hy with hy | hy
          · exact hin y hy
          · rw [List.mem_singleton.mp hy]; exact ⟨d0, d1⟩
        · rw [upd_ne (ne_of_none (k1 x o nx e) nD)]; exact k4 x o nx (ki x o nx e)
      · rintro H' ⟨ns, ln, hin, eD, Ti, ki⟩
        exact ⟨D, ns, by omega, by omega, hin, rfl, eD, nDa, k1.free nD nDa, Ti.mono (by omega), ki⟩
    rintro σ H2 ⟨sp, ns, h8, h0, hin, rfl, es, nsa, hs0, T2, k2⟩
    refine ⟨fun σ H' => ∃ (pl : Nat) (sh : Int), pl < ns.length ∧ (0 ≤ sh ∧ sh < 2) ∧ σ = [some (.ref a), some (.int (m : Int)), some (.str abc), none, some (.ref sp), some (.int (pl : Int)), some (.int sh), none, none, none, none] ∧ H' sp = some (.lst (ns.map V.int)) ∧ Tape H' a c (n + 11) ∧ Keep a H H', ?_, ?_⟩
    · walk_at "s"
      refine ⟨sp, _, rfl, .inl (SqL.of es), ?_⟩
      rw [List.length_map]
      walk_at "s"
      refine dr (ns.length : Nat) T2 (by omega) (by omega) (by omega) fun d5 H3 d50 d51 T3 k3 => ?_
      walk_at "s"
      refine dr 2 T3 (by omega) (by omega) (by omega) fun d6 H4 d60 d61 T4 k4 => ?_
      walk_at "s"
      obtain ⟨pl, rfl⟩ := Int.eq_ofNat_of_zero_le d50
      exact ⟨pl, d6, by omega, ⟨d60, d61⟩, rfl, k4 _ _ nsa (k3 _ _ nsa es), T4.mono (by omega), (k2.trans k3).trans k4⟩
    rintro σ H3 ⟨pl, sh, hpl, hsh, rfl, es3, T3, k3⟩
    refine ⟨Nat.zero_le _, fun f hf => ?_⟩
    walk_at "s"
    have nfa := T3.ne hf
    have nfc := T3.nec hf
    have nsf : sp ≠ f := ne_of_none es3 hf
    refine for_range (lo := 0) (n := m) (fun i σ H' => ∃ (w3 w8 w9 w10 : Option V), σ = [some (.ref a), some (.int (m : Int)), some (.str abc), w3, some (.ref sp), some (.int (pl : Int)), some (.int sh), some (.ref f), w8, w9, w10] ∧ H' sp = some (.lst (ns.map V.int)) ∧ H' f = some (.lst ((namesOf ns pl sh i).map V.str)) ∧ Tape H' a c (n + 11) ∧ Keep a H H')
      ⟨_, _, _, _, rfl, upd_at hf es3, upd_same, T3.new hf, k3.new hf⟩ ?_ ?_
    · rintro i σ H4 hi ⟨w3, w8, w9, w10, rfl, es4, ef4, T4, k4⟩
      walk_at "s"
      refine ⟨sp, _, rfl, .inl (SqL.of es4), fun tp htp => ?_⟩
      have es5 := upd_at (o := .lst (ns.map V.int)) htp es4
      have ef5 := upd_at (o := .lst (ns.map V.int)) htp ef4
      have T5 := T4.new (o := .lst (ns.map V.int)) htp
      have k5 := k4.new (o := .lst (ns.map V.int)) htp
      have nst : sp ≠ tp := ne_of_none es4 htp
      have nft : f ≠ tp := ne_of_none ef4 htp
      walk_at "s"
      refine ⟨sp, _, (pl : Int), .int (ns.getD pl 0), rfl, rfl, SqL.of es5, atI_nat ?_, ?_⟩
      · rw [List.getElem?_map, List.getElem?_eq_getElem hpl]; simp [List.getD, hpl]
      walk_at "s"
      refine ⟨tp, _, (pl : Int), pl, rfl, rfl, upd_same, ?_, ?_⟩
      · rw [List.length_map]; exact ixN_nat hpl
      rw [upd_upd]
      have em : (ns.map V.int).set pl (V.int ((ns.getD pl 0 + 7 * (0 + (i : Int))).fmod 26)) = ((ns.set pl ((ns.getD pl 0 + 7 * (i : Int)).fmod 26)).map V.int) := by rw [List.map_set, Int.zero_add]
      show _root_.id _
      dsimp only [id]
      rw [em]
      have hms : In26 (ns.set pl ((ns.getD pl 0 + 7 * (i : Int)).fmod 26)) := fun z hz => by
        rcases List.mem_or_eq_of_mem_set hz with z1 | z1
        · exact hin z z1
        · rw [z1]; exact fmod_in (by decide)
      have hml : (ns.set pl ((ns.getD pl 0 + 7 * (i : Int)).fmod 26)).length = ns.length := List.length_set ..
      have hnm : nameK ns pl sh i = cutS (lettered (ns.set pl ((ns.getD pl 0 + 7 * (i : Int)).fmod 26))) none (some (max ((pl : Int) + 1) (((ns.length : Nat) : Int) - sh * (i : Int).fmod 3))) := rfl
      generalize ns.set pl ((ns.getD pl 0 + 7 * (i : Int)).fmod 26) = ms at hms hml hnm
      have s1 : Same H4 (upd H4 tp (.lst (ms.map V.int))) := same_upd htp
      have e5 : (upd H4 tp (.lst (ms.map V.int))) tp = some (.lst (ms.map V.int)) := upd_same
      generalize upd H4 tp (.lst (ms.map V.int)) = H5 at s1 e5
      walk_at "s"
      refine ⟨⟨_, SqL.of e5⟩, fun D hD => ?_⟩
      refine lc_list (K := K) (a := tp) (xs := ms.map V.int) (fun j H' => H' D = some (.lst (((ms.take j).map fun i => (⟨#[97 + i.toNat]⟩ : Str)).map V.str)) ∧ Same H5 H') ⟨upd_same, same_upd hD⟩ (fun j H' _ z => SqL.of (z.2 _ _ e5)) ?_ ?_
      · rintro j x H' hx ⟨eD, sj⟩
        rw [List.getElem?_map] at hx
        cases hz : ms[j]? with
        | none => rw [hz] at hx; cases hx
        | some z =>
          rw [hz] at hx; cases hx
          have hzm := hms z (List.mem_of_getElem? hz)
          have hj : j < ms.length := (List.getElem?_eq_some_iff.mp hz).1
          obtain ⟨zn, rfl⟩ := Int.eq_ofNat_of_zero_le hzm.1
          walk_at "s"
          refine ⟨_, _, 97 + zn, rfl, rfl, small_line (by decide), atI_nat (letter_at (by omega)), _, eD, lt_line (by rw [List.length_map, List.length_map, List.length_take]; omega), ?_, app_same hD sj⟩
          rw [upd_same, List.take_succ, hz, List.map_append, List.map_append]
          rfl
      · rintro H' ⟨eD, sj⟩
        walk_at "s"
        rw [List.length_map, List.take_length] at eD
        refine ⟨Str.empty, D, ms.map fun i => (⟨#[97 + i.toNat]⟩ : Str), rfl, rfl, .inl (SqL.of eD), ?_, ?_⟩
        · have : ∀ l : List Int, ((l.map fun i => (⟨#[97 + i.toNat]⟩ : Str)).map (·.length)).sum = l.length := fun l => by
            induction l with
            | nil => rfl
            | cons z r ih => rw [List.map_cons, List.map_cons, List.sum_cons, ih, List.length_cons]; show 1 + r.length = _; omega
          rw [this, List.length_map]; show ms.length + ms.length * 0 ≤ 16777216; omega
        show _root_.id _
        dsimp only [id]
        walk_at "s"
        have ef6 := sj _ _ (s1 _ _ ef4)
        have hll := lettered_len ms
        refine ⟨.inl ⟨rfl, _, SqL.of ef6⟩, ?_⟩
        walk_at "s"
        have f3 := fmod_in (a := (i : Int)) (b := 3) (by decide)
        refine ⟨le_line (by show (lettered ms).length ≤ 100000; omega), ?_⟩
        walk_at "s"
        refine ⟨le_line (by show (lettered ms).length ≤ 100000; omega), ?_⟩
        walk_at "s"
        refine ⟨f, _, _, rfl, rfl, ef6, lt_line (by unfold namesOf; rw [List.length_map, List.length_map, List.length_range]; omega), ?_⟩
        have es6 := sj _ _ (s1 _ _ es4)
        refine ⟨_, _, _, _, rfl, by rw [upd_ne nsf]; exact es6, ?_, ((T4.same s1).same sj).upd nfa nfc, app_keep (k3.free hf nfa |> fun z => z) ((k4.same s1).same sj)⟩
        rw [upd_same]
        unfold namesOf
        rw [List.range_succ, List.map_append, List.map_append]
        congr 4
        rw [hnm]
        show V.str (cutS (lettered ms) none (some (if ((lettered ms).length : Int) - sh * (0 + (i : Int)).fmod 3 > (pl : Int) + 1 then ((lettered ms).length : Int) - sh * (0 + (i : Int)).fmod 3 else (pl : Int) + 1))) = _
        rw [hll, hml, Int.zero_add, max_if]
    · rintro σ H4 ⟨w3, w8, w9, w10, rfl, es4, ef4, T4, k4⟩
      exact ⟨_, rfl, q f _ H4 (by unfold namesOf; rw [List.length_map, List.length_range]) (fun z hz => by
        obtain ⟨i, hi, rfl⟩ := List.mem_map.mp hz
        exact ⟨nameK_low h8 hin hpl, nameK_pos hin hpl hsh⟩) (namesOf_nodup hin hpl hsh hm) ef4 nfa (k3.free hf nfa) T4 k4⟩
end
/-! ### drawn waits -/
def WOk (x : Wt) : Prop := LowN 8 x.1 ∧ ∀ i, x.2 = some i → 0 ≤ i ∧ i < 1000000000
def spWaited (K : PySem.W.Frag) : Sp := fun vs H Q _ => ∃ (a c : Addr) (b : Bool) (n : Nat), vs = [.ref a, .bl b] ∧ n < 800000 ∧ Tape H a c n ∧
  ∀ (p : Addr) (xs : List V) (ws : List Wt) H', ws.length ≤ 150 → DpAll K H' xs (ws.map wD) → H' p = some (.lst xs) → p ≠ a → (∀ x ∈ ws, WOk x) → Tape H' a c (n + 800) → Keep a H H' → Q (.ref p) H'
theorem wts_keep {K : PySem.W.Frag} {F : Addr} {H H' : Hp} {ys xs : List V} {ws : List Wt} (h : DpAll K H xs (ws.map wD)) (hT : H F = some (.lst ys)) (s : Keep F H H') : DpAll K H' xs (ws.map wD) := dps_keep h hT s (noLs_map _ wD_noL ws)
theorem dp_wD {K : PySem.W.Frag} {H : Hp} {t : Addr} {z : Str} {o : Option Int} (h : H t = some (.tup [.str z, wV o])) : Dp K H (.ref t) (wD (z, o)) := by
  refine .tup (SqT.of h) (.cons (.str z) (.cons ?_ .nil))
  cases o with
  | none => exact .non
  | some i => exact .int i
section
variable {P : Program} {w : World} {K : PySem.W.Frag} {mg : Str → Option Value} {base : Heap} (T : Ev K mg)
theorem ok_law_waited : FnOk P w K mg base CX0 3 T.f_law_waited T.fd_law_waited ["_law_feed_here", "_law_ends"] (spWaited K) := by
  refine T.F_law_waited.ok scWaited (fun vs H Q E h => ?_) (fun cdv A outer s H vs Q E hr h => ?_)
  · obtain ⟨a, c, b, n, rfl, _⟩ := h
    rfl
  · obtain ⟨a, c, b, n, rfl, hn, hT, q⟩ := h
    refine ⟨_,
      (pss_cut (ps_set (i := 2) scWaited.nd rfl (.inl rfl) (pe_call (ok_law_names T) (hr.mono (by decide)) (by rfl) T.g_law_names T.F_law_names.kp T.b_law_names .nil pass0 (pa_cons (pv 0) (pa_cons (pe_op op_add pe_int (pe_call (ok_law_draw T) (hr.mono (by decide)) (by rfl) T.g_law_draw T.F_law_draw.kp T.b_law_draw .nil pass0 (pa_cons (pv 0) (pa_cons pe_int pa_nil)))) pa_nil))))
      (pss_cons (ps_set (i := 3) scWaited.nd rfl (.inl rfl) (pe_lst pa_nil))
      (pss_cons (ps_for PassesOwn.never rfl (pi_range1 (by rfl) T.mrange (pa_cons (pe_call (ok_law_draw T) (hr.mono (by decide)) (by rfl) T.g_law_draw T.F_law_draw.kp T.b_law_draw .nil pass0 (pa_cons (pv 0) (pa_cons (pe_call (ok_law_of T) (hr.mono (by decide)) (by rfl) T.g_law_of T.F_law_of.kp T.b_law_of .nil pass0 (pa_cons (pv 0) (pa_cons (pe_lst (pa_cons pe_int (pa_cons pe_int (pa_cons pe_int pa_nil)))) pa_nil))) pa_nil))) pa_nil)) (pg_name (i := 4) scWaited.nd rfl (.inl rfl))
      (pss_cons (ps_set (i := 5) scWaited.nd rfl (.inl rfl) (pe_call (ok_law_of T) (hr.mono (by decide)) (by rfl) T.g_law_of T.F_law_of.kp T.b_law_of .nil pass0 (pa_cons (pv 0) (pa_cons (pe_lst (pa_cons pe_non (pa_cons pe_int (pa_cons pe_int (pa_cons (pe_call (ok_law_draw T) (hr.mono (by decide)) (by rfl) T.g_law_draw T.F_law_draw.kp T.b_law_draw .nil pass0 (pa_cons (pv 0) (pa_cons pe_int pa_nil))) (pa_cons (pe_call (ok_law_draw T) (hr.mono (by decide)) (by rfl) T.g_law_draw T.F_law_draw.kp T.b_law_draw .nil pass0 (pa_cons (pv 0) (pa_cons (pe_op op_pow pe_int pe_int) pa_nil))) pa_nil)))))) pa_nil))))
      (pss_one (ps_expr (pe_bm PySem.F.plainAttrs_list PySem.F.slot_list_append PySem.F.type_list_append mt_append (pv 3) (pa_cons (pe_tup (pa_cons (pe_call (ok_law_of T) (hr.mono (by decide)) (by rfl) T.g_law_of T.F_law_of.kp T.b_law_of .nil pass0 (pa_cons (pv 0) (pa_cons (pv 2) pa_nil))) (pa_cons (pe_ifExp (pt_val (pv 1)) (pv 5) pe_non) pa_nil))) pa_nil))))))
      (pss_one (ps_ret (pv 3))))))
      , ?_⟩
    refine ⟨fun σ H' => ∃ (np : Addr) (zs : List Str), 0 < zs.length ∧ zs.length ≤ 10 ∧ (∀ z ∈ zs, LowN 8 z) ∧ σ = [some (.ref a), some (.bl b), some (.ref np), none, none, none] ∧ H' np = some (.lst (zs.map V.str)) ∧ np ≠ a ∧ Tape H' a c (n + 12) ∧ Keep a H H', ?_, ?_⟩
    · walk_at "s"
      refine dr 6 hT (by omega) (by omega) (by omega) fun d H1 d0 d1 T1 k1 => ?_
      obtain ⟨dn, rfl⟩ := Int.eq_ofNat_of_zero_le d0
      walk_at "s"
      refine ⟨a, c, 1 + dn, n + 1, by rw [Int.natCast_add]; rfl, by omega, by omega, T1, fun p zs H2 lz hz _ ez npa _ T2 k2 => ?_⟩
      walk_at "s"
      exact ⟨p, zs, by omega, by omega, fun z m => (hz z m).1, rfl, ez, npa, T2, k1.trans k2⟩
    rintro σ H1 ⟨np, zs, lz0, lz1, hz, rfl, en, nna, T1, k1⟩
    refine ⟨Nat.zero_le _, fun f hf => ?_⟩
    walk_at "s"
    have nfa := T1.ne hf
    have nfc := T1.nec hf
    have hf0 := k1.free hf nfa
    have en2 := upd_at (o := .lst []) hf en
    have nnf : np ≠ f := ne_of_none en hf
    have T2 := T1.new (o := .lst []) hf
    have k2 := k1.new (o := .lst []) hf
    intro l hl
    walk_at "s"
    refine pkn T2 (by decide) (by decide) (by omega) (fun x H3 hx T3 k3 => ?_) l hl
    have hx2 : ∃ z : Int, x = .int z ∧ 0 < z ∧ z ≤ 151 := by
      simp only [List.mem_cons, List.not_mem_nil, or_false] at hx
      rcases hx with rfl | rfl | rfl <;> exact ⟨_, rfl, by decide, by decide⟩
    obtain ⟨z, rfl, hz0, hz1⟩ := hx2
    walk_at "s"
    refine dr z T3 (by omega) (by omega) (by omega) fun d H4 d0 d1 T4 k4 => ?_
    walk_at "s"
    have k24 := k3.trans k4
    refine for_range (lo := 0) (n := d.toNat) (fun i σ H' => ∃ (w4 w5 : Option V) (xs : List V) (ws : List Wt), σ = [some (.ref a), some (.bl b), some (.ref np), some (.ref f), w4, w5] ∧ H' f = some (.lst xs) ∧ DpAll K H' xs (ws.map wD) ∧ ws.length = i ∧ (∀ x ∈ ws, WOk x) ∧ H' np = some (.lst (zs.map V.str)) ∧ Tape H' a c (n + 14 + 4 * i) ∧ Keep a H H')
      ⟨none, none, [], [], rfl, k24 _ _ nfa upd_same, .nil, rfl, fun x h => (by cases h), k24 _ _ nna en2, T4, k2.trans k24⟩ ?_ ?_
    · rintro i σ H5 hi ⟨w4, w5, xs, ws, rfl, ef, hd, li, hok, en5, T5, k5⟩
      walk_at "s"
      refine dr 6 T5 (by omega) (by omega) (by omega) fun e H6 e0 e1 T6 k6 => ?_
      walk_at "s"
      refine dr (10 ^ 9) T6 (by decide) (by decide) (by omega) fun g H7 g0 g1 T7 k7 => ?_
      walk_at "s"
      intro l2 hl2
      walk_at "s"
      refine pkn T7 (by exact Nat.le_of_ble_eq_true rfl) (by exact Nat.le_of_ble_eq_true rfl) (by omega) (fun x H8 hx T8 k8 => ?_) l2 hl2
      have hx2 : ∃ o : Option Int, x = wV o ∧ ∀ i, o = some i → 0 ≤ i ∧ i < 1000000000 := by
        simp only [List.mem_cons, List.not_mem_nil, or_false] at hx
        rcases hx with rfl | rfl | rfl | rfl | rfl
        · exact ⟨none, rfl, fun i h => by cases h⟩
        · exact ⟨some _, rfl, fun i h => by cases h; decide⟩
        · exact ⟨some _, rfl, fun i h => by cases h; decide⟩
        · exact ⟨some _, rfl, fun i h => by cases h; omega⟩
        · exact ⟨some _, rfl, fun i h => by cases h; exact ⟨g0, g1⟩⟩
      obtain ⟨o, rfl, ho⟩ := hx2
      have k58 := (k6.trans k7).trans k8
      walk_at "s"
      refine ⟨.inl ⟨rfl, _, SqL.of (k58 _ _ nfa ef)⟩, ?_⟩
      walk_at "s"
      refine pk T8 (k58 _ _ nna en5) nna (by rw [List.length_map]; exact lz0) (by rw [List.length_map]; omega) (by omega) fun y H9 hy T9 k9 => ?_
      obtain ⟨z, hzm, rfl⟩ := List.mem_map.mp hy
      walk_at "s"
      have fin : ∀ (o2 : Option Int) (t : Addr), (∀ i, o2 = some i → 0 ≤ i ∧ i < 1000000000) → H9 t = none → ∃ (w4' w5' : Option V) (xs' : List V) (ws' : List Wt), [some (.ref a), some (.bl b), some (.ref np), some (.ref f), some (.int (0 + (i : Int))), some (wV o)] = [some (.ref a), some (.bl b), some (.ref np), some (.ref f), w4', w5'] ∧
          (upd (upd H9 t (.tup [.str z, wV o2])) f (.lst (xs ++ [.ref t]))) f = some (.lst xs') ∧ DpAll K (upd (upd H9 t (.tup [.str z, wV o2])) f (.lst (xs ++ [.ref t]))) xs' (ws'.map wD) ∧ ws'.length = i + 1 ∧ (∀ x ∈ ws', WOk x) ∧ (upd (upd H9 t (.tup [.str z, wV o2])) f (.lst (xs ++ [.ref t]))) np = some (.lst (zs.map V.str)) ∧ Tape (upd (upd H9 t (.tup [.str z, wV o2])) f (.lst (xs ++ [.ref t]))) a c (n + 14 + 4 * (i + 1)) ∧ Keep a H (upd (upd H9 t (.tup [.str z, wV o2])) f (.lst (xs ++ [.ref t]))) := by
        intro o2 t ho2 ht
        have k59 := (k58.trans k9).new (o := .tup [.str z, wV o2]) ht
        obtain ⟨ys, hTa⟩ := T5.tape
        have ntf : t ≠ f := (ne_of_none (k58.trans k9 _ _ nfa ef) ht).symm
        have hfl : (upd H9 t (.tup [.str z, wV o2])) f = some (.lst xs) := k59 _ _ nfa ef
        have up : ∀ q ys, SqT K H5 q ys → SqT K (upd (upd H9 t (.tup [.str z, wV o2])) f (.lst (xs ++ [.ref t]))) q ys := fun q ys hq => by
          have h1 := sqT_keep hTa hq k59
          rcases h1 with (h1 | ⟨o, h1⟩) | h1
          · exact .inl (.inl (by rw [upd_ne (ne_of h1 hfl (by intro z; cases z))]; exact h1))
          · exact .inl (.inr ⟨o, by rw [upd_ne (ne_of h1 hfl (by intro z; cases z))]; exact h1⟩)
          · exact .inr h1
        refine ⟨_, _, xs ++ [.ref t], ws ++ [(z, o2)], rfl, upd_same, ?_, by rw [List.length_append, li]; rfl, ?_, ?_, ?_, ?_⟩
        · rw [List.map_append]
          exact dps_app (dps_tups up _ _ (noLs_map _ wD_noL ws) hd) (.cons (dp_wD (by rw [upd_ne ntf]; exact upd_same)) .nil)
        · intro x hx
          rcases List.mem_append.mp hx with hx | hx
          · exact hok x hx
          · rw [List.mem_singleton.mp hx]; exact ⟨hz z hzm, ho2⟩
        · rw [upd_ne nnf]; exact k59 _ _ nna en5
        · exact ((T9.new ht).upd nfa nfc).mono (by omega)
        · exact app_keep hf0 (k5.trans k59)
      have efl : xs.length < 1000 := by
        have := dps_len hd
        rw [List.length_map, li] at this; omega
      cases b with
      | true =>
        refine iteT ?_
        walk_at "s"
        intro t ht
        walk_at "s"
        refine ⟨f, _, _, rfl, rfl, upd_at ht (k58.trans k9 _ _ nfa ef), lt_line (by omega), ?_⟩
        exact fin o t ho ht
      | false =>
        refine iteF ?_
        walk_at "s"
        intro t ht
        walk_at "s"
        refine ⟨f, _, _, rfl, rfl, upd_at ht (k58.trans k9 _ _ nfa ef), lt_line (by omega), ?_⟩
        exact fin none t (fun i h => by cases h) ht
    · rintro σ H5 ⟨w4, w5, xs, ws, rfl, ef, hd, li, hok, en5, T5, k5⟩
      walk_at "s"
      exact q f xs ws H5 (by omega) hd ef nfa hok (T5.mono (by omega)) k5
end
/-! ### try: x = f(..) -/
def tbSet (sp : Sp) (t : TA) (j : Nat) : WX → TS := fun W => tAsg (tCallSD sp [] (fun σ cls d H' => W cls d σ H') t) (gName j)
theorem i_set {sp : Sp} {t : TA} {j : Nat} {W : WX} {D : Ends} {σ : L2.St} {H : Hp} (h : t σ H fun vs H1 => sp (vs ++ []) H1 (fun v H2 => D.nx (σ.set j (some v)) H2) fun cls d H' => W cls d σ H') : tbSet sp t j W D σ H := h
theorem kit_upN {K : PySem.W.Frag} {C : Addr} {S : String} (m : PySem.W.kitMeta S = true) (s : PySem.W.subIn K (.ref C) (.type S) = some false) : PySem.W.kitOne K (.ref C) (.type S) = some false := by
  show (if (Value.ref C == Value.type S) = true then some true else if PySem.W.kitMeta S = true then PySem.W.subIn K (.ref C) (.type S) else none) = some false
  rw [if_neg (by intro z; cases z), if_pos m]
  exact s
theorem passF {X : Cx} {P : Program} {w : World} (hP : X.prog = P) (hw : X.w = w) : Passes (L2.CX P w) X E0 := fun pins σ H s e s' I h => passNo (σ := σ) hP hw pins H s e s' I h
def qrD (q r : Int) : PyData := .tuple [.int q, .int r]
def refD (n : Int) : PyData := .tuple [.str "refused", .list [.bool true, .bool true, .bool false], .int n]
def meanD (ws : List Wt) : PyData := if ends ws = [] then refD (ws.length : Nat) else qrD ((ends ws).sum / ((ends ws).length : Int)) ((ends ws).sum % ((ends ws).length : Int))
theorem ends_in {ws : List Wt} (h : ∀ x ∈ ws, WOk x) : ∀ i ∈ ends ws, 0 ≤ i ∧ i < 1000000000 := fun i hi => by
  unfold ends at hi
  obtain ⟨x, hx, e⟩ := List.mem_filterMap.mp hi
  exact (h x hx).2 i e
theorem sum_in : ∀ l : List Int, (∀ i ∈ l, 0 ≤ i ∧ i < 1000000000) → 0 ≤ l.sum ∧ l.sum ≤ (l.length : Int) * 999999999
  | [], _ => by simp
  | x :: r, h => by
    have h1 := h x List.mem_cons_self
    have h2 := sum_in r fun i hi => h i (List.mem_cons_of_mem _ hi)
    rw [List.sum_cons, List.length_cons, Int.natCast_add, Int.add_mul]
    omega
theorem mean_in {ws : List Wt} (h : ∀ x ∈ ws, WOk x) (n : ends ws ≠ []) (l : ws.length ≤ 1000) : ((ends ws).sum / ((ends ws).length : Int)).natAbs < 10000000000 ∧ ((ends ws).sum % ((ends ws).length : Int)).natAbs < 10000000000 := by
  have hs := sum_in _ (ends_in h)
  have hel : (ends ws).length ≤ ws.length := List.length_filterMap_le _ _
  have hpos : 0 < (ends ws).length := List.length_pos_iff.mpr n
  generalize (ends ws).sum = S at hs
  generalize (ends ws).length = L at hs hel hpos
  have p : (0 : Int) < L := by omega
  have a1 := Int.ediv_nonneg hs.1 (Int.le_of_lt p)
  have a2 : S / (L : Int) ≤ 999999999 := Int.ediv_le_of_le_mul p (by rw [Int.mul_comm]; exact hs.2)
  have a3 := Int.emod_nonneg S (show (L : Int) ≠ 0 by omega)
  have a4 := Int.emod_lt_of_pos S p
  omega
theorem line1000 {n : Nat} (h : n ≤ 1000) : n ≤ sizeLine := Nat.le_trans h (by decide)
theorem qr_facts {q r : Int} (h1 : q.natAbs < 10000000000) (h2 : r.natAbs < 10000000000) : SeqAt.shaped (qrD q r) = true ∧ (qrD q r).showable = true ∧ (qrD q r).shown.length ≤ sizeLine := by
  refine ⟨?_, ?_, ?_⟩
  · show ((true && true) && decide _) = true
    simp [qrD, PyData.depth, PyData.depthAll]
  · simp [qrD, PyData.showable, PyData.showableAll, logs h1, logs h2]
  · have e : (qrD q r).shown = tupleText [Str.ofString (toString q), Str.ofString (toString r)] := by simp [qrD, PyData.shown, PyData.shownAll]
    rw [e]
    have h3 := PySem.fmt_text [Str.ofString (toString q), Str.ofString (toString r)]
    have := small10 h1
    have := small10 h2
    rw [piled_cons, piled_cons, piled_nil] at h3
    exact line1000 (by omega)
theorem ref_facts {n : Int} (h : n.natAbs < 10000000000) : SeqAt.shaped (refD n) = true ∧ (refD n).showable = true ∧ (refD n).shown.length ≤ sizeLine := by
  refine ⟨?_, ?_, ?_⟩
  · show ((PyData.strOk "refused" && ((true && (true && (true && true))) && (true && true))) && decide _) = true
    rw [show PyData.strOk "refused" = true by decide +kernel]
    simp [refD, PyData.depth, PyData.depthAll]
  · simp [refD, PyData.showable, PyData.showableAll, logs h]
  · have e : (refD n).shown = tupleText [reprText "refused", (PyData.list [.bool true, .bool true, .bool false]).shown, Str.ofString (toString n)] := by simp [refD, PyData.shown, PyData.shownAll]
    rw [e]
    have h3 := PySem.fmt_text [reprText "refused", (PyData.list [.bool true, .bool true, .bool false]).shown, Str.ofString (toString n)]
    have h4 : (reprText "refused").length = 9 := by decide +kernel
    have h5 : (PyData.list [.bool true, .bool true, .bool false]).shown.length ≤ 50 := by decide +kernel
    have := small10 h
    rw [piled_cons, piled_cons, piled_cons, piled_nil, h4] at h3
    exact line1000 (by omega)
def spLMean (K : PySem.W.Frag) : Sp := fun vs H Q _ => ∃ (p : Addr) (xs : List V) (ws : List Wt), vs = [.ref p] ∧ SqL K H p xs ∧ DpAll K H xs (ws.map wD) ∧ ws.length ≤ 1000 ∧ (∀ x ∈ ws, WOk x) ∧ ∀ H', Same H H' → Q (.str (meanD ws).shown) H'
section
variable {P : Program} {w : World} {K : PySem.W.Frag} {mg : Str → Option Value} {base : Heap} (T : Ev K mg)
theorem nw_ec : ExcC K T.CNoWaits := ⟨T.gaNoWaits, T.ggNoWaits, T.exNoWaits, T.hdNoWaits, T.haNoWaits, T.hnNoWaits, T.htNoWaits, T.hmNoWaits⟩
theorem ok_law_mean : FnOkG P w K mg base CX0 5 T.f_law_mean T.fd_law_mean ["_law_some"] (spLMean K) := by
  refine okG T.F_law_mean scLMean (fun vs H Q E h => ?_) (fun cdv A outer s H vs Q E gd hr h => ?_)
  · obtain ⟨p, xs, ws, rfl, _⟩ := h
    rfl
  · obtain ⟨p, xs, ws, rfl, hp, hw, hl, hok, q⟩ := h
    refine ⟨_,
      (pss_cons (ps_asg (pe_tup (pa_cons pe_non (pa_cons pe_non pa_nil))) (pg_tup rfl (pgs_cons (pg_name (i := 1) scLMean.nd rfl (.inl rfl)) (pgs_cons (pg_name (i := 2) scLMean.nd rfl (.inl rfl)) pgs_nil))))
      (pss_cons (ps_try_keep (i := 3) (tb := (tbSet (spMean K T.CNoWaits) (tCons (tVar 0) tNil) 1)) (ts := fun _ _ _ => tAsg (tVar 3) (gName 2)) rfl rfl rfl scLMean.nd rfl rfl ⟨rfl, by decide, .inl T.gCNoWaits⟩
      (fun W pn xe tk _ => pss_imp (pss_one (ps_set (i := 1) scLMean.nd rfl (.inl rfl) (pe_callSD (okmean_wait T) (hr.mono (by decide)) (by rfl) T.gmean_wait T.Fmean_wait.kp T.bmean_wait .nil (fun σ => passAt tk σ) (by exact (pa_cons (pv 0) pa_nil))))) ?imp)
      (fun a cls d pn => pss_one (ps_set (i := 2) scLMean.nd rfl (Or.inl rfl) (pv 3))))
      (pss_cons (ps_if (pt_cmpR op_isN (pv 2) pe_non (nomark _))
      (pss_one (ps_ret (pe_callB (call_reprD gd hr) (by rfl) T.mrepr (by decide +kernel) (pa_cons (pv 1) pa_nil))))
      pss_nil)
      (pss_cons (ps_set (i := 4) scLMean.nd rfl (.inl rfl) (pe_lst (pa_cons (pe_callB call_isO (by rfl) T.misinstance (by decide +kernel) (pa_cons (pv 2) (pa_cons (pe_bltn (v := .ty "ZeroDivisionError") (u := .type "ZeroDivisionError") (by rfl) T.mZeroDivisionError (by decide +kernel) rfl) pa_nil))) (pa_cons (pe_callB call_isO (by rfl) T.misinstance (by decide +kernel) (pa_cons (pv 2) (pa_cons (pe_bltn (v := .ty "ArithmeticError") (u := .type "ArithmeticError") (by rfl) T.mArithmeticError (by decide +kernel) rfl) pa_nil))) (pa_cons (pe_callB call_isO (by rfl) T.misinstance (by decide +kernel) (pa_cons (pv 2) (pa_cons (pe_bltn (v := .ty "ValueError") (u := .type "ValueError") (by rfl) T.mValueError (by decide +kernel) rfl) pa_nil))) pa_nil)))))
      (pss_one (ps_ret (pe_callB (call_reprD gd hr) (by rfl) T.mrepr (by decide +kernel) (pa_cons (pe_tup (pa_cons pe_str (pa_cons (pv 4) (pa_cons (pe_fldX (pv 2) rfl) pa_nil)))) pa_nil))))))))
      , ?main⟩
    case imp => exact fun D σ H h => h
    case main =>
      walk_at "s"
      intro t0 ht0
      refine ⟨t0, _, rfl, SqT.of upd_same, rfl, ?_⟩
      walk_at "s"
      have s0 : Same H (upd H t0 (.tup [.non, .non])) := same_upd ht0
      refine ⟨p, xs, ws, rfl, sqL_same hp s0, dps_same s0 _ _ hw, hl, fun he t H1 s1 et => ?_, fun he d H1 s1 ed => ⟨exm_hit T.exNoWaits T.icNoWaits T.tyNoWaits T.seNoWaits, fun e hne => ?_⟩⟩
      · have hm := mean_in hok he hl
        have hf := qr_facts hm.1 hm.2
        have hq := q H1 (s0.trans s1)
        rw [show meanD ws = qrD _ _ from if_neg he] at hq
        walk_at "s"
        exact ⟨_, _, rfl, .tup (SqT.of et) (.cons (.int _) (.cons (.int _) .nil)), hf.1, hf.2.1, hf.2.2, hq⟩
      · have hb : ((ws.length : Nat) : Int).natAbs < 10000000000 := by omega
        have hf := ref_facts hb
        have kp : KeptE (upd H1 e (keptX (.ref T.CNoWaits) (some d) e)) e T.CNoWaits (x1F "many" (.int (ws.length : Nat))) := ⟨d, upd_same, upd_at hne ed⟩
        have s3 : Same H (upd H1 e (keptX (.ref T.CNoWaits) (some d) e)) := (s0.trans s1).trans (same_upd hne)
        generalize upd H1 e (keptX (.ref T.CNoWaits) (some d) e) = H2 at kp s3 ⊢
        have xf : XfC K T.CNoWaits := ⟨T.gaNoWaits, T.ggNoWaits, T.exNoWaits, T.hdNoWaits⟩
        walk_at "s"
        refine .inr ⟨e, T.CNoWaits, _, .ty "ZeroDivisionError", .type "ZeroDivisionError", true, rfl, kp, nw_ec T, .ty _, kit_up (by decide +kernel) T.upNoWaits, ?_⟩
        walk_at "s"
        refine .inr ⟨e, T.CNoWaits, _, .ty "ArithmeticError", .type "ArithmeticError", true, rfl, kp, nw_ec T, .ty _, kit_up (by decide +kernel) T.usNoWaits_ArithmeticError, ?_⟩
        walk_at "s"
        refine .inr ⟨e, T.CNoWaits, _, .ty "ValueError", .type "ValueError", false, rfl, kp, nw_ec T, .ty _, kit_upN (by decide +kernel) T.snNoWaits_ValueError, ?_⟩
        walk_at "s"
        intro l hl
        walk_at "s"
        have kp2 : KeptE (upd H2 l (.lst [.bl true, .bl true, .bl false])) e T.CNoWaits (x1F "many" (.int (ws.length : Nat))) := by
          obtain ⟨dd, k1, k2⟩ := kp
          exact ⟨dd, upd_at hl k1, upd_at hl k2⟩
        refine ⟨e, T.CNoWaits, _, .int (ws.length : Nat), rfl, xf, T.nNoWaits_many, kp2, rfl, ?_⟩
        walk_at "s"
        intro t ht
        have el := upd_at (o := .tup [.str "refused", .ref l, .int (ws.length : Nat)]) ht (upd_same (H := H2) (a := l) (o := .lst [.bl true, .bl true, .bl false]))
        rw [show meanD ws = refD _ from if_pos he] at q
        walk_at "s"
        exact ⟨_, _, rfl, .tup (SqT.of upd_same) (.cons (.str _) (.cons (.lst (SqL.of el) (.cons (.bl _) (.cons (.bl _) (.cons (.bl _) .nil)))) (.cons (.int _) .nil))), hf.1, hf.2.1, hf.2.2, q _ ((s3.trans (same_upd hl)).trans (same_upd ht))⟩
end
def spLaw (K : PySem.W.Frag) : Sp := fun vs H Q _ => ∃ (a : Addr) (ns : List Int), vs = [.ref a] ∧ SqL K H a (ns.map V.int) ∧ ns.length ≤ 63 ∧ ∀ H', Q (.bl true) H'
/-- the greatest so far -/
def mStep (s : Option Int) (x : Int) : Option Int := match s with | none => some x | some m => if x > m then some x else some m
def mFold (l : List Int) : Option Int := l.foldl mStep none
theorem mFold_is : ∀ l : List Int, (l = [] ∧ mFold l = none) ∨ ∃ m, mFold l = some m ∧ m ∈ l ∧ ∀ a ∈ l, a ≤ m := by
  have : ∀ (l : List Int) (m : Int), ∃ k, l.foldl mStep (some m) = some k ∧ (k = m ∨ k ∈ l) ∧ m ≤ k ∧ ∀ a ∈ l, a ≤ k := by
    intro l
    induction l with
    | nil => exact fun m => ⟨m, rfl, .inl rfl, Int.le_refl _, fun a h => by cases h⟩
    | cons x r ih =>
      intro m
      rw [List.foldl_cons]
      by_cases c : x > m
      · obtain ⟨k, e, h1, h2, h3⟩ := ih x
        refine ⟨k, by rw [show mStep (some m) x = some x from if_pos c]; exact e, ?_, by omega, fun a ha => ?_⟩
        · rcases h1 with rfl | h1
          · exact .inr List.mem_cons_self
          · exact .inr (List.mem_cons_of_mem _ h1)
        · rcases List.mem_cons.mp ha with rfl | ha
          · exact h2
          · exact h3 a ha
      · obtain ⟨k, e, h1, h2, h3⟩ := ih m
        refine ⟨k, by rw [show mStep (some m) x = some m from if_neg c]; exact e, ?_, h2, fun a ha => ?_⟩
        · rcases h1 with rfl | h1
          · exact .inl rfl
          · exact .inr (List.mem_cons_of_mem _ h1)
        · rcases List.mem_cons.mp ha with rfl | ha
          · omega
          · exact h3 a ha
  intro l
  cases l with
  | nil => exact .inl ⟨rfl, rfl⟩
  | cons x r =>
    obtain ⟨k, e, h1, h2, h3⟩ := this r x
    refine .inr ⟨k, e, ?_, fun a ha => ?_⟩
    · rcases h1 with rfl | h1
      · exact List.mem_cons_self
      · exact List.mem_cons_of_mem _ h1
    · rcases List.mem_cons.mp ha with rfl | ha
      · exact h2
      · exact h3 a ha
theorem eqv_nil (l : List Int) : PyData.eqv (.list (l.map PyData.int)) (.list []) = l.isEmpty := by cases l <;> rfl
theorem fold_succ {α β : Type} (f : β → α → β) (b : β) {l : List α} {i : Nat} {x : α} (h : l[i]? = some x) : (l.take (i + 1)).foldl f b = f ((l.take i).foldl f b) x := by
  rw [List.take_succ, h, List.foldl_append]; rfl
theorem longest_to {ws : List Wt} {R : V → Prop} (h : R (wV (mFold (ends ws)))) : (ends ws = [] → R .non) ∧ ∀ M, M ∈ ends ws → (∀ a, a ∈ ends ws → a ≤ M) → R (.int M) := by
  rcases mFold_is (ends ws) with ⟨e, e2⟩ | ⟨m, e, h1, h2⟩
  · rw [e2] at h
    exact ⟨fun _ => h, fun M hM _ => (by rw [e] at hM; cases hM)⟩
  · rw [e] at h
    refine ⟨fun z => (by rw [z] at h1; cases h1), fun M hM h3 => ?_⟩
    rw [Int.le_antisymm (h2 M hM) (h3 m h1)]
    exact h
theorem okd_ws {ws : List Wt} (h : ∀ x ∈ ws, WOk x) (l : ws.length ≤ 150) : OkD (.list (ws.map wD)) 2 100000 := by
  refine (okd_map (n := 150) (k := 1) (m := 200) (fun x hx => ?_) l).mono (by decide) (by decide)
  have hx := h x hx
  refine (okd_tup (n := 2) (k := 0) (m := 90) (fun d hd => ?_) (by exact Nat.le_of_ble_eq_true rfl)).mono (by decide) (by decide)
  obtain ⟨nm, o⟩ := x
  simp only [List.mem_cons, List.not_mem_nil, or_false] at hd
  rcases hd with rfl | rfl
  · exact (okd_str (low_strOk hx.1) hx.1.1).mono (by decide) (by decide)
  · cases o with
    | none => exact okd_none.mono (by decide) (by decide)
    | some i =>
      have := hx.2 i rfl
      exact (okd_int (by omega)).mono (by decide) (by decide)
theorem okd_most {ws : List Wt} (h : ∀ x ∈ ws, WOk x) : OkD (wN (mFold (ends ws))) 0 11 := by
  rcases mFold_is (ends ws) with ⟨_, e2⟩ | ⟨m, e, h1, _⟩
  · rw [e2]; exact okd_none.mono (by decide) (by decide)
  · rw [e]
    have := ends_in h m h1
    exact okd_int (by omega)
theorem scal_wV (o : Option Int) : scal (wV o) (wV o) = true := by cases o <;> rfl
theorem dp_wN {K : PySem.W.Frag} {H : Hp} (o : Option Int) : Dp K H (wV o) (wN o) := by cases o <;> constructor
section
variable {P : Program} {w : World} {K : PySem.W.Frag} {mg : Str → Option Value} {base : Heap} (T : Ev K mg)
theorem ok_law : FnOkG P w K mg base CX0 6 T.flaw T.fdlaw ["_law_script"] (spLaw K) := by
  refine okG T.Flaw scLaw (fun vs H Q E h => ?_) (fun cdv A outer s H vs Q E gd hr h => ?_)
  · obtain ⟨a, ns, rfl, _⟩ := h
    rfl
  · obtain ⟨a, ns, rfl, hS, hlen, q⟩ := h
    refine ⟨_,
      (pss_cons (ps_set (i := 1) scLaw.nd rfl (.inl rfl) (pe_call (ok_law_feed T) (hr.mono (by decide)) (by rfl) T.g_law_feed T.F_law_feed.kp T.b_law_feed .nil pass0 (pa_cons (pv 0) pa_nil)))
      (pss_cons (ps_for PassesOwn.never rfl (pi_range1 (by rfl) T.mrange (pa_cons pe_int pa_nil)) (pg_name (i := 2) scLaw.nd rfl (.inl rfl))
      (pss_cons (ps_set (i := 3) scLaw.nd rfl (.inl rfl) (pe_call (ok_law_waited T) (hr.mono (by decide)) (by rfl) T.g_law_waited T.F_law_waited.kp T.b_law_waited .nil pass0 (pa_cons (pv 1) (pa_cons (pe_cmpR op_gt (pe_call (ok_law_draw T) (hr.mono (by decide)) (by rfl) T.g_law_draw T.F_law_draw.kp T.b_law_draw .nil pass0 (pa_cons (pv 1) (pa_cons pe_int pa_nil))) pe_int (nomark _)) pa_nil))))
      (pss_cons (ps_set (i := 4) scLaw.nd rfl (.inl rfl) (pe_callTy call_list_of (by rfl) T.mlist (by decide +kernel) (pa_cons (pv 3) pa_nil)))
      (pss_cut (ps_setLc (i := 5) (own := [("_law_who", 13), ("_law_wait", 14)]) (g := gTup K 2 (gCons (gName 13) (gCons (gName 14) gNil)))  rfl scLaw.nd rfl rfl (sw_true rfl rfl rfl (by decide +kernel)) (pi_list (pv 3)) (blkOk_by (N := NLaw) (own := [("_law_who", 13), ("_law_wait", 14)]) (sc := defScope sLaw) (by decide +kernel)) (fun _ _ _ _ _ => pg_tup rfl (pgs_cons (pg_name (i := 13) scLaw.nd rfl (Or.inl rfl)) (pgs_cons (pg_name (i := 14) scLaw.nd rfl (Or.inl rfl)) pgs_nil))) (fun _ _ _ _ _ => pts_one (pt_cmpR op_notN (pv 14) pe_non (nomark _))) (fun _ _ _ _ _ => (pv 14)))
      (pss_cons (ps_asg (pe_tup (pa_cons pe_non (pa_cons pe_int (pa_cons pe_int pa_nil)))) (pg_tup rfl (pgs_cons (pg_name (i := 6) scLaw.nd rfl (.inl rfl)) (pgs_cons (pg_name (i := 7) scLaw.nd rfl (.inl rfl)) (pgs_cons (pg_name (i := 8) scLaw.nd rfl (.inl rfl)) pgs_nil)))))
      (pss_cut (ps_for PassesOwn.never rfl (pi_list (pv 5)) (pg_name (i := 9) scLaw.nd rfl (.inl rfl))
      (pss_cons (ps_set (i := 6) scLaw.nd rfl (.inl rfl) (pe_ifExp (PW.pt (pw_or (pt_cmpR op_isN (pv 6) pe_non (nomark _)) (pw_or1 (pt_cmpR op_gt (pv 9) (pv 6) (nomark _))))) (pv 9) (pv 6)))
      (pss_one (ps_set (i := 8) scLaw.nd rfl (.inl rfl) (pe_op op_add (pv 8) (pv 9))))))
      (pss_cut (ps_while PassesOwn.never (PW.pt (pw_and (pt_cmpR (op_neD hr.units) (pv 5) (pe_lst pa_nil) (nomark _)) (pw_and1 (pt_cmpR op_ge (pv 8) (pe_callB call_len_seq (by rfl) T.mlen PySem.boot_len (pa_cons (pv 5) pa_nil)) (nomark _)))))
      (pss_cons (ps_set (i := 10) scLaw.nd rfl (.inl rfl) (pe_op op_fdivN (pv 8) (pe_callB call_len_seq (by rfl) T.mlen PySem.boot_len (pa_cons (pv 5) pa_nil))))
      (pss_one (ps_par (i := 7) (j := 8) rfl scLaw.nd rfl rfl (by decide) rfl rfl (pa_cons (pe_op op_add (pv 7) (pv 10)) (pa_cons (pe_op op_sub (pv 8) (pe_op op_mul (pv 10) (pe_callB call_len_seq (by rfl) T.mlen PySem.boot_len (pa_cons (pv 5) pa_nil)))) pa_nil)) (by rfl)))))
      (pss_cut (ps_set (i := 11) scLaw.nd rfl (.inl rfl) (pe_ifExp (pt_cmpR (op_neD hr.units) (pv 5) (pe_lst pa_nil) (nomark _)) (pe_callB (call_reprD gd hr) (by rfl) T.mrepr (by decide +kernel) (pa_cons (pe_tup (pa_cons (pv 7) (pa_cons (pv 8) pa_nil))) pa_nil)) (pe_callB (call_reprD gd hr) (by rfl) T.mrepr (by decide +kernel) (pa_cons (pe_tup (pa_cons pe_str (pa_cons (pe_lst (pa_cons pe_bl (pa_cons pe_bl (pa_cons pe_bl pa_nil)))) (pa_cons (pe_callB call_len_seq (by rfl) T.mlen PySem.boot_len (pa_cons (pv 3) pa_nil)) pa_nil)))) pa_nil))))
      (pss_one (ps_for PassesOwn.never rfl (pi_range1 (by rfl) T.mrange (pa_cons pe_int pa_nil)) (pg_name (i := 12) scLaw.nd rfl (.inl rfl))
      (pss_cons (ps_if (PW.pt (pw_or (pt_cmpR op_ne (pe_callB (call_reprD gd hr) (by rfl) T.mrepr (by decide +kernel) (pa_cons (pe_call (oklongest T) (hr.mono (by decide)) (by rfl) T.glongest T.Flongest.kp T.blongest .nil pass0 (pa_cons (pv 4) pa_nil)) pa_nil)) (pe_callB (call_reprD gd hr) (by rfl) T.mrepr (by decide +kernel) (pa_cons (pv 6) pa_nil)) (nomark _)) (pw_or (pt_cmpR op_ne (pe_callG (ok_law_mean T) gd (hr.mono (by decide)) (by rfl) T.g_law_mean T.F_law_mean.kp T.b_law_mean .nil pass0 (pa_cons (pv 4) pa_nil)) (pv 11) (nomark _)) (pw_or1 (pt_cmpR (op_neD hr.units) (pv 4) (pv 3) (nomark _))))))
      (pss_one (ps_ret pe_bl))
      pss_nil)
      (pss_one (ps_if (PW.pt (pw_or (pt_cmpR op_ne (pe_callK0 (oklongest T) (hr.mono (by decide)) (by rfl) T.glongest T.Flongest.kp T.kblongest pass0 (pk_cons (pv 4) pk_nil)) (pv 6) (nomark _)) (pw_or1 (PW.pt (pw_and (pt_cmpR (op_neD hr.units) (pv 5) (pe_lst pa_nil) (nomark _)) (pw_and1 (pt_cmpR op_ne (pe_callB (call_reprD gd hr) (by rfl) T.mrepr (by decide +kernel) (pa_cons (pe_callK0 (okmean_wait T) (hr.mono (by decide)) (by rfl) T.gmean_wait T.Fmean_wait.kp T.kbmean_wait (passF rfl rfl) (pk_cons (pv 4) pk_nil)) pa_nil)) (pv 11) (nomark _))))))))
      (pss_one (ps_ret pe_bl))
      pss_nil)))))))))))))
      (pss_one (ps_ret (pe_and (pe_cmpR op_isN (pe_call (oklongest T) (hr.mono (by decide)) (by rfl) T.glongest T.Flongest.kp T.blongest .nil pass0 (pa_cons (pe_lst pa_nil) pa_nil)) pe_non (nomark _)) (pe_and (pe_cmpR op_eq (pe_call (oklongest T) (hr.mono (by decide)) (by rfl) T.glongest T.Flongest.kp T.blongest .nil pass0 (pa_cons (pe_lst (pa_cons (pe_tup (pa_cons pe_str (pa_cons pe_int pa_nil))) pa_nil)) pa_nil)) pe_int (nomark _)) (pe_one (pe_cmpR (op_eqD hr.units) (pe_callSD (okmean_wait T) (hr.mono (by decide)) (by rfl) T.gmean_wait T.Fmean_wait.kp T.bmean_wait .nil (fun _ => passNo rfl rfl) (by exact (pa_cons (pe_lst (pa_cons (pe_tup (pa_cons pe_str (pa_cons pe_int pa_nil))) (pa_cons (pe_tup (pa_cons pe_str (pa_cons pe_non pa_nil))) (pa_cons (pe_tup (pa_cons pe_str (pa_cons pe_int pa_nil))) pa_nil)))) pa_nil))) (pe_tup (pa_cons pe_int (pa_cons pe_int pa_nil))) (nomark _)))))))))
      , ?_⟩
    walk_at "s"
    refine ⟨a, ns, rfl, hS, hlen, fun tp c H1 _ _ s01 T1 => ?_⟩
    walk_at "s"
    refine for_range (lo := 0) (n := 4) (fun i σ H2 => ∃ (w2 w3 w4 w5 w6 w7 w8 w9 w10 w11 w12 w13 w14 : Option V), σ = [some (.ref a), some (.ref tp), w2, w3, w4, w5, w6, w7, w8, w9, w10, w11, w12, w13, w14] ∧ Tape H2 tp c (2000 * i))
      ⟨_, _, _, _, _, _, _, _, _, _, _, _, _, rfl, T1⟩ ?_ ?_
    · rintro i σ H2 hi ⟨w2, w3, w4, w5, w6, w7, w8, w9, w10, w11, w12, w13, w14, rfl, T2⟩
      walk_at "s"
      refine dr 4 T2 (by omega) (by omega) (by omega) fun d H3 d0 d1 T3 k3 => ?_
      walk_at "s"
      refine ⟨tp, c, decide (0 < d), 2000 * i + 1, rfl, by omega, T3, fun p xs ws H4 hl hd ep npt hok T4 k4 => ?_⟩
      walk_at "s"
      refine ⟨p, xs, rfl, .inl (SqL.of ep), fun r hr0 => ?_⟩
      have hxl := dps_len hd
      rw [List.length_map] at hxl
      have s45 : Same H4 (upd H4 r (.lst xs)) := same_upd hr0
      have er : (upd H4 r (.lst xs)) r = some (.lst xs) := upd_same
      have ep5 := s45 _ _ ep
      have hd5 := dps_same s45 _ _ hd
      have T5 := (T4.same s45).mono (m := 2000 * i + 1000) (by omega)
      generalize upd H4 r (.lst xs) = H5 at er ep5 hd5 T5
      clear s45
      have hel : (ends ws).length ≤ ws.length := List.length_filterMap_le _ _
      -- the numbers
      refine ⟨fun σ H6 => ∃ (b : Addr), σ = [some (.ref a), some (.ref tp), some (.int (0 + (i : Int))), some (.ref p), some (.ref r), some (.ref b), w6, w7, w8, w9, w10, w11, w12, w13, w14] ∧ H6 b = some (.lst ((ends ws).map V.int)) ∧ Same H5 H6, ?_, ?_⟩
      · walk_at "s"
        refine ⟨⟨_, SqL.of ep5⟩, fun D hD => ?_⟩
        refine lc_list (K := K) (a := p) (xs := xs) (fun j H' => H' D = some (.lst ((ends (ws.take j)).map V.int)) ∧ Same H5 H') ⟨upd_same, same_upd hD⟩ (fun j H' _ z => SqL.of (z.2 _ _ ep5)) ?_ ?_
        · rintro j x H' hx ⟨eD, sj⟩
          obtain ⟨t, w, rfl, hw1, ht⟩ := wts_at hd5 hx
          have hj : j < xs.length := (List.getElem?_eq_some_iff.mp hx).1
          refine ⟨t, _, rfl, sqT_same ht sj, rfl, ?_⟩
          walk_at "s"
          rw [ends_succ hw1]
          obtain ⟨nm, o⟩ := w
          cases o with
          | none => exact iteF ⟨by rw [List.append_nil]; exact eD, sj⟩
          | some z =>
            have hlen : (ends (ws.take j)).length ≤ j := Nat.le_trans (List.length_filterMap_le _ _) (by rw [List.length_take]; omega)
            exact iteT ⟨_, rfl, _, eD, lt_line (by rw [List.length_map]; omega), by rw [upd_same, List.map_append]; rfl, app_same hD sj⟩
        · rintro H' ⟨eD, sj⟩
          rw [hxl, List.take_length] at eD
          exact ⟨D, rfl, eD, sj⟩
      rintro σ H6 ⟨b, rfl, eb, s6⟩
      -- most, rest
      walk_at "s"
      intro t6 ht6
      refine ⟨t6, _, rfl, SqT.of upd_same, rfl, ?_⟩
      walk_at "s"
      refine ⟨fun σ H7 => ∃ (w9 : Option V), σ = [some (.ref a), some (.ref tp), some (.int (0 + (i : Int))), some (.ref p), some (.ref r), some (.ref b), some (wV (mFold (ends ws))), some (.int 0), some (.int (ends ws).sum), w9, w10, w11, w12, w13, w14] ∧ Same H6 H7, ?_, ?_⟩
      · walk_at "s"
        refine ⟨⟨_, SqL.of (upd_at ht6 eb)⟩, ?_⟩
        refine for_list (K := K) (a := b) (xs := (ends ws).map V.int) (fun j σ H' => ∃ (w9 : Option V), σ = [some (.ref a), some (.ref tp), some (.int (0 + (i : Int))), some (.ref p), some (.ref r), some (.ref b), some (wV (mFold ((ends ws).take j))), some (.int 0), some (.int ((ends ws).take j).sum), w9, w10, w11, w12, w13, w14] ∧ Same H6 H')
          ⟨_, rfl, same_upd ht6⟩ (fun j σ H' _ ⟨_, _, z⟩ => SqL.of (z _ _ eb)) ?_ ?_
        · rintro j y σ H' hj ⟨w9, rfl, sj⟩
          rw [List.getElem?_map] at hj
          cases hz : (ends ws)[j]? with
          | none => rw [hz] at hj; cases hj
          | some z =>
            rw [hz] at hj; cases hj
            have e1 : mFold ((ends ws).take (j + 1)) = mStep (mFold ((ends ws).take j)) z := fold_succ _ _ hz
            have e2 : ((ends ws).take (j + 1)).sum = ((ends ws).take j).sum + z := by rw [List.take_succ, hz, List.sum_append]; simp
            walk_at "s"
            rw [e1, e2]
            cases mFold ((ends ws).take j) with
            | none =>
              refine iteT (iteT ?_)
              walk_at "s"
              exact sj
            | some m =>
              refine iteF ?_
              walk_at "s"
              refine ite2 (fun c1 => ?_) (fun c1 => ?_)
              · have c2 : z > m := of_decide_eq_true c1
                rw [show mStep (some m) z = some z from if_pos c2]
                walk_at "s"
                exact sj
              · have c2 : ¬ z > m := fun h => c1 (decide_eq_true h)
                rw [show mStep (some m) z = some m from if_neg c2]
                walk_at "s"
                exact sj
        · rintro σ H' ⟨w9, rfl, sj⟩
          rw [List.length_map, List.take_length]
          exact ⟨_, rfl, sj⟩
      rintro σ H7 ⟨w9, rfl, s7⟩
      -- whole, rest
      have hsum := sum_in _ (ends_in hok)
      refine ⟨fun σ H8 => ∃ (wh re : Int) (w10 : Option V), (ends ws ≠ [] → wh = (ends ws).sum / ((ends ws).length : Int) ∧ re = (ends ws).sum % ((ends ws).length : Int)) ∧ σ = [some (.ref a), some (.ref tp), some (.int (0 + (i : Int))), some (.ref p), some (.ref r), some (.ref b), some (wV (mFold (ends ws))), some (.int wh), some (.int re), w9, w10, w11, w12, w13, w14] ∧ Same H7 H8, ?_, ?_⟩
      · refine ⟨fun m σ H8 => ∃ (wh re : Int) (w10 : Option V), m = re.toNat ∧ 0 ≤ re ∧ re + wh * ((ends ws).length : Int) = (ends ws).sum ∧ σ = [some (.ref a), some (.ref tp), some (.int (0 + (i : Int))), some (.ref p), some (.ref r), some (.ref b), some (wV (mFold (ends ws))), some (.int wh), some (.int re), w9, w10, w11, w12, w13, w14] ∧ Same H7 H8,
          ⟨_, 0, _, _, rfl, hsum.1, by rw [Int.zero_mul, Int.add_zero], rfl, same_refl⟩, ?_⟩
        rintro m σ H8 ⟨wh, re, w10, rfl, hre, hq, rfl, s8⟩
        walk_at "s"
        intro l hl
        have eb8 := upd_at (o := .lst []) hl (s8 _ _ (s7 _ _ eb))
        refine ⟨_, .list [], .lst (SqL.of eb8) (dp_ints _), .lst (SqL.of upd_same) .nil, ke_shaped_ints _, ke_shaped_ints [], ?_⟩
        walk_at "s"
        rw [eqv_nil]
        refine ite2 (fun c1 => ?_) (fun c1 => ?_)
        · have he : ends ws ≠ [] := fun z => by rw [z] at c1; cases c1
          have hpos : 0 < (ends ws).length := List.length_pos_iff.mpr he
          walk_at "s"
          refine ⟨b, _, rfl, .inl (SqL.of eb8), ?_⟩
          rw [List.length_map]
          walk_at "s"
          refine ite2 (fun c2 => ?_) (fun c2 => ?_)
          · have c3 : ((ends ws).length : Int) ≤ re := of_decide_eq_true c2
            refine ⟨fun σ' H' => ∃ m', m' < re.toNat ∧ ∃ (wh re : Int) (w10 : Option V), m' = re.toNat ∧ 0 ≤ re ∧ re + wh * ((ends ws).length : Int) = (ends ws).sum ∧ σ' = [some (.ref a), some (.ref tp), some (.int (0 + (i : Int))), some (.ref p), some (.ref r), some (.ref b), some (wV (mFold (ends ws))), some (.int wh), some (.int re), w9, w10, w11, w12, w13, w14] ∧ Same H7 H', fun _ _ z => z, ?_⟩
            walk_at "s"
            refine ⟨b, _, rfl, .inl (SqL.of eb8), ?_⟩
            rw [List.length_map]
            walk_at "s"
            refine ⟨b, _, rfl, .inl (SqL.of eb8), ?_⟩
            rw [List.length_map]
            walk_at "s"
            have hsl := same_upd (H := H8) (o := .lst []) hl
            have hf : re.fdiv ((ends ws).length : Int) = re / ((ends ws).length : Int) := Int.fdiv_eq_ediv_of_nonneg _ (by omega)
            have h1 := Int.emod_add_mul_ediv re ((ends ws).length : Int)
            have h2 := Int.emod_nonneg re (show ((ends ws).length : Int) ≠ 0 by omega)
            have h3 := Int.emod_lt_of_pos re (show (0 : Int) < ((ends ws).length : Int) by omega)
            rw [Int.mul_comm] at h1
            refine ⟨_, ?_, _, _, _, rfl, ?_, ?_, rfl, s8.trans hsl⟩
            · rw [hf]; omega
            · rw [hf]; omega
            · rw [hf, Int.add_mul]; omega
          · have c3 : ¬ ((ends ws).length : Int) ≤ re := fun z => c2 (decide_eq_true z)
            refine ⟨wh, re, _, fun _ => ?_, rfl, s8.trans (same_upd hl)⟩
            have := Int.ediv_emod_unique (a := (ends ws).sum) (b := ((ends ws).length : Int)) (r := re) (q := wh) (by omega)
            obtain ⟨z1, z2⟩ := this.mpr ⟨by rw [Int.mul_comm]; exact hq, hre, by omega⟩
            exact ⟨z1.symm, z2.symm⟩
        · have he : ends ws = [] := by cases hh : ends ws with | nil => rfl | cons x r => rw [hh] at c1; exact absurd rfl c1
          exact ⟨wh, re, _, fun z => absurd he z, rfl, s8.trans (same_upd hl)⟩
      rintro σ H8 ⟨wh, re, w10, hqr, rfl, s8⟩
      -- due
      refine ⟨fun σ H9 => σ = [some (.ref a), some (.ref tp), some (.int (0 + (i : Int))), some (.ref p), some (.ref r), some (.ref b), some (wV (mFold (ends ws))), some (.int wh), some (.int re), w9, w10, some (.str (meanD ws).shown), w12, w13, w14] ∧ Same H8 H9, ?_, ?_⟩
      · walk_at "s"
        intro l hl
        have eb8 := upd_at (o := .lst []) hl (s8 _ _ (s7 _ _ eb))
        refine ⟨_, .list [], .lst (SqL.of eb8) (dp_ints _), .lst (SqL.of upd_same) .nil, ke_shaped_ints _, ke_shaped_ints [], ?_⟩
        walk_at "s"
        rw [eqv_nil]
        refine ite2 (fun c1 => ?_) (fun c1 => ?_)
        · have he : ends ws ≠ [] := fun z => by rw [z] at c1; cases c1
          obtain ⟨e1, e2⟩ := hqr he
          have hm := mean_in hok he (by omega)
          have hf := qr_facts hm.1 hm.2
          walk_at "s"
          intro t ht
          walk_at "s"
          refine ⟨_, qrD wh re, rfl, .tup (SqT.of upd_same) (.cons (.int _) (.cons (.int _) .nil)), ?_, ?_, ?_, ?_⟩
          · rw [e1, e2]; exact hf.1
          · rw [e1, e2]; exact hf.2.1
          · rw [e1, e2]; exact hf.2.2
          · rw [show meanD ws = qrD wh re by rw [e1, e2]; exact if_neg he]
            exact ⟨rfl, (same_upd hl).trans (same_upd ht)⟩
        · have he : ends ws = [] := by cases hh : ends ws with | nil => rfl | cons x r => rw [hh] at c1; exact absurd rfl c1
          have hf := ref_facts (n := (ws.length : Nat)) (by omega)
          walk_at "s"
          intro l2 hl2
          walk_at "s"
          refine ⟨p, xs, rfl, .inl (SqL.of (upd_at hl2 (upd_at hl (s8 _ _ (s7 _ _ (s6 _ _ ep5)))))), ?_⟩
          rw [hxl]
          walk_at "s"
          intro t ht
          have el := upd_at (o := .tup [.str "refused", .ref l2, .int (ws.length : Nat)]) ht (upd_same (a := l2) (H := upd H8 l (.lst [])) (o := .lst [.bl true, .bl true, .bl false]))
          walk_at "s"
          refine ⟨_, refD (ws.length : Nat), rfl, .tup (SqT.of upd_same) (.cons (.str _) (.cons (.lst (SqL.of el) (.cons (.bl _) (.cons (.bl _) (.cons (.bl _) .nil)))) (.cons (.int _) .nil))), hf.1, hf.2.1, hf.2.2, ?_⟩
          rw [show meanD ws = refD _ from if_pos he]
          exact ⟨rfl, ((same_upd hl).trans (same_upd hl2)).trans (same_upd ht)⟩
      rintro σ H9 ⟨rfl, s9⟩
      have s69 : Same H6 H9 := (s7.trans s8).trans s9
      have er6 := s6 _ _ er
      have ep6 := s6 _ _ ep5
      have hd6 := dps_same s6 _ _ hd5
      have ow := okd_ws hok hl
      have om := okd_most hok
      -- both turns
      walk_at "s"
      refine for_range (lo := 0) (n := 2) (fun j σ H' => ∃ (w12 : Option V), σ = [some (.ref a), some (.ref tp), some (.int (0 + (i : Int))), some (.ref p), some (.ref r), some (.ref b), some (wV (mFold (ends ws))), some (.int wh), some (.int re), w9, w10, some (.str (meanD ws).shown), w12, w13, w14] ∧ Same H6 H') ⟨_, rfl, s69⟩ ?_ ?_
      · rintro j σ H' hj ⟨w12, rfl, sj⟩
        have lg : ∀ (H3 : Hp) (R : VK), Same H6 H3 → (∀ H4, Same H6 H4 → R (wV (mFold (ends ws))) H4) → spLongest K [.ref r] H3 R E0 := fun H3 R s3 hR =>
          ⟨r, xs, ws, rfl, SqL.of (s3 _ _ er6), dps_same s3 _ _ hd6, by omega, fun H4 s4 => longest_to (R := fun v => R v H4) (hR H4 (s3.trans s4))⟩
        walk_at "s"
        refine lg _ _ sj fun Ha sa => ?_
        walk_at "s"
        refine om.rep (dp_wN _) ?_
        walk_at "s"
        refine om.rep (dp_wN _) ?_
        walk_at "s"
        rw [ne_self]
        refine iteF ?_
        walk_at "s"
        refine ⟨r, xs, ws, rfl, SqL.of (sa _ _ er6), dps_same sa _ _ hd6, by omega, hok, fun Hb sb => ?_⟩
        have s5b := sa.trans sb
        walk_at "s"
        rw [ne_self]
        refine iteF ?_
        walk_at "s"
        refine ow.not (.lst (SqL.of (s5b _ _ er6)) (dps_same s5b _ _ hd6)) (.lst (SqL.of (s5b _ _ ep6)) (dps_same s5b _ _ hd6)) ?_
        walk_at "s"
        refine lg _ _ s5b fun Hc sc => ?_
        walk_at "s"
        refine ⟨scal_wV _, ?_⟩
        walk_at "s"
        rw [ne_self]
        refine iteF ?_
        walk_at "s"
        intro l hl
        have sd := sc.trans (same_upd (o := .lst []) hl)
        have ebc := sd _ _ eb
        refine ⟨_, .list [], .lst (SqL.of ebc) (dp_ints _), .lst (SqL.of upd_same) .nil, ke_shaped_ints _, ke_shaped_ints [], ?_⟩
        walk_at "s"
        rw [eqv_nil]
        refine ite2 (fun c1 => ?_) (fun c1 => iteF ⟨_, rfl, sd⟩)
        have he : ends ws ≠ [] := fun z => by rw [z] at c1; cases c1
        have hm := mean_in hok he (by omega)
        have hf := qr_facts hm.1 hm.2
        have ed : meanD ws = qrD _ _ := if_neg he
        walk_at "s"
        refine ⟨r, xs, ws, rfl, SqL.of (sd _ _ er6), dps_same sd _ _ hd6, by omega, fun _ t H4 s4 et => ?_, fun z => absurd z he⟩
        walk_at "s"
        refine ⟨_, qrD _ _, rfl, .tup (SqT.of et) (.cons (.int _) (.cons (.int _) .nil)), hf.1, hf.2.1, hf.2.2, ?_⟩
        rw [ed]
        walk_at "s"
        rw [ne_self]
        exact iteF ⟨_, rfl, sd.trans s4⟩
      · rintro σ H' ⟨w12, rfl, sj⟩
        exact ⟨_, _, _, _, _, _, _, _, _, _, _, _, _, rfl, (T5.same (s6.trans sj)).mono (by omega)⟩
    · rintro σ H2 ⟨w2, w3, w4, w5, w6, w7, w8, w9, w10, w11, w12, w13, w14, rfl, T2⟩
      walk_at "s"
      intro l hl
      walk_at "s"
      refine ⟨l, [], [], rfl, SqL.of upd_same, .nil, Nat.zero_le _, fun H4 s4 => ⟨fun _ => ?_, fun M hM => absurd hM (by simp [ends])⟩⟩
      walk_at "s"
      intro t ht
      walk_at "s"
      intro l2 hl2
      have e2 := upd_at (o := .lst [.ref t]) hl2 (upd_same (H := H4) (a := t) (o := .tup [.str "a", .int 0]))
      walk_at "s"
      refine ⟨l2, [.ref t], [("a", some 0)], rfl, SqL.of upd_same, .cons (dp_wD e2) .nil, Nat.le_of_ble_eq_true rfl, fun H5 s5 => ⟨fun z => absurd z (by simp [ends]), fun M hM _ => ?_⟩⟩
      have hM0 : M = 0 := by simpa [ends] using hM
      subst hM0
      walk_at "s"
      intro t1 n1
      walk_at "s"
      intro t2 n2
      walk_at "s"
      intro t3 n3
      walk_at "s"
      intro l3 n4
      have f1 := upd_at (o := .lst [.ref t1, .ref t2, .ref t3]) n4 (upd_at (o := .tup [.str "c", .int 4]) n3 (upd_at (o := .tup [.str "b", .non]) n2 (upd_same (H := H5) (a := t1) (o := .tup [.str "a", .int 3]))))
      have f2 := upd_at (o := .lst [.ref t1, .ref t2, .ref t3]) n4 (upd_at (o := .tup [.str "c", .int 4]) n3 (upd_same (a := t2) (o := .tup [.str "b", .non])))
      have f3 := upd_at (o := .lst [.ref t1, .ref t2, .ref t3]) n4 (upd_same (a := t3) (o := .tup [.str "c", .int 4]))
      walk_at "s"
      refine ⟨l3, [.ref t1, .ref t2, .ref t3], [("a", some 3), ("b", none), ("c", some 4)], rfl, SqL.of upd_same, .cons (dp_wD f1) (.cons (dp_wD f2) (.cons (dp_wD f3) .nil)), Nat.le_of_ble_eq_true rfl, fun _ t4 H6 s6 e6 => ?_, fun z => absurd z (by simp [ends])⟩
      walk_at "s"
      intro t5 n5
      have e7 : H6 t4 = some (.tup [.int 3, .int 1]) := by simpa [ends] using e6
      have o31 : OkD (.tuple [.int 3, .int 1]) 1 28 := okd_tup (k := 0) (m := 11) (n := 2) (fun d hd => by
        simp only [List.mem_cons, List.not_mem_nil, or_false] at hd
        rcases hd with rfl | rfl <;> exact okd_int (by decide)) (by decide)
      exact o31.same (.tup (SqT.of (upd_at n5 e7)) (.cons (.int _) (.cons (.int _) .nil))) (.tup (SqT.of upd_same) (.cons (.int _) (.cons (.int _) .nil))) (q _)
end
theorem all_mk {l : PySem.W.OpenLaw} {w : World} {K : PySem.W.Frag} {h : Heap} {mg : Str → Option Value} {fa flongest fmean_wait f_ended f_law_feed f_law_draw f_law_of f_law_names f_law_waited f_law_mean flaw fNoWaits___init__ CNoWaits : Addr} (X : K.In h) (G : h.Ns mainGlobals mg) (hfa : mg "law" = some (.ref fa))
    {odlongest anlongest odmean_wait anmean_wait od_ended an_ended od_law_feed an_law_feed od_law_draw an_law_draw od_law_of an_law_of od_law_names an_law_names od_law_waited an_law_waited od_law_mean an_law_mean odlaw anlaw odNoWaits___init__ anNoWaits___init__ : Option Addr} {sllongest slmean_wait sl_ended sl_law_feed sl_law_draw sl_law_of sl_law_names sl_law_waited sl_law_mean sllaw slNoWaits___init__ : Array (Option Value)} {oclongest kVlongest dclongest pmlongest cdlongest ctlongest ocmean_wait kVmean_wait dcmean_wait pmmean_wait cdmean_wait ctmean_wait oc_ended kV_ended dc_ended pm_ended cd_ended ct_ended oc_law_feed kV_law_feed dc_law_feed pm_law_feed cd_law_feed ct_law_feed oc_law_draw kV_law_draw dc_law_draw pm_law_draw cd_law_draw ct_law_draw oc_law_of kV_law_of dc_law_of pm_law_of cd_law_of ct_law_of oc_law_names kV_law_names dc_law_names pm_law_names cd_law_names ct_law_names oc_law_waited kV_law_waited dc_law_waited pm_law_waited cd_law_waited ct_law_waited oc_law_mean kV_law_mean dc_law_mean pm_law_mean cd_law_mean ct_law_mean oclaw kVlaw dclaw pmlaw cdlaw ctlaw ocNoWaits___init__ kVNoWaits___init__ dcNoWaits___init__ pmNoWaits___init__ cdNoWaits___init__ ctNoWaits___init__ : Value} {nmNoWaits qNoWaits : Str} {NNoWaits : Addr} {bsNoWaits : List Value} {snNoWaits : List Str} {subNoWaits : List Value} {abNoWaits : Bool} {colNoWaits : Option Bool} {ddNoWaits : Option Addr} {p0NoWaits p1NoWaits p2NoWaits p3NoWaits p5NoWaits : Option Value}
    (aNoWaits : PySem.W.nsIn K mainGlobals "NoWaits" = some (some (.ref CNoWaits))) (xlNoWaits : K.lookup CNoWaits = some (excClassObj nmNoWaits qNoWaits CNoWaits NNoWaits bsNoWaits [.type "ZeroDivisionError", .type "ArithmeticError", .type "Exception", .type "BaseException", .type "object"] true snNoWaits subNoWaits abNoWaits colNoWaits ddNoWaits p0NoWaits p1NoWaits p2NoWaits p3NoWaits p5NoWaits "ZeroDivisionError.__new__"))
    (hdNoWaits : PySem.W.hasDictIn K CNoWaits = true) (saNoWaits : PySem.W.findIn K (.ref CNoWaits) "__setattr__" = some (some (.builtin "object.__setattr__"))) (exNoWaits : PySem.W.subIn K (.ref CNoWaits) (.type "BaseException") = some true) (tyNoWaits : PySem.W.typeIn K (.ref CNoWaits) = some (.type "type")) (kcNoWaits : PySem.W.keepIn K (.ref CNoWaits) = true) (icNoWaits : PySem.W.isClsIn K CNoWaits = true) (seNoWaits : PySem.W.subIn K (.ref CNoWaits) (.ref CNoWaits) = some true) (upNoWaits : PySem.W.subIn K (.ref CNoWaits) (.type "ZeroDivisionError") = some true)
    (gaNoWaits : PySem.W.findIn K (.ref CNoWaits) "__getattribute__" = some (some (.builtin "BaseException.__getattribute__"))) (ggNoWaits : PySem.W.findIn K (.ref CNoWaits) "__getattr__" = some none) (haNoWaits : PySem.W.findIn K (.ref CNoWaits) "__class__" = some (some (.builtin "object.__class__"))) (hnNoWaits : PySem.W.specialIn K (.builtin "object.__class__") "__get__" = some (some (.builtin "getset_descriptor.__get__"))) (htNoWaits : PySem.W.takesIn K (.builtin "object.__class__") = some true) (hmNoWaits : PySem.W.mroIn K CNoWaits (.type "object") = some true)
    (nNoWaits_many : PySem.W.findIn K (.ref CNoWaits) "many" = some none)
    (snNoWaits_ValueError : PySem.W.subIn K (.ref CNoWaits) (.type "ValueError") = some false)
    (usNoWaits_ArithmeticError : PySem.W.subIn K (.ref CNoWaits) (.type "ArithmeticError") = some true)
    (aNoWaits___init__ : PySem.W.findIn K (.ref CNoWaits) "__init__" = some (some (.ref fNoWaits___init__))) (iNoWaits___init__ : PySem.W.isFn K (.ref fNoWaits___init__) = true) (lNoWaits___init__ : K.lookup fNoWaits___init__ = some ⟨ocNoWaits___init__, odNoWaits___init__, .func (PySem.W.fnOf "__init__" "NoWaits.__init__" (defArgs sNWInit) (defBody sNWInit) (defScope sNWInit) .none kVNoWaits___init__ dcNoWaits___init__ pmNoWaits___init__ anNoWaits___init__ cdNoWaits___init__ ctNoWaits___init__), slNoWaits___init__⟩) (cNoWaits___init__ : PySem.W.codeIn K cdNoWaits___init__ "NoWaits.__init__" = true) (kNoWaits___init__ : PySem.W.keepIn K (.ref fNoWaits___init__) = true)
    (alongest : PySem.W.nsIn K mainGlobals "longest" = some (some (.ref flongest))) (llongest : K.lookup flongest = some ⟨oclongest, odlongest, .func (PySem.W.fnOf "longest" "longest" (defArgs sLongest) (defBody sLongest) (defScope sLongest) .none kVlongest dclongest pmlongest anlongest cdlongest ctlongest), sllongest⟩) (clongest : PySem.W.codeIn K cdlongest "longest" = true) (klongest : PySem.W.keepIn K (.ref flongest) = true)
    (amean_wait : PySem.W.nsIn K mainGlobals "mean_wait" = some (some (.ref fmean_wait))) (lmean_wait : K.lookup fmean_wait = some ⟨ocmean_wait, odmean_wait, .func (PySem.W.fnOf "mean_wait" "mean_wait" (defArgs sMean) (defBody sMean) (defScope sMean) .none kVmean_wait dcmean_wait pmmean_wait anmean_wait cdmean_wait ctmean_wait), slmean_wait⟩) (cmean_wait : PySem.W.codeIn K cdmean_wait "mean_wait" = true) (kmean_wait : PySem.W.keepIn K (.ref fmean_wait) = true)
    (a_ended : PySem.W.nsIn K mainGlobals "_ended" = some (some (.ref f_ended))) (l_ended : K.lookup f_ended = some ⟨oc_ended, od_ended, .func (PySem.W.fnOf "_ended" "_ended" (defArgs sEnded) (defBody sEnded) (defScope sEnded) .none kV_ended dc_ended pm_ended an_ended cd_ended ct_ended), sl_ended⟩) (c_ended : PySem.W.codeIn K cd_ended "_ended" = true) (k_ended : PySem.W.keepIn K (.ref f_ended) = true)
    (a_law_feed : PySem.W.nsIn K mainGlobals "_law_feed" = some (some (.ref f_law_feed))) (l_law_feed : K.lookup f_law_feed = some ⟨oc_law_feed, od_law_feed, .func (PySem.W.fnOf "_law_feed" "_law_feed" (defArgs sFeed) (defBody sFeed) (defScope sFeed) .none kV_law_feed dc_law_feed pm_law_feed an_law_feed cd_law_feed ct_law_feed), sl_law_feed⟩) (c_law_feed : PySem.W.codeIn K cd_law_feed "_law_feed" = true) (k_law_feed : PySem.W.keepIn K (.ref f_law_feed) = true)
    (a_law_draw : PySem.W.nsIn K mainGlobals "_law_draw" = some (some (.ref f_law_draw))) (l_law_draw : K.lookup f_law_draw = some ⟨oc_law_draw, od_law_draw, .func (PySem.W.fnOf "_law_draw" "_law_draw" (defArgs sDraw) (defBody sDraw) (defScope sDraw) .none kV_law_draw dc_law_draw pm_law_draw an_law_draw cd_law_draw ct_law_draw), sl_law_draw⟩) (c_law_draw : PySem.W.codeIn K cd_law_draw "_law_draw" = true) (k_law_draw : PySem.W.keepIn K (.ref f_law_draw) = true)
    (a_law_of : PySem.W.nsIn K mainGlobals "_law_of" = some (some (.ref f_law_of))) (l_law_of : K.lookup f_law_of = some ⟨oc_law_of, od_law_of, .func (PySem.W.fnOf "_law_of" "_law_of" (defArgs sOf) (defBody sOf) (defScope sOf) .none kV_law_of dc_law_of pm_law_of an_law_of cd_law_of ct_law_of), sl_law_of⟩) (c_law_of : PySem.W.codeIn K cd_law_of "_law_of" = true) (k_law_of : PySem.W.keepIn K (.ref f_law_of) = true)
    (a_law_names : PySem.W.nsIn K mainGlobals "_law_names" = some (some (.ref f_law_names))) (l_law_names : K.lookup f_law_names = some ⟨oc_law_names, od_law_names, .func (PySem.W.fnOf "_law_names" "_law_names" (defArgs sNames) (defBody sNames) (defScope sNames) .none kV_law_names dc_law_names pm_law_names an_law_names cd_law_names ct_law_names), sl_law_names⟩) (c_law_names : PySem.W.codeIn K cd_law_names "_law_names" = true) (k_law_names : PySem.W.keepIn K (.ref f_law_names) = true)
    (a_law_waited : PySem.W.nsIn K mainGlobals "_law_waited" = some (some (.ref f_law_waited))) (l_law_waited : K.lookup f_law_waited = some ⟨oc_law_waited, od_law_waited, .func (PySem.W.fnOf "_law_waited" "_law_waited" (defArgs sWaited) (defBody sWaited) (defScope sWaited) .none kV_law_waited dc_law_waited pm_law_waited an_law_waited cd_law_waited ct_law_waited), sl_law_waited⟩) (c_law_waited : PySem.W.codeIn K cd_law_waited "_law_waited" = true) (k_law_waited : PySem.W.keepIn K (.ref f_law_waited) = true)
    (a_law_mean : PySem.W.nsIn K mainGlobals "_law_mean" = some (some (.ref f_law_mean))) (l_law_mean : K.lookup f_law_mean = some ⟨oc_law_mean, od_law_mean, .func (PySem.W.fnOf "_law_mean" "_law_mean" (defArgs sLMean) (defBody sLMean) (defScope sLMean) .none kV_law_mean dc_law_mean pm_law_mean an_law_mean cd_law_mean ct_law_mean), sl_law_mean⟩) (c_law_mean : PySem.W.codeIn K cd_law_mean "_law_mean" = true) (k_law_mean : PySem.W.keepIn K (.ref f_law_mean) = true)
    (alaw : PySem.W.nsIn K mainGlobals "law" = some (some (.ref flaw))) (llaw : K.lookup flaw = some ⟨oclaw, odlaw, .func (PySem.W.fnOf "law" "law" (defArgs sLaw) (defBody sLaw) (defScope sLaw) .none kVlaw dclaw pmlaw anlaw cdlaw ctlaw), sllaw⟩) (claw : PySem.W.codeIn K cdlaw "law" = true) (klaw : PySem.W.keepIn K (.ref flaw) = true)
    (zlen : PySem.W.nsIn K mainGlobals "len" = some none)
    (zlist : PySem.W.nsIn K mainGlobals "list" = some none)
    (zrange : PySem.W.nsIn K mainGlobals "range" = some none)
    (zmax : PySem.W.nsIn K mainGlobals "max" = some none)
    (zsum : PySem.W.nsIn K mainGlobals "sum" = some none)
    (zdivmod : PySem.W.nsIn K mainGlobals "divmod" = some none)
    (zisinstance : PySem.W.nsIn K mainGlobals "isinstance" = some none)
    (zrepr : PySem.W.nsIn K mainGlobals "repr" = some none)
    (zZeroDivisionError : PySem.W.nsIn K mainGlobals "ZeroDivisionError" = some none)
    (zArithmeticError : PySem.W.nsIn K mainGlobals "ArithmeticError" = some none)
    (zValueError : PySem.W.nsIn K mainGlobals "ValueError" = some none)
    : ∃ fd : FuncData, (∀ (s : Shared) (v : Value), BindsTo s fd ⟨[v], []⟩ [("_law_script", v)]) ∧ ∀ base : Heap, K.In base → base.Ns mainGlobals mg → FnOkG l.prog w K mg base CX0 6 fa fd ["_law_script"] (spLaw K) := by
  have e := hfa.symm.trans (PySem.W.mg_of X G alaw)
  cases e
  have glongest := PySem.W.mg_of X G alongest
  have Flongest := fun_mk (st := sLongest) llongest clongest klongest
  have blongest := Flongest.binds (ps := ["waited"]) fun _ _ _ _ _ _ us hl => match us, hl with | [_], _ => rfl
  have gmean_wait := PySem.W.mg_of X G amean_wait
  have Fmean_wait := fun_mk (st := sMean) lmean_wait cmean_wait kmean_wait
  have bmean_wait := Fmean_wait.binds (ps := ["waited"]) fun _ _ _ _ _ _ us hl => match us, hl with | [_], _ => rfl
  have g_ended := PySem.W.mg_of X G a_ended
  have F_ended := fun_mk (st := sEnded) l_ended c_ended k_ended
  have b_ended := F_ended.binds (ps := ["waited"]) fun _ _ _ _ _ _ us hl => match us, hl with | [_], _ => rfl
  have g_law_feed := PySem.W.mg_of X G a_law_feed
  have F_law_feed := fun_mk (st := sFeed) l_law_feed c_law_feed k_law_feed
  have b_law_feed := F_law_feed.binds (ps := ["_law_script"]) fun _ _ _ _ _ _ us hl => match us, hl with | [_], _ => rfl
  have g_law_draw := PySem.W.mg_of X G a_law_draw
  have F_law_draw := fun_mk (st := sDraw) l_law_draw c_law_draw k_law_draw
  have b_law_draw := F_law_draw.binds (ps := ["_law_feed_here", "_law_many"]) fun _ _ _ _ _ _ us hl => match us, hl with | [_, _], _ => rfl
  have g_law_of := PySem.W.mg_of X G a_law_of
  have F_law_of := fun_mk (st := sOf) l_law_of c_law_of k_law_of
  have b_law_of := F_law_of.binds (ps := ["_law_feed_here", "_law_some"]) fun _ _ _ _ _ _ us hl => match us, hl with | [_, _], _ => rfl
  have g_law_names := PySem.W.mg_of X G a_law_names
  have F_law_names := fun_mk (st := sNames) l_law_names c_law_names k_law_names
  have b_law_names := F_law_names.binds (ps := ["_law_feed_here", "_law_many"]) fun _ _ _ _ _ _ us hl => match us, hl with | [_, _], _ => rfl
  have g_law_waited := PySem.W.mg_of X G a_law_waited
  have F_law_waited := fun_mk (st := sWaited) l_law_waited c_law_waited k_law_waited
  have b_law_waited := F_law_waited.binds (ps := ["_law_feed_here", "_law_ends"]) fun _ _ _ _ _ _ us hl => match us, hl with | [_, _], _ => rfl
  have g_law_mean := PySem.W.mg_of X G a_law_mean
  have F_law_mean := fun_mk (st := sLMean) l_law_mean c_law_mean k_law_mean
  have b_law_mean := F_law_mean.binds (ps := ["_law_some"]) fun _ _ _ _ _ _ us hl => match us, hl with | [_], _ => rfl
  have glaw := PySem.W.mg_of X G alaw
  have Flaw := fun_mk (st := sLaw) llaw claw klaw
  have blaw := Flaw.binds (ps := ["_law_script"]) fun _ _ _ _ _ _ us hl => match us, hl with | [_], _ => rfl
  have oxNoWaits := oex_of PySem.F.excBase_ZeroDivisionError PySem.F.store_ZeroDivisionError xlNoWaits (by decide +kernel) hdNoWaits saNoWaits exNoWaits tyNoWaits kcNoWaits
  have gCNoWaits := PySem.W.mg_of X G aNoWaits
  have FNoWaits___init__ := fun_mk (st := sNWInit) lNoWaits___init__ cNoWaits___init__ kNoWaits___init__
  have bNoWaits___init__ := FNoWaits___init__.binds (ps := ["self", "many"]) fun _ _ _ _ _ _ us hl => match us, hl with | [_, _], _ => rfl
  have kblongest := fun_kbinds Flongest (ps := ["waited"]) (ks := ["waited"]) fun _ _ _ _ _ _ us ws hl => match us, ws, hl with | [], [_], _ => rfl | [_], [], _ => rfl
  have kbmean_wait := fun_kbinds Fmean_wait (ps := ["waited"]) (ks := ["waited"]) fun _ _ _ _ _ _ us ws hl => match us, ws, hl with | [], [_], _ => rfl | [_], [], _ => rfl
  have mlen := PySem.W.mg_none_of X G zlen
  have mlist := PySem.W.mg_none_of X G zlist
  have mrange := PySem.W.mg_none_of X G zrange
  have mmax := PySem.W.mg_none_of X G zmax
  have msum := PySem.W.mg_none_of X G zsum
  have mdivmod := PySem.W.mg_none_of X G zdivmod
  have misinstance := PySem.W.mg_none_of X G zisinstance
  have mrepr := PySem.W.mg_none_of X G zrepr
  have mZeroDivisionError := PySem.W.mg_none_of X G zZeroDivisionError
  have mArithmeticError := PySem.W.mg_none_of X G zArithmeticError
  have mValueError := PySem.W.mg_none_of X G zValueError
  exact ⟨_, fun s v => .of_eq rfl, fun base _ _ => ok_law ({ flongest := _, fdlongest := _, Flongest := Flongest, blongest := blongest, glongest := glongest, fmean_wait := _, fdmean_wait := _, Fmean_wait := Fmean_wait, bmean_wait := bmean_wait, gmean_wait := gmean_wait, f_ended := _, fd_ended := _, F_ended := F_ended, b_ended := b_ended, g_ended := g_ended, f_law_feed := _, fd_law_feed := _, F_law_feed := F_law_feed, b_law_feed := b_law_feed, g_law_feed := g_law_feed, f_law_draw := _, fd_law_draw := _, F_law_draw := F_law_draw, b_law_draw := b_law_draw, g_law_draw := g_law_draw, f_law_of := _, fd_law_of := _, F_law_of := F_law_of, b_law_of := b_law_of, g_law_of := g_law_of, f_law_names := _, fd_law_names := _, F_law_names := F_law_names, b_law_names := b_law_names, g_law_names := g_law_names, f_law_waited := _, fd_law_waited := _, F_law_waited := F_law_waited, b_law_waited := b_law_waited, g_law_waited := g_law_waited, f_law_mean := _, fd_law_mean := _, F_law_mean := F_law_mean, b_law_mean := b_law_mean, g_law_mean := g_law_mean, flaw := _, fdlaw := _, Flaw := Flaw, blaw := blaw, glaw := glaw, fNoWaits___init__ := _, fdNoWaits___init__ := _, FNoWaits___init__ := FNoWaits___init__, bNoWaits___init__ := bNoWaits___init__, kblongest := kblongest, kbmean_wait := kbmean_wait, mlen := mlen, mlist := mlist, mrange := mrange, mmax := mmax, msum := msum, mdivmod := mdivmod, misinstance := misinstance, mrepr := mrepr, mZeroDivisionError := mZeroDivisionError, mArithmeticError := mArithmeticError, mValueError := mValueError, CNoWaits := _, gCNoWaits := gCNoWaits, oxNoWaits := oxNoWaits, exNoWaits := exNoWaits, hdNoWaits := hdNoWaits, tyNoWaits := tyNoWaits, icNoWaits := icNoWaits, seNoWaits := seNoWaits, upNoWaits := upNoWaits, gaNoWaits := gaNoWaits, ggNoWaits := ggNoWaits, haNoWaits := haNoWaits, hnNoWaits := hnNoWaits, htNoWaits := htNoWaits, hmNoWaits := hmNoWaits, nNoWaits_many := nNoWaits_many, snNoWaits_ValueError := snNoWaits_ValueError, usNoWaits_ArithmeticError := usNoWaits_ArithmeticError, aNoWaits___init__ := aNoWaits___init__, iNoWaits___init__ := iNoWaits___init__, kNoWaits___init__ := kNoWaits___init__ } : Ev K mg)⟩
end Bb
open PySem PySem.W PyProof.Rows
set_option maxHeartbeats 0 in
theorem PySem.Challenge.cw_boatbridge_k65_longest_and_mean_holds : PySem.Challenge.rw_boatbridge_k65_longest_and_mean.Holds := by
  w_on; o_law; k_head; (case hw => w_witness2)
  k_fill
  refine Bb.walkG (l := PySem.Challenge.rw_boatbridge_k65_longest_and_mean) (n := 63) (k := 6) (x := "_law_script") (sp := fun w => Bb.spLaw _) rfl (by decide) rfl ⟨rfl, by decide, by decide⟩ (fun w h Y => PySem.W.kIn_of Y) ?F (fun _ _ a ns hl _ hS => ⟨a, ns, rfl, hS, hl, fun _ => rfl⟩)
  case F =>
    intro w mg fa h KX G hmg
    refine' Bb.all_mk KX G hmg ?aNoWaits ?xlNoWaits ?hdNoWaits ?saNoWaits ?exNoWaits ?tyNoWaits ?kcNoWaits ?icNoWaits ?seNoWaits ?upNoWaits ?gaNoWaits ?ggNoWaits ?haNoWaits ?hnNoWaits ?htNoWaits ?hmNoWaits ?nNoWaits_many ?snNoWaits_ValueError ?usNoWaits_ArithmeticError ?aNoWaits___init__ ?iNoWaits___init__ ?lNoWaits___init__ ?cNoWaits___init__ ?kNoWaits___init__ ?alongest ?llongest ?clongest ?klongest ?amean_wait ?lmean_wait ?cmean_wait ?kmean_wait ?a_ended ?l_ended ?c_ended ?k_ended ?a_law_feed ?l_law_feed ?c_law_feed ?k_law_feed ?a_law_draw ?l_law_draw ?c_law_draw ?k_law_draw ?a_law_of ?l_law_of ?c_law_of ?k_law_of ?a_law_names ?l_law_names ?c_law_names ?k_law_names ?a_law_waited ?l_law_waited ?c_law_waited ?k_law_waited ?a_law_mean ?l_law_mean ?c_law_mean ?k_law_mean ?alaw ?llaw ?claw ?klaw ?zlen ?zlist ?zrange ?zmax ?zsum ?zdivmod ?zisinstance ?zrepr ?zZeroDivisionError ?zArithmeticError ?zValueError
    (case aNoWaits => k_is)
    (case xlNoWaits => k_is)
    (case hdNoWaits => k_is)
    (case saNoWaits => k_is)
    (case exNoWaits => k_is)
    (case tyNoWaits => k_is)
    (case kcNoWaits => k_is)
    (case icNoWaits => k_is)
    (case seNoWaits => k_is)
    (case upNoWaits => k_is)
    (case gaNoWaits => k_is)
    (case ggNoWaits => k_is)
    (case haNoWaits => k_is)
    (case hnNoWaits => k_is)
    (case htNoWaits => k_is)
    (case hmNoWaits => k_is)
    (case nNoWaits_many => k_is)
    (case snNoWaits_ValueError => k_is)
    (case usNoWaits_ArithmeticError => k_is)
    (case aNoWaits___init__ => k_is)
    (case iNoWaits___init__ => k_is)
    (case lNoWaits___init__ => k_is)
    (case cNoWaits___init__ => k_is)
    (case kNoWaits___init__ => k_is)
    (case alongest => k_is)
    (case llongest => k_is)
    (case clongest => k_is)
    (case klongest => k_is)
    (case amean_wait => k_is)
    (case lmean_wait => k_is)
    (case cmean_wait => k_is)
    (case kmean_wait => k_is)
    (case a_ended => k_is)
    (case l_ended => k_is)
    (case c_ended => k_is)
    (case k_ended => k_is)
    (case a_law_feed => k_is)
    (case l_law_feed => k_is)
    (case c_law_feed => k_is)
    (case k_law_feed => k_is)
    (case a_law_draw => k_is)
    (case l_law_draw => k_is)
    (case c_law_draw => k_is)
    (case k_law_draw => k_is)
    (case a_law_of => k_is)
    (case l_law_of => k_is)
    (case c_law_of => k_is)
    (case k_law_of => k_is)
    (case a_law_names => k_is)
    (case l_law_names => k_is)
    (case c_law_names => k_is)
    (case k_law_names => k_is)
    (case a_law_waited => k_is)
    (case l_law_waited => k_is)
    (case c_law_waited => k_is)
    (case k_law_waited => k_is)
    (case a_law_mean => k_is)
    (case l_law_mean => k_is)
    (case c_law_mean => k_is)
    (case k_law_mean => k_is)
    (case alaw => k_is)
    (case llaw => k_is)
    (case claw => k_is)
    (case klaw => k_is)
    (case zlen => k_is)
    (case zlist => k_is)
    (case zrange => k_is)
    (case zmax => k_is)
    (case zsum => k_is)
    (case zdivmod => k_is)
    (case zisinstance => k_is)
    (case zrepr => k_is)
    (case zZeroDivisionError => k_is)
    (case zArithmeticError => k_is)
    (case zValueError => k_is)
