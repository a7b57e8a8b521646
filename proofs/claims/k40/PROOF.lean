import PyProof.Rows.All
import Wide.All
import OpenK.AllK
import Wide.FinOn
import PyProof.FString3
import PyProof.InstNe
import HandS.ForMost
import HandS.FStr
import HandS.StrMore
import HandS.IsInst
import HandS.Codes
import HandS.TryOnly
import HandS.SlotsOwn
import HandS.Defaults
import HandS.MakeKw
import HandS.MakeKwOnly
import HandS.OwnEq
import KE.KCallOwn
import KE.KFmtOwn
import HandS.ExcInit
import HandS.ExcIs
import HandS.ExcField
import HandS.ExcValue
import KE.KExcIs
import KE.KExcInit
import HandS.Conv
import OpenK.KOps
import PyProof.Rows.Range3
import PyProof.ListRange
import HandS.Style
import PyProof.ReprRoads
import PyProof.ExcBaseAll.LookupError
import HandS.SortInts
import HandS.SortKw
import HandS.Star
import HandS.Flow
import HandS.WordsExc
import HandS.FStrTup
import HandS.CallSlots
import HandS.IntHex
import PySem.Challenge.RW_boatbridge_k40_readings_by_wire
set_option Elab.async false
set_option linter.all false
set_option maxRecDepth 100000
namespace Bb
open PySem PySem.Spec PyProof.Rows L2 PySem.W
open C8 (pss_cut)
open TL (tl ext_tl partition_app partition_none)
def topS (i : Nat) : Stmt := PySem.Challenge.pw_boatbridge_k40_readings_by_wire.main.body.getD i (.Pass ⟨0, 0, 0, 0⟩)
abbrev sFeed : Stmt := topS 20
abbrev NFeed : List Str := ["_law_script"]
theorem scFeed : FnScope NFeed ["_law_script"] (defScope sFeed) := ⟨rfl, rfl, rfl, by decide +kernel, rfl, by decide +kernel, by decide +kernel⟩
abbrev sDraw : Stmt := topS 21
abbrev NDraw : List Str := ["_law_feed_here", "_law_many", "_law_found", "_law_spot", "_law_cell", "_law_mixed"]
theorem scDraw : FnScope NDraw ["_law_feed_here", "_law_many"] (defScope sDraw) := ⟨rfl, rfl, rfl, by decide +kernel, rfl, by decide +kernel, by decide +kernel⟩
abbrev sOf : Stmt := topS 22
abbrev NOf : List Str := ["_law_feed_here", "_law_some"]
theorem scOf : FnScope NOf ["_law_feed_here", "_law_some"] (defScope sOf) := ⟨rfl, rfl, rfl, by decide +kernel, rfl, by decide +kernel, by decide +kernel⟩

/-- the tape at T: the cells' list, the draws done (at most n), the rest of a great cell -/
structure Tape (H : Hp) (T c : Addr) (n : Nat) : Prop where
  ex : ∃ (t r : Int) (ns : List Int), H T = some (.lst [.ref c, .int t, .int r]) ∧ H c = some (.lst (ns.map V.int)) ∧ c ≠ T ∧ 0 ≤ t ∧ t ≤ n ∧ ns.length ≤ 63
/-- all but the tape stands as it stood -/
def Keep (T : Addr) (H H' : Hp) : Prop := ∀ a o, a ≠ T → H a = some o → H' a = some o
theorem Keep.refl {T : Addr} {H : Hp} : Keep T H H := fun _ _ _ e => e
theorem Keep.trans {T : Addr} {H H1 H2 : Hp} (a : Keep T H H1) (b : Keep T H1 H2) : Keep T H H2 := fun x o n e => b x o n (a x o n e)
theorem Keep.updT {T : Addr} {H H1 : Hp} {o : HO} (a : Keep T H H1) : Keep T H (upd H1 T o) := fun x o n e => by
  rw [upd_ne n]; exact a x o n e
theorem Keep.new {T : Addr} {H H1 : Hp} {p : Addr} {o : HO} (a : Keep T H H1) (h : H1 p = none) : Keep T H (upd H1 p o) := fun x o n e => by
  have z := a x o n e
  rw [upd_ne (ne_of_none z h)]; exact z
theorem Tape.mono {H : Hp} {T c : Addr} {n m : Nat} (h : Tape H T c n) (l : n ≤ m) : Tape H T c m := by
  obtain ⟨t, r, ns, h1, h2, h3, h4, h5, h6⟩ := h.ex
  exact ⟨t, r, ns, h1, h2, h3, h4, by omega, h6⟩
theorem Tape.upd {H : Hp} {T c : Addr} {n : Nat} {p : Addr} {o : HO} (h : Tape H T c n) (n1 : p ≠ T) (n2 : p ≠ c) : Tape (upd H p o) T c n := by
  obtain ⟨t, r, ns, h1, h2, h3, h4, h5, h6⟩ := h.ex
  exact ⟨t, r, ns, by rw [upd_ne n1.symm]; exact h1, by rw [upd_ne n2.symm]; exact h2, h3, h4, h5, h6⟩
theorem Tape.new {H : Hp} {T c : Addr} {n : Nat} {p : Addr} {o : HO} (h : Tape H T c n) (hp : H p = none) : Tape (L2.upd H p o) T c n := by
  obtain ⟨t, r, ns, h1, h2, h3, h4, h5, h6⟩ := h.ex
  exact ⟨t, r, ns, by rw [upd_ne (ne_of_none h1 hp)]; exact h1, by rw [upd_ne (ne_of_none h2 hp)]; exact h2, h3, h4, h5, h6⟩
theorem Tape.nec {H : Hp} {T c : Addr} {n : Nat} {p : Addr} (h : Tape H T c n) (hp : H p = none) : p ≠ c := by
  obtain ⟨t, r, ns, _, h2, _⟩ := h.ex
  exact (ne_of_none h2 hp).symm
theorem Tape.ne {H : Hp} {T c : Addr} {n : Nat} {p : Addr} (h : Tape H T c n) (hp : H p = none) : p ≠ T := by
  obtain ⟨t, r, ns, h1, _⟩ := h.ex
  exact (ne_of_none h1 hp).symm
theorem upd_at {H : Hp} {p a : Addr} {o z : HO} (hp : H p = none) (h : H a = some z) : (upd H p o) a = some z := by
  rw [upd_ne (ne_of_none h hp)]; exact h
def spTape (K : PySem.W.Frag) : Sp := fun vs H Q _ => ∃ (a : Addr) (ns : List Int), vs = [.ref a] ∧ SqL K H a (ns.map V.int) ∧ ns.length ≤ 63 ∧
  ∀ T c H', H T = none → H c = none → Same H H' → Tape H' T c 0 → Q (.ref T) H'
def spDraw : Sp := fun vs H Q _ => ∃ (T c : Addr) (b : Int) (n : Nat), vs = [.ref T, .int b] ∧ 0 < b ∧ b < 1073741824 ∧ n < 1000000 ∧ Tape H T c n ∧
  ∀ d H', 0 ≤ d → d < b → Tape H' T c (n + 1) → Keep T H H' → Q (.int d) H'
/-- an item of a list, any one -/
def spPick : Sp := fun vs H Q _ => ∃ (T c p : Addr) (xs : List V) (n : Nat), vs = [.ref T, .ref p] ∧ H p = some (.lst xs) ∧ p ≠ T ∧ 0 < xs.length ∧ xs.length < 1000000 ∧ n < 1000000 ∧ Tape H T c n ∧
  ∀ (j : Nat) (x : V) H', xs[j]? = some x → Tape H' T c (n + 1) → Keep T H H' → Q x H'
theorem dp_ints {K : PySem.W.Frag} {H : Hp} : ∀ ns : List Int, DpAll K H (ns.map V.int) (ns.map PyData.int)
  | [] => .nil
  | _ :: r => .cons (.int _) (dp_ints r)
theorem cut63 {ns : List Int} (h : ns.length ≤ 63) : cutV (ns.map V.int) none (some 63) = ns.map V.int := by
  unfold cutV
  rw [HT.sIx_none, show HT.sIx (ns.map V.int).length (ns.map V.int).length (some 63) = min 63 (ns.map V.int).length from HT.sIx_nat _ _ 63, List.length_map, Nat.min_eq_right h]
  show ((ns.map V.int).take (ns.length - 0)) = _
  rw [Nat.sub_zero]
  exact List.take_of_length_le (by rw [List.length_map]; exact Nat.le_refl _)
theorem fmod_in {a b : Int} (h : 0 < b) : 0 ≤ a.fmod b ∧ a.fmod b < b := by
  rw [Int.fmod_eq_emod_of_nonneg a (Int.le_of_lt h)]; exact ⟨Int.emod_nonneg a (by omega), Int.emod_lt_of_pos a h⟩
/-- what the law's helpers ask of the module's names -/
structure Txt0 (mg : Str → Option Value) : Prop where
  mlen : mg "len" = none
structure TxtF (mg : Str → Option Value) : Prop where
  mlist : mg "list" = none
section
variable {P : Program} {w : World} {K : PySem.W.Frag} {mg : Str → Option Value} {base : Heap}
theorem ok_draw {f : Addr} {fd : FuncData} {k : Nat} (F : Fun K "_law_draw" "_law_draw" sDraw f fd) (T : Txt0 mg) : FnOk P w K mg base CX0 (k + 1) f fd ["_law_feed_here", "_law_many"] spDraw := by
  refine F.ok scDraw (fun vs H Q E h => ?_) (fun cdv A outer s H vs Q E hr h => ?_)
  · obtain ⟨T, c, b, n, rfl, _⟩ := h
    rfl
  · obtain ⟨a, c, b, n, rfl, hb0, hb1, hn, hT, q⟩ := h
    obtain ⟨t, r, ns, h1, h2, h3, h4, h5, h6⟩ := hT.ex
    refine ⟨_,
      (pss_cons (ps_if (pt_cmpR op_gt (pe_ix ix_list (pv 0) pe_int (fun _ _ => rfl)) pe_int (nomark _))
      (pss_cons (ps_set (i := 2) scDraw.nd rfl (.inl rfl) (pe_op op_modN (pe_ix ix_list (pv 0) pe_int (fun _ _ => rfl)) (pv 1)))
      (pss_cons (ps_asg (pe_op op_fdivN (pe_ix ix_list (pv 0) pe_int (fun _ _ => rfl)) (pv 1)) (pg_sub (pv 0) pe_int set_list))
      (pss_one (ps_ret (pv 2)))))
      pss_nil)
      (pss_cons (ps_set (i := 3) scDraw.nd rfl (.inl rfl) (pe_ix ix_list (pv 0) pe_int (fun _ _ => rfl)))
      (pss_cut (ps_asg (pe_op op_add (pv 3) pe_int) (pg_sub (pv 0) pe_int set_list))
      (pss_cut (ps_set (i := 4) scDraw.nd rfl (.inl rfl) (pe_ifExp (pt_cmpR (op_neD hr.units) (pe_ix ix_list (pv 0) pe_int (fun _ _ => rfl)) (pe_lst pa_nil) (nomark _)) (pe_ix ix_list (pe_ix ix_list (pv 0) pe_int (fun _ _ => rfl)) (pe_op op_modN (pv 3) (pe_callB call_len_seq (by rfl) T.mlen PySem.boot_len (pa_cons (pe_ix ix_list (pv 0) pe_int (fun _ _ => rfl)) pa_nil))) (fun _ _ => rfl)) (pe_op op_add (pe_op op_mul pe_int (pv 3)) pe_int)))
      (pss_cut (ps_if (PW.pt (pw_and (pt_cmpR op_lt (pv 3) (pe_callB call_len_seq (by rfl) T.mlen PySem.boot_len (pa_cons (pe_ix ix_list (pv 0) pe_int (fun _ _ => rfl)) pa_nil)) (nomark _)) (pw_and1 (pt_cmpR op_ge (pv 4) (pe_op op_pow pe_int pe_int) (nomark _)))))
      (pss_cons (ps_asg (pe_op op_fdivN (pv 4) (pv 1)) (pg_sub (pv 0) pe_int set_list))
      (pss_one (ps_ret (pe_op op_modN (pv 4) (pv 1)))))
      pss_nil)
      (pss_cut (ps_set (i := 5) scDraw.nd rfl (.inl rfl) (pe_op op_modN (pe_op op_pow (pe_op op_add (pe_op op_add (pe_op op_modN (pv 4) pe_int) (pe_op op_mul pe_int (pv 3))) pe_int) pe_int) pe_int))
      (pss_cut (ps_set (i := 5) scDraw.nd rfl (.inl rfl) (pe_op op_modN (pe_op op_mul (pe_op op_add (pe_op op_fdivN (pv 5) pe_int) pe_int) (pe_op op_add (pe_op op_modN (pe_op op_mul pe_int (pv 3)) pe_int) pe_int)) pe_int))
      (pss_one (ps_ret (pe_op op_modN (pe_op op_fdivN (pv 5) pe_int) (pv 1)))))))))))
      , ?_⟩
    -- if feed[2] > 0
    refine ⟨_, rfl, a, _, 2, _, rfl, rfl, SqL.of h1, atI_nat (j := 2) rfl, _, _, rfl, rfl, _, rfl, ite2 (fun _ => ?_) (fun _ => ?_)⟩
    · obtain ⟨e1, e2⟩ := fmod_in (a := r) hb0
      refine ⟨_, rfl, a, _, 2, _, rfl, rfl, SqL.of h1, atI_nat (j := 2) rfl, _, rfl, _, _, rfl, rfl, by omega, ?_⟩
      refine ⟨_, rfl, a, _, 2, _, rfl, rfl, SqL.of h1, atI_nat (j := 2) rfl, _, rfl, _, _, rfl, rfl, ⟨by omega, by omega⟩, ?_⟩
      refine ⟨_, rfl, a, _, 2, 2, rfl, rfl, h1, rfl, ?_⟩
      refine ⟨_, rfl, q _ _ e1 e2 ⟨t, _, ns, upd_same, ?_, h3, h4, by omega, h6⟩ Keep.refl.updT⟩
      rw [upd_ne h3]; exact h2
    · refine ⟨_, rfl, a, _, 1, _, rfl, rfl, SqL.of h1, atI_nat (j := 1) rfl, ?_⟩
      refine ⟨fun σ H2 => σ = [some (.ref a), some (.int b), none, some (.int t), none, none] ∧ H2 a = some (.lst [.ref c, .int (t + 1), .int r]) ∧ H2 c = some (.lst (ns.map V.int)) ∧ Keep a H H2, ?_, ?_⟩
      · refine ⟨_, rfl, _, _, rfl, rfl, _, rfl, a, _, 1, 1, rfl, rfl, h1, rfl, rfl, upd_same, ?_, Keep.refl.updT⟩
        rw [upd_ne h3]; exact h2
      rintro σ H1 ⟨rfl, g1, g2, k0⟩
      refine ⟨fun σ H2 => ∃ cell : Int, σ = [some (.ref a), some (.int b), none, some (.int t), some (.int cell), none] ∧ H2 a = some (.lst [.ref c, .int (t + 1), .int r]) ∧ H2 c = some (.lst (ns.map V.int)) ∧ Keep a H H2, ?_, ?_⟩
      · refine ⟨_, rfl, a, _, 0, _, rfl, rfl, SqL.of g1, atI_nat (j := 0) rfl, Nat.zero_le _, fun l hl => ?_⟩
        have u1 := upd_at (o := .lst []) hl g1
        have u2 := upd_at (o := .lst []) hl g2
        refine ⟨_, .list [], .lst (SqL.of u2) (dp_ints _), .lst (SqL.of upd_same) .nil, ke_shaped_ints ns, ke_shaped_ints [], _, rfl, ?_⟩
        cases hns : ns with
        | nil =>
          refine iteF ⟨_, rfl, _, _, rfl, rfl, .inl ⟨by decide, by decide⟩, _, _, rfl, rfl, _, rfl, u1, by rw [← hns]; exact u2, k0.new hl⟩
        | cons z zs =>
          refine iteT ?_
          rw [← hns]
          have hpos : 0 < (ns.length : Int) := by rw [hns]; simp
          refine ⟨_, rfl, a, _, 0, _, rfl, rfl, SqL.of u1, atI_nat (j := 0) rfl, _, rfl, _, rfl, a, _, 0, _, rfl, rfl, SqL.of u1, atI_nat (j := 0) rfl, c, _, rfl, .inl (SqL.of u2), _, _, rfl, rfl, ?_, ?_⟩
          · rw [List.length_map]; omega
          · obtain ⟨e1, e2⟩ := fmod_in (a := t) hpos
            obtain ⟨j, hj⟩ := Int.eq_ofNat_of_zero_le e1
            have hj2 : j < ns.length := by omega
            refine ⟨c, _, (j : Int), .int ns[j], rfl, ?_, SqL.of u2, atI_nat ?_, _, rfl, u1, u2, k0.new hl⟩
            · exact congrArg V.int (by rw [List.length_map]; exact hj)
            · rw [List.getElem?_map, List.getElem?_eq_getElem hj2]; rfl
      · rintro σ H2 ⟨cell, rfl, u1, u2, k2⟩
        have tp : ∀ (r' : Int) (H3 : Hp), H3 a = some (.lst [.ref c, .int (t + 1), .int r']) → H3 c = some (.lst (ns.map V.int)) → Tape H3 a c (n + 1) := fun r' H3 x1 x2 => ⟨t + 1, r', ns, x1, x2, h3, by omega, by omega, h6⟩
        refine ⟨fun σ H3 => σ = [some (.ref a), some (.int b), none, some (.int t), some (.int cell), none] ∧ H3 = H2, ?_, ?_⟩
        · refine ⟨_, rfl, _, rfl, a, _, 0, _, rfl, rfl, SqL.of u1, atI_nat (j := 0) rfl, c, _, rfl, .inl (SqL.of u2), _, _, rfl, rfl, _, rfl, ite2 (fun _ => ?_) (fun _ => iteF ⟨rfl, rfl⟩)⟩
          refine ⟨_, rfl, _, _, rfl, rfl, ⟨by decide, by decide, by decide⟩, _, _, rfl, rfl, _, rfl, ite2 (fun _ => ?_) (fun _ => ⟨rfl, rfl⟩)⟩
          refine ⟨_, rfl, _, rfl, _, _, rfl, rfl, ⟨by omega, by omega⟩, _, rfl, a, _, 2, 2, rfl, rfl, u1, rfl, ?_⟩
          refine ⟨_, rfl, _, rfl, _, _, rfl, rfl, by omega, ?_⟩
          exact q _ _ (fmod_in hb0).1 (fmod_in hb0).2 (tp _ _ upd_same (by rw [upd_ne h3]; exact u2)) k2.updT
        · rintro σ H3 ⟨rfl, rfl⟩
          obtain ⟨c0, c1⟩ := fmod_in (a := cell) (b := 2147483629) (by decide)
          refine ⟨fun σ H4 => ∃ m1 : Int, σ = [some (.ref a), some (.int b), none, some (.int t), some (.int cell), some (.int m1)] ∧ H4 = H3, ?_, ?_⟩
          · refine ⟨_, rfl, _, _, rfl, rfl, (by show (2147483629 : Int) ≠ 0; decide), _, rfl, _, _, rfl, rfl, .inl ⟨by decide, by decide⟩, _, _, rfl, rfl, _, _, rfl, rfl, _, _, rfl, rfl, ⟨by decide, by decide, by omega⟩, _, _, rfl, rfl, (by show (2147483647 : Int) ≠ 0; decide), _, rfl, rfl⟩
          rintro σ H4 ⟨m1, rfl, rfl⟩
          refine ⟨fun σ H5 => ∃ m2 : Int, σ = [some (.ref a), some (.int b), none, some (.int t), some (.int cell), some (.int m2)] ∧ H5 = H4, ?_, ?_⟩
          · obtain ⟨f0, f1⟩ := fmod_in (a := 48271 * t) (b := 65521) (by decide)
            refine ⟨_, rfl, _, _, rfl, rfl, ⟨by decide, by decide⟩, _, _, rfl, rfl, _, rfl, _, _, rfl, rfl, .inl ⟨by decide, by decide⟩, _, _, rfl, rfl, (by show (65521 : Int) ≠ 0; decide), _, _, rfl, rfl, _, _, rfl, rfl, .inr ⟨by omega, by omega⟩, _, _, rfl, rfl, (by show (2147483587 : Int) ≠ 0; decide), _, rfl, rfl⟩
          rintro σ H5 ⟨m2, rfl, rfl⟩
          refine ⟨_, rfl, _, _, rfl, rfl, ⟨by decide, by decide⟩, _, rfl, _, _, rfl, rfl, by omega, ?_⟩
          exact q _ _ (fmod_in hb0).1 (fmod_in hb0).2 (tp _ _ u1 u2) k2
/-- an item of a list by a draw -/
theorem ok_of {f fD : Addr} {fd fdD : FuncData} {k : Nat} (F : Fun K "_law_of" "_law_of" sOf f fd) (T : Txt0 mg) (F_law_draw : Fun K "_law_draw" "_law_draw" sDraw fD fdD) (g_law_draw : mg "_law_draw" = some (.ref fD)) (b_law_draw : Binds K fdD ["_law_feed_here", "_law_many"] []) :
    FnOk P w K mg base CX0 (k + 2) f fd ["_law_feed_here", "_law_some"] spPick := by
  have G_law_draw : FnOk P w K mg base CX0 (k + 1) fD fdD ["_law_feed_here", "_law_many"] spDraw := ok_draw F_law_draw T
  refine F.ok scOf (fun vs H Q E h => ?_) (fun cdv A outer s H vs Q E hr h => ?_)
  · obtain ⟨T, c, p, xs, n, rfl, _⟩ := h
    rfl
  · obtain ⟨a, c, p, xs, n, rfl, hS, hpa, hx0, hx1, hn, hT, q⟩ := h
    have hr_law_draw := hr
    refine ⟨_,
      (pss_one (ps_ret (pe_ix ix_list (pv 1) (pe_call G_law_draw hr_law_draw (by rfl) g_law_draw F_law_draw.kp b_law_draw .nil pass0 (pa_cons (pv 0) (pa_cons (pe_callB call_len_seq (by rfl) T.mlen PySem.boot_len (pa_cons (pv 1) pa_nil)) pa_nil))) (fun _ _ => rfl))))
      , ?_⟩
    refine ⟨_, rfl, _, rfl, _, rfl, p, xs, rfl, .inl (SqL.of hS), a, c, xs.length, n, rfl, by omega, by omega, hn, hT, fun d H' d0 d1 T' k' => ?_⟩
    obtain ⟨j, rfl⟩ := Int.eq_ofNat_of_zero_le d0
    have hj : j < xs.length := by omega
    exact ⟨p, xs, (j : Int), xs[j], rfl, rfl, SqL.of (k' p _ hpa hS), atI_nat (List.getElem?_eq_getElem hj), q j _ _ (List.getElem?_eq_getElem hj) T' k'⟩
/-- the tape's making: the cells in a list of their own -/
theorem ok_feed {f : Addr} {fd : FuncData} {k : Nat} (F : Fun K "_law_feed" "_law_feed" sFeed f fd) (T : TxtF mg) : FnOk P w K mg base CX0 (k + 1) f fd ["_law_script"] (spTape K) := by
  refine F.ok scFeed (fun vs H Q E h => ?_) (fun cdv A outer s H vs Q E hr h => ?_)
  · obtain ⟨a, ns, rfl, _⟩ := h
    rfl
  · obtain ⟨a, ns, rfl, hS, hlen, q⟩ := h
    refine ⟨_,
      (pss_one (ps_ret (pe_lst (pa_cons (pe_callTy call_list_of (by rfl) T.mlist (by decide +kernel) (pa_cons (pe_slice sl_list (pv 0) po_none (po_some pe_int)) pa_nil)) (pa_cons pe_int (pa_cons pe_int pa_nil))))))
      , ?_⟩
    refine ⟨_, rfl, _, rfl, a, _, rfl, hS, fun p0 hp0 => ?_⟩
    refine ⟨p0, _, rfl, .inl (SqL.of upd_same), fun p hp => ?_⟩
    refine ⟨by show 3 ≤ sizeLine; decide, fun l hl => ?_⟩
    have nlp : p ≠ l := fun e => by rw [e, upd_same] at hl; cases hl
    have hp1 : H p = none := by
      by_cases e : p = p0
      · rw [e, upd_same] at hp; cases hp
      · rw [upd_ne e] at hp; exact hp
    have hl0 : H l = none := by
      rw [upd_ne nlp.symm] at hl
      by_cases e : l = p0
      · rw [e, upd_same] at hl; cases hl
      · rw [upd_ne e] at hl; exact hl
    refine q l p _ hl0 hp1 (fun b o e => upd_at hl (upd_at hp (upd_at hp0 e))) ⟨0, 0, ns, upd_same, ?_, nlp, by omega, by omega, hlen⟩
    rw [upd_ne nlp, upd_same, cut63 hlen]
end
/-! ### heaps that grow -/
theorem Tape.same {H H' : Hp} {T c : Addr} {n : Nat} (h : Tape H T c n) (s : Same H H') : Tape H' T c n := by
  obtain ⟨t, r, ns, h1, h2, h3, h4, h5, h6⟩ := h.ex
  exact ⟨t, r, ns, s _ _ h1, s _ _ h2, h3, h4, h5, h6⟩
theorem Keep.same {T : Addr} {H H1 H2 : Hp} (a : Keep T H H1) (b : Same H1 H2) : Keep T H H2 := fun x o n e => b x o (a x o n e)
theorem same_upd {H : Hp} {p : Addr} {o : HO} (h : H p = none) : Same H (upd H p o) := fun b x e => by
  rw [upd_ne (ne_of_none e h)]; exact e
theorem same_refl {H : Hp} : Same H H := fun _ _ e => e
theorem small_line {n : Nat} (h : n ≤ 100) : n ≤ sizeLine := Nat.le_trans h (by decide)
/-! ### a call with keywords alone -/
section
variable {X : Cx} {CX : CXT} {k : Nat} {f : Addr} {fd : FuncData} {ps ks : List Str} {sp : Sp} {E : XK} {x : Str} {p pos : Pos} {kws : List Keyword} {tk : TA} {g : List Value → List Value → List Value} {gV : List V → List V → List V}
theorem pe_callK0 (F : FnOk X.prog X.w X.K X.mg X.base CX k f fd ps sp) (hr : Room k X.A) (hg : Gl X x) (hm : X.mg x = some (.ref f)) (hk : PySem.W.keepIn X.K (.ref f) = true) (hb : KBinds X.K fd ps ks g gV) (hx : Passes CX X E)
    (hkw : PK X kws tk) (hall : (backToKw pos (keywordEach kws X.env)).all (·.1.isSome) = true := by rfl) (hks : (backToKw pos (keywordEach kws X.env)).filterMap (·.1) = ks := by rfl)
    (hdb : (x == ("__debug__" : Str)) = false := by decide)
    (hpl : ((backTo pos (starEach [] X.env)).any (·.1) || (backToKw pos (keywordEach kws X.env)).any (·.1.isNone)) = false := by rfl) :
    PE X (.Call (.Name x p) [] kws pos) (tCallK sp gV E tNil tk) := by
  refine ⟨fun pins s σ H Q I h => ?_⟩
  refine wpAny_Call_Name_kw (ld_glob I hg hm ?_ hdb)
  refine PySem.W.callWith_KW0 (h₀ := X.base) I.ok.mod.kin hk hall ?_ hpl
  refine thn (hkw.run pos pins s σ H _ I h) fun ws s2 ⟨zs, H2, I2, rz, q2⟩ => ⟨I2.kIn, ?_⟩
  rw [hks]
  exact run_fnk F hr hb hx I2 .nil rz q2
/-- keywords in the parameters' own order -/
theorem fun_kbinds {K : Frag} {x qual : Str} {st : Stmt} {f : Addr} {fd : FuncData} {ps ks : List Str} (F : Fun K x qual st f fd)
    (h : ∀ (kV doc pm : Value) (an : Option Addr) (cdv ct : Value) (us ws : List Value), (us ++ ws).length = ps.length → bindArgs (PySem.W.fnOf x qual (defArgs st) (defBody st) (defScope st) .none kV doc pm an cdv ct) ⟨us, ks.zip ws⟩ = pure (ps.zip (us ++ ws))) :
    KBinds K fd ps ks (· ++ ·) (· ++ ·) := by
  obtain ⟨oc, od, kV, doc, pm, an, cdv, ct, osl, rfl, lk, hcd⟩ := F.ex
  exact ⟨fun s us ws _ hl => .of_eq (h kV doc pm an cdv ct us ws hl), fun a b => a.append b⟩
theorem vals_rev : ∀ {zs : List V} {ws : List Value}, Vals zs ws → Vals zs.reverse ws.reverse
  | _, _, .nil => .nil
  | _, _, .cons r t => by
    rw [List.reverse_cons, List.reverse_cons]
    exact (vals_rev t).append (.cons r .nil)
/-- all by keywords -/
def kwAll {α : Type} (n : Nat) (us ws : List α) : List α := if us.length = 0 ∧ ws.length = n then ws else []
theorem kwAll_vals {n : Nat} {vs zs : List V} {us ws : List Value} (a : Vals vs us) (b : Vals zs ws) : Vals (kwAll n vs zs) (kwAll n us ws) := by
  unfold kwAll
  rw [a.length, b.length]
  split
  · exact b
  · exact .nil
theorem fun_kbindsA {K : Frag} {x qual : Str} {st : Stmt} {f : Addr} {fd : FuncData} {ps ks : List Str} (F : Fun K x qual st f fd) (hn : ps ≠ [])
    (h : ∀ (kV doc pm : Value) (an : Option Addr) (cdv ct : Value) (ws : List Value), ws.length = ps.length → bindArgs (PySem.W.fnOf x qual (defArgs st) (defBody st) (defScope st) .none kV doc pm an cdv ct) ⟨[], ks.zip ws⟩ = pure (ps.zip ws)) :
    KBinds K fd ps ks (kwAll ps.length) (kwAll ps.length) := by
  obtain ⟨oc, od, kV, doc, pm, an, cdv, ct, osl, rfl, lk, hcd⟩ := F.ex
  refine ⟨fun s us ws _ hl => ?_, kwAll_vals⟩
  unfold kwAll at hl ⊢
  split at hl
  · rename_i c
    rw [if_pos c, List.eq_nil_of_length_eq_zero c.1]
    exact .of_eq (h kV doc pm an cdv ct ws c.2)
  · exact absurd (List.eq_nil_of_length_eq_zero hl.symm) hn
/-- all by keywords, in the parameters' order turned about -/
theorem fun_kbindsR {K : Frag} {x qual : Str} {st : Stmt} {f : Addr} {fd : FuncData} {ps ks : List Str} (F : Fun K x qual st f fd) (hn : ps ≠ [])
    (h : ∀ (kV doc pm : Value) (an : Option Addr) (cdv ct : Value) (ws : List Value), ws.length = ps.length → bindArgs (PySem.W.fnOf x qual (defArgs st) (defBody st) (defScope st) .none kV doc pm an cdv ct) ⟨[], ks.zip ws⟩ = pure (ps.zip ws.reverse)) :
    KBinds K fd ps ks (fun us ws => (kwAll ps.length us ws).reverse) (fun us ws => (kwAll ps.length us ws).reverse) := by
  obtain ⟨oc, od, kV, doc, pm, an, cdv, ct, osl, rfl, lk, hcd⟩ := F.ex
  refine ⟨fun s us ws _ hl => ?_, fun a b => vals_rev (kwAll_vals a b)⟩
  rw [List.length_reverse] at hl
  unfold kwAll at hl ⊢
  split at hl
  · rename_i c
    rw [if_pos c, List.eq_nil_of_length_eq_zero c.1]
    exact .of_eq (h kV doc pm an cdv ct ws c.2)
  · exact absurd (List.eq_nil_of_length_eq_zero hl.symm) hn
end
/-! ### defs that are called where no repr is under way (so that repr of lists and tuples is known) -/
structure FnOkG (P : Program) (w : World) (K : PySem.W.Frag) (mg : Str → Option Value) (base : Heap) (CX : CXT) (k : Nat) (f : Addr) (fd : FuncData) (ps : List Str) (sp : Sp) : Prop where
  many : ∀ vs H Q E, sp vs H Q E → vs.length = ps.length
  goes : ∀ (A : Around) (outer : List Env) (s : Shared) (H : Hp) (args : Args) (us : List Value) (vs : List V) (Q : VK) (E : XK), A.guards = some [] → Room k A → Env0 P w K mg base A outer s H → BindsTo s fd args (ps.zip us) → Vals vs us → sp vs H Q E →
    codeAny (model P w) A (.call (.ref f) args) (CR CX outer P w H s Q E) s
theorem FnOk.g {P : Program} {w : World} {K : PySem.W.Frag} {mg : Str → Option Value} {base : Heap} {CX : CXT} {k : Nat} {f : Addr} {fd : FuncData} {ps : List Str} {sp : Sp} (F : FnOk P w K mg base CX k f fd ps sp) : FnOkG P w K mg base CX k f fd ps sp :=
  ⟨F.len, fun A o s H a us vs Q E _ => F.run A o s H a us vs Q E⟩
section
variable {P : Program} {w : World} {K : PySem.W.Frag} {mg : Str → Option Value} {base : Heap}
theorem okG {x qual : Str} {st : Stmt} {f : Addr} {fd : FuncData} {N ps : List Str} {k : Nat} {sp : Sp} (F : Fun K x qual st f fd) (S : FnScope N ps (defScope st)) (hn : ∀ vs H Q E, sp vs H Q E → vs.length = ps.length)
    (hb : ∀ (cdv : Value) (A : Around) (outer : List Env) (s : Shared) (H : Hp) (vs : List V) (Q : VK) (E : XK), A.guards = some [] → Room k (A.deeper (envOfC qual (defScope st) s.heap.objs.size f cdv)) → sp vs H Q E →
      ∃ t, PSs (cxOf CX0 P w K mg base N qual (defScope st) f cdv A outer s H E).nox (defBody st) t ∧ t { nx := fun _ H' => Q .non H', rt := Q } (start N vs) H) : FnOkG P w K mg base CX0 (k + 1) f fd ps sp := by
  obtain ⟨oc, od, kV, doc, pm, an, cdv, ct, osl, rfl, lk, hcd⟩ := F.ex
  constructor
  · exact hn
  intro A outer s H args us vs Q E gd hr env bnd rel want
  have olds : ∀ z y, base.get? z = some y → s.heap.get? z = some y := fun z y e => (env.bs z y e).1
  have inK : K.In s.heap := env.mod.kin.keeps olds
  have vis : ∀ q ∈ ps.zip us, (defScope st).names.lookup q.1 = some .local ∨ ((defScope st).names.lookup q.1 = some .cell ∧ ((cellsFrom (s.heap.objs.size + 1) (defScope st).names []).lookup q.1).isSome = true) := by
    intro q hq
    obtain ⟨n, v⟩ := q
    exact (S.par n (List.of_mem_zip hq).1).elim Or.inl fun c => Or.inr ⟨c, PySem.W.cellsFrom_some _ _ _ (Or.inl c)⟩
  apply codeAny_call_function hr.depth (inK _ _ lk) rfl S.co S.gen rfl (PySem.W.codeRec_of inK hcd)
  apply bnd
  refine wpAny_newFunctionEnv_cells S.kind vis fun env' he s1 x => ?_
  cases he
  refine ⟨(env.mod.nolimit.keeps olds).keeps x.toInCall.keep, codeAny_func ?_⟩
  obtain ⟨t, ht, hq⟩ := hb cdv A outer s H vs Q E gd (hr.deeper _) want
  have ht := ht.nox
  have J0 : L2.Inv (cxOf CX0 P w K mg base N qual (defScope st) f cdv A outer s H E) [] (start N vs) H s1 := inv_start S hr.hd env (hn _ _ _ _ want) rel x
  refine wpAny_mono (ht.run [] s1 (start N vs) H _ J0 hq) (fun fl s' z => ?_) fun _ _ z => z
  match fl, z with
  | .ret u, ⟨v, σ', H', J, rv, q⟩ => exact ⟨v, H', J.os, J.bare, J.base, J.hok, rv, q⟩
  | .next, ⟨σ', H', J, q⟩ => exact ⟨V.non, H', J.os, J.bare, J.base, J.hok, rfl, q⟩
  | .brk, ⟨_, _, _, q⟩ => exact q.elim
  | .cont, ⟨_, _, _, q⟩ => exact q.elim
end
section
variable {X : Cx} {CX : CXT} {k : Nat} {f : Addr} {fd : FuncData} {ps : List Str} {sp : Sp} {dvs : List V} {ds : List Value} {E : XK} {x : Str} {p pos : Pos} {e : Expr} {es : List Expr} {t : TA}
/-- f(e, ..), f such a def -/
theorem pe_callG (F : FnOkG X.prog X.w X.K X.mg X.base CX k f fd ps sp) (gd : X.A.guards = some []) (hr : Room k X.A) (hg : Gl X x) (hm : X.mg x = some (.ref f)) (hk : PySem.W.keepIn X.K (.ref f) = true) (hb : L2.Binds X.K fd ps ds) (hd : Vals dvs ds) (hx : Passes CX X E)
    (ha : PA X (e :: es) t) (n1 : (x == ("__debug__" : Str)) = false := by decide) (n2 : starEach (e :: es) X.env = (false, eval e X.env) :: starEach es X.env := by rfl) (n3 : (backTo pos (starEach es X.env)).any (·.1) = false := by rfl) :
    PE X (.Call (.Name x p) (e :: es) [] pos) (tCall sp dvs E t) := by
  constructor
  intro pins s σ H Q I h
  apply wpAny_Call_Name_kw (ld_glob I hg hm ?_ n1)
  refine PySem.W.callWith_K (h₀ := X.base) I.ok.mod.kin hk (thn (ha.run pos pins s σ H _ I h) ?_) n2 n3
  rintro us s1 ⟨vs, H1, I1, r, q⟩
  refine ⟨I1.kIn, ?_⟩
  have rr : Vals (vs ++ dvs) (us ++ ds) := r.append hd
  have ll : (us ++ ds).length = ps.length := rr.length.symm.trans (F.many _ _ _ _ q)
  refine wpAny_call (codeAny_mono (F.goes X.A X.stack s1 H1 ⟨us, []⟩ (us ++ ds) (vs ++ dvs) Q E gd hr I1.env0 (hb s1 us I1.kIn ll) rr q) fun z s' hz => ?_)
  match z, hz with
  | .error er, hz => exact hx pins σ H1 s1 er s' I1 hz
  | .ok (.ret u), hz => exact I1.after hz
  | .ok .next, hz => exact (show False from hz).elim
  | .ok .brk, hz => exact (show False from hz).elim
  | .ok .cont, hz => exact (show False from hz).elim
/-- repr(x) of data -/
def rReprD (K : PySem.W.Frag) : List V → Hp → VK → Prop := fun xs H Q => ∃ x d, xs = [x] ∧ Dp K H x d ∧ SeqAt.shaped d = true ∧ d.showable = true ∧ d.shown.length ≤ sizeLine ∧ Q (.str d.shown) H
theorem call_reprD (gd : X.A.guards = some []) (hr : Room k X.A) : CallR X (.builtin "repr") (rReprD X.K) := by
  intro pins s σ H xs us Q I r h
  obtain ⟨y, d, rfl, hd, sh, sw, sz, q⟩ := h
  obtain ⟨u, rfl, ru⟩ := Vals.one r
  have dd := SeqAt.depth_of_shaped sh
  have un := hr.un
  have nd : d.hasDict = true → sysModules ∉ ([] : List Addr) := fun z => by rw [PyData.hasDict_of_canLay d (SeqAt.canLay_of_shaped sh)] at z; cases z
  cases hd with
  | non =>
    cases (show u = Value.none from ru)
    exact P.repr_of_none ⟨V.str "None", H, I.tok _, ⟨_, rfl⟩, by rw [PyData.shown] at q; exact q⟩
  | bl b =>
    cases (show u = Value.bool b from ru)
    exact P.repr_of_bool ⟨V.str (if b then "True" else "False"), H, I.tok _, ⟨_, rfl⟩, by rw [PyData.shown] at q; exact q⟩
  | int i =>
    obtain ⟨t, rfl⟩ := (show ∃ t, u = Value.int i t from ru)
    refine P.repr_of_int (of_decide_eq_true (by rw [PyData.showable] at sw; exact sw)) ⟨V.str (toString i), H, I.tok _, ⟨_, rfl⟩, by rw [PyData.shown] at q; exact q⟩
  | str z =>
    obtain ⟨t, rfl⟩ := (show ∃ t, u = Value.str z t from ru)
    exact P.repr_of_str ⟨V.str (reprText z), H, I.tok _, ⟨_, rfl⟩, by rw [PyData.shown] at q; exact q⟩ (by rw [PyData.shown] at sz; exact sz)
  | lst a b =>
    obtain ⟨as, rd⟩ := Dp.reads I _ _ u (.lst a b) ru
    cases ru
    exact repr_of_reads' rd sw (fun z => by rw [PyData.hasDict_of_canLay _ (SeqAt.canLay_of_shaped sh)] at z; cases z) gd (by omega) (fun _ _ z => z) (fun h' t' tk hk => ⟨V.str (PyData.shown _), H, I.kept hk, ⟨_, rfl⟩, q⟩) sz
  | tup a b =>
    obtain ⟨as, rd⟩ := Dp.reads I _ _ u (.tup a b) ru
    cases ru
    exact repr_of_reads' rd sw (fun z => by rw [PyData.hasDict_of_canLay _ (SeqAt.canLay_of_shaped sh)] at z; cases z) gd (by omega) (fun _ _ z => z) (fun h' t' tk hk => ⟨V.str (PyData.shown _), H, I.kept hk, ⟨_, rfl⟩, q⟩) sz
end
/-! ### the law's end, for such a law -/
section
variable {P : Program} {w : World} {K : PySem.W.Frag} {mg mb : Str → Option Value} {k : Nat} {fa a : Addr} {fd : FuncData} {x : Str} {sp : Sp} {s₁ : Shared} {vs : List Value} {ns : List Int}
/-- from a heap in which nothing but the script may stand -/
theorem lawG0 (KX : K.In s₁.heap) (g1 : s₁.heap.Ns mainGlobals mg) (g2 : s₁.heap.Ns builtinsNs mb) (g3 : ∀ x : Str, x ≠ "__name__" → mb x = bootBuiltins x) (g4 : s₁.heap.NoLimit) (g5 : s₁.gens = #[])
    (ha : s₁.heap.get? a = some { cls := .type "list", data := .seq vs.toArray }) (hr : Room k callerA)
    (F : ∀ base : Heap, K.In base → base.Ns mainGlobals mg → FnOkG P w K mg base CX0 k fa fd [x] sp) (bd : ∀ (s : Shared) (u : Value), BindsTo s fd ⟨[u], []⟩ [(x, u)])
    (H : Hp) (hO : Only H) (want : sp [.ref a] H (fun v _ => v = .bl true) fun _ _ _ => False) (ok : HOk P w H s₁.heap) (hA : ∀ b, H b ≠ none → b = a) (hK : H a ≠ none → K.lookup a = none) :
    codeAny (model P w) callerA (.call (.ref fa) ⟨[.ref a], []⟩) (fun r s' => r = .ok (.ret (.bool true)) ∧ OldK s₁.heap s'.heap ∧ s'.os = s₁.os ∧ AllBare s'.gens) s₁ := by
  have noA : ∀ {b : Addr} {o : Obj} {es : Array DictEntry} {ep : Nat}, s₁.heap.get? b = some o → o.data = .dict es ep → H b = none := by
    intro b o es ep e d
    apply Classical.byContradiction
    intro z
    have e2 := e
    rw [hA b z, ha] at e2
    cases e2
    exact nomatch (show Data.seq vs.toArray _ = Data.dict es ep from d)
  have nsK : ∀ {b : Addr} {m : Str → Option Value}, s₁.heap.Ns b m → (hidT s₁.heap H).Ns b m := by
    rintro b m ⟨o, es, ep, e, d, r⟩
    exact ⟨o, es, ep, hidT_get e (noA e d), d, r⟩
  have kb : K.In (hidT s₁.heap H) := by
    intro b o e
    refine hidT_get (KX b o e) (Classical.byContradiction fun z => ?_)
    have eb := hA b z
    subst eb
    rw [hK z] at e
    cases e
  have M : Mod K mg (hidT s₁.heap H) := by
    obtain ⟨mc, h1, h2⟩ := g4
    exact ⟨kb, nsK g1, ⟨mb, nsK g2, g3⟩, ⟨mc, nsK h1, h2⟩⟩
  have e0 : Env0 P w K mg (hidT s₁.heap H) callerA [] s₁ H :=
    { frames := rfl, mod := M, bs := fun b o e => of_hidT e, bsz := Nat.le_of_eq (hidT_size _ _), funs := trivial, frf := fun b z => absurd (show b ∈ ([] : List Addr) from z) (by simp), hok := ok, bare := .of_eq g5 }
  have run := (F _ kb (nsK g1)).goes callerA [] s₁ H ⟨[.ref a], []⟩ [.ref a] [.ref a] _ _ rfl hr e0 (bd s₁ (.ref a)) (.cons rfl .nil) want
  refine codeAny_mono run fun r s' h => ?_
  match r, h with
  | .error e, h => exact (show False from h).elim
  | .ok .next, h => exact (show False from h).elim
  | .ok .brk, h => exact (show False from h).elim
  | .ok .cont, h => exact (show False from h).elim
  | .ok (.ret u), ⟨v, H', os, bare, un, ok', rv, (qv : v = .bl true)⟩ =>
    cases qv
    cases (show u = Value.bool true from rv)
    refine ⟨rfl, OldK.of_keep fun b o e => ?_, os, bare⟩
    cases q : H b with
    | none => exact un.keep b o e q (fun z => absurd (show b ∈ ([] : List Addr) from z) (by simp)) (by simp)
    | some y =>
      rcases hO b with z | ⟨ob, xs, z⟩
      · rw [z] at q; cases q
      · have f1 := (ok b _ z).1
        have f2 := (ok' b _ (un.frzs b ob _ z)).1
        rw [f1] at e
        cases e
        exact f2
theorem lawG (KX : K.In s₁.heap) (g1 : s₁.heap.Ns mainGlobals mg) (g2 : s₁.heap.Ns builtinsNs mb) (g3 : ∀ x : Str, x ≠ "__name__" → mb x = bootBuiltins x) (g4 : s₁.heap.NoLimit) (g5 : s₁.gens = #[])
    (ha : s₁.heap.get? a = some { cls := .type "list", data := .seq vs.toArray }) (hi : IntsAre vs ns) (hl : ns.length ≤ sizeLine) (hr : Room k callerA)
    (F : ∀ base : Heap, K.In base → base.Ns mainGlobals mg → FnOkG P w K mg base CX0 k fa fd [x] sp) (bd : ∀ (s : Shared) (u : Value), BindsTo s fd ⟨[u], []⟩ [(x, u)])
    (want : ∀ H : Hp, Only H → SqL K H a (ns.map V.int) → sp [.ref a] H (fun v _ => v = .bl true) fun _ _ _ => False) :
    codeAny (model P w) callerA (.call (.ref fa) ⟨[.ref a], []⟩) (fun r s' => r = .ok (.ret (.bool true)) ∧ OldK s₁.heap s'.heap ∧ s'.os = s₁.os ∧ AllBare s'.gens) s₁ := by
  have rv := vals_ints hi
  rcases hk : K.lookup a with _ | o
  · let H : Hp := fun b => if b = a then some (.frz { cls := .type "list", data := .seq vs.toArray } (.lst (ns.map V.int))) else none
    have Ha : H a = some (.frz { cls := .type "list", data := .seq vs.toArray } (.lst (ns.map V.int))) := if_pos rfl
    have Hn : ∀ b, b ≠ a → H b = none := fun b n => if_neg n
    have hO : Only H := fun b => (Classical.em (b = a)).elim (fun e => .inr ⟨_, _, e ▸ Ha⟩) fun n => .inl (Hn b n)
    have hA : ∀ b, H b ≠ none → b = a := fun b z => Classical.byContradiction fun n => z (Hn b n)
    refine lawG0 KX g1 g2 g3 g4 g5 ha hr F bd H hO (want H hO (.inl (.inr ⟨_, Ha⟩))) (fun b u z => ?_) hA fun _ => hk
    have e := hA b (by rw [z]; intro y; cases y)
    subst e
    rw [Ha] at z
    cases z
    exact ⟨ha, by rw [List.length_map]; exact hl, vs, _, rv, ha⟩
  · have e := KX a o hk
    rw [ha] at e
    cases e
    refine lawG0 KX g1 g2 g3 g4 g5 ha hr F bd (fun _ => none) (fun _ => .inl rfl) (want _ (fun _ => .inl rfl) (.inr ⟨_, vs.toArray, _, hk, rfl, rfl, rfl, by rw [List.size_toArray, hi.length]; exact hl, by simpa using rv⟩)) (fun b u z => nomatch (show (none : Option HO) = some u from z)) (fun b z => absurd rfl z) fun z => absurd rfl z
end
theorem walkG {l : PySem.W.OpenLaw} {n k : Nat} {q : Program} {loose : List Str} {XP : (Str → Option Value) → Heap → Prop} {YP : World → Heap → Prop} {d : DefRec} {K : Params → PySem.W.Frag} {sp : World → Sp} {x : Str}
    (hn : l.most = some n) (hn2 : n ≤ sizeLine) (hdf : d.params.defaults = []) (hr : Room k callerA) (hY : ∀ (w : World) (h : Heap), YP w h → (K w.params).In h)
    (F : ∀ (w : World) (mg : Str → Option Value) (fa : Addr) (h : Heap), (K w.params).In h → h.Ns mainGlobals mg → mg d.name = some (.ref fa) →
      ∃ fd : FuncData, (∀ (s : Shared) (u : Value), BindsTo s fd ⟨[u], []⟩ [(x, u)]) ∧ ∀ base : Heap, (K w.params).In base → base.Ns mainGlobals mg → FnOkG l.prog w (K w.params) mg base CX0 k fa fd [x] (sp w))
    (want : ∀ (w : World) (H : Hp) (a : Addr) (ns : List Int), ns.length ≤ n → Only H → SqL (K w.params) H a (ns.map V.int) → sp w [.ref a] H (fun v _ => v = .bl true) fun _ _ _ => False) :
    PySem.W.WalkO q loose XP YP l.row.toRowW d [] (fun f vs => PySem.call f vs) := by
  apply Att.attach_call hn hdf
  intro w s₀ s₁ mg mb fa o pm cd doc a vs ns G Y ho hd hcd hmg hobj hints hlen hg
  have KX := hY w _ Y
  obtain ⟨fd, bd, hF⟩ := F w mg fa _ KX G.T.g hmg
  exact lawG KX G.T.g G.T.b G.T.builtins G.T.nolimit hg hobj hints (Nat.le_trans hlen hn2) hr hF bd fun H hO hS => want w H a ns hlen hO hS
section
open PySem.Builtin PySem.Builtin.Str PySem.Builtin.Int
/-- two figures -/
def two (n : Nat) : Str := ⟨#[48 + n / 10, 48 + n % 10]⟩
theorem gives_cut {v : Value} {T : String} {k : String → Sem PySem.Fin} {m : Made} (hT : ∀ s : Shared, s.TypeIs v T)
    (hn : (Value.type T == Value.type "builtin_function_or_method") = false) (g : ∀ n, Gives (k n) m) : Gives (do let n ← typeNameOfCut 200 v; k n) m := by
  intro prog w A R s hq
  refine wpAny_bind ?_
  unfold typeNameOfCut shownTypeOf
  refine wpAny_bind (wpAny_bind (wpAny_typeOf (hT s) ?_))
  simp only [hn, Bool.false_eq_true, if_false]
  exact wpAny_pure (wpAny_pure (g _ prog w A R s hq))
set_option maxHeartbeats 4000000 in
theorem eq_02d (t u : Tok) : ∀ n : Nat, n < 60 → «int.__format__» ⟨[.int (n : Int) t, .str "02d" u], []⟩ = (do let _ ← typeNameOf (.str "02d" u); let _ ← typeNameOfCut 200 (.int (n : Int) t); retStr (two n))
  | 0, _ => by kernel_rfl
  | 1, _ => by kernel_rfl
  | 2, _ => by kernel_rfl
  | 3, _ => by kernel_rfl
  | 4, _ => by kernel_rfl
  | 5, _ => by kernel_rfl
  | 6, _ => by kernel_rfl
  | 7, _ => by kernel_rfl
  | 8, _ => by kernel_rfl
  | 9, _ => by kernel_rfl
  | 10, _ => by kernel_rfl
  | 11, _ => by kernel_rfl
  | 12, _ => by kernel_rfl
  | 13, _ => by kernel_rfl
  | 14, _ => by kernel_rfl
  | 15, _ => by kernel_rfl
  | 16, _ => by kernel_rfl
  | 17, _ => by kernel_rfl
  | 18, _ => by kernel_rfl
  | 19, _ => by kernel_rfl
  | 20, _ => by kernel_rfl
  | 21, _ => by kernel_rfl
  | 22, _ => by kernel_rfl
  | 23, _ => by kernel_rfl
  | 24, _ => by kernel_rfl
  | 25, _ => by kernel_rfl
  | 26, _ => by kernel_rfl
  | 27, _ => by kernel_rfl
  | 28, _ => by kernel_rfl
  | 29, _ => by kernel_rfl
  | 30, _ => by kernel_rfl
  | 31, _ => by kernel_rfl
  | 32, _ => by kernel_rfl
  | 33, _ => by kernel_rfl
  | 34, _ => by kernel_rfl
  | 35, _ => by kernel_rfl
  | 36, _ => by kernel_rfl
  | 37, _ => by kernel_rfl
  | 38, _ => by kernel_rfl
  | 39, _ => by kernel_rfl
  | 40, _ => by kernel_rfl
  | 41, _ => by kernel_rfl
  | 42, _ => by kernel_rfl
  | 43, _ => by kernel_rfl
  | 44, _ => by kernel_rfl
  | 45, _ => by kernel_rfl
  | 46, _ => by kernel_rfl
  | 47, _ => by kernel_rfl
  | 48, _ => by kernel_rfl
  | 49, _ => by kernel_rfl
  | 50, _ => by kernel_rfl
  | 51, _ => by kernel_rfl
  | 52, _ => by kernel_rfl
  | 53, _ => by kernel_rfl
  | 54, _ => by kernel_rfl
  | 55, _ => by kernel_rfl
  | 56, _ => by kernel_rfl
  | 57, _ => by kernel_rfl
  | 58, _ => by kernel_rfl
  | 59, _ => by kernel_rfl
  | n + 60, h => absurd h (by omega)
theorem gives_02d (n : Nat) (hn : n < 60) (t u : Tok) : Gives («int.__format__» ⟨[.int n t, .str "02d" u], []⟩) (.str (two n)) := by
  rw [eq_02d t u n hn]
  refine gives_after_typeNameOf (T := "str") (fun s => typeIs_str s _ _) (by decide) fun _ => ?_
  refine gives_cut (T := "int") (fun s => typeIs_int s _ _) (by decide) fun _ => ?_
  exact .of_eq rfl
section
variable {X : Cx}
/-- {x:02d}, x of at most two figures -/
def tFmt02 (te : TE) : TE := fun σ H Q => te σ H fun x H1 => ∃ n : Nat, x = .int n ∧ n < 60 ∧ Q (.str (two n)) H1
theorem two_len (n : Nat) : (two n).length ≤ sizeLine := by show 2 ≤ sizeLine; decide
theorem pe_fmt02 {e : Expr} {te : TE} {j : Nat} {pos p1 p2 : Pos} (he : PE X e te) : PE X (.FormattedValue e (-1) (some (.JoinedStr [.Constant (.str "02d") j p1] p2)) pos) (tFmt02 te) := by
  refine ⟨fun pins s σ H Q I h => ?_⟩
  refine wpAny_FormattedValue_spec (thn (he.run pins s σ H _ I h) fun v s1 hv => ?_)
  obtain ⟨x, H1, I1, r1, n, rfl, hn, q⟩ := hv
  obtain ⟨t, rfl⟩ := r1
  refine wpAny_JoinedStr_one (wpAny_Constant_str ⟨"02d", _, rfl, ?_⟩)
  exact wpAny_formatField_spec (by decide) (fun s' => typeIs_int s' n t) F.slot_int_format F.entry_int_format F.args_int_format_2 (fun u => gives_02d n hn t u)
    ⟨.str (two n), H1, I1.tok _, ⟨_, rfl⟩, q⟩ (by decide) (two_len n)
end
end
/-! ### f"{n:x}" of a number below 4,096 -/
section
open PySem.Builtin PySem.Builtin.Str PySem.Builtin.Int
def hexT (n : Nat) : Str := ⟨((Nat.toDigits 16 n).map Char.toNat).toArray⟩
def fmA (t u : Tok) (n : Nat) : Sem PySem.Fin := «int.__format__» ⟨[.int (n : Int) t, .str "x" u], []⟩
def fmB (t u : Tok) (n : Nat) : Sem PySem.Fin := (do let _ ← typeNameOf (.str "x" u); let _ ← typeNameOfCut 200 (.int (n : Int) t); retStr (hexT n))
set_option maxRecDepth 1000000 in
set_option maxHeartbeats 4000000 in
theorem eq_x16 (t u : Tok) : (List.range 4096).map (fmA t u) = (List.range 4096).map (fmB t u) := by kernel_rfl
theorem eq_x (t u : Tok) (n : Nat) (h : n < 4096) : fmA t u n = fmB t u n := by
  have e := congrArg (fun l => l[n]?) (eq_x16 t u)
  simp only [List.getElem?_map, List.getElem?_range h, Option.map_some] at e
  exact Option.some.inj e
theorem gives_cutX {v : Value} {T : String} {k : String → Sem PySem.Fin} {m : Made} (hT : ∀ s : Shared, s.TypeIs v T)
    (hn : (Value.type T == Value.type "builtin_function_or_method") = false) (g : ∀ n, Gives (k n) m) : Gives (do let n ← typeNameOfCut 200 v; k n) m := by
  intro prog w A R s hq
  refine wpAny_bind ?_
  unfold typeNameOfCut shownTypeOf
  refine wpAny_bind (wpAny_bind (wpAny_typeOf (hT s) ?_))
  simp only [hn, Bool.false_eq_true, if_false]
  exact wpAny_pure (wpAny_pure (g _ prog w A R s hq))
theorem gives_x (n : Nat) (hn : n < 4096) (t u : Tok) : Gives («int.__format__» ⟨[.int n t, .str "x" u], []⟩) (.str (hexT n)) := by
  have e : «int.__format__» ⟨[.int n t, .str "x" u], []⟩ = fmB t u n := eq_x t u n hn
  rw [e]
  unfold fmB
  refine gives_after_typeNameOf (T := "str") (fun s => typeIs_str s _ _) (by decide) fun _ => ?_
  refine gives_cutX (T := "int") (fun s => typeIs_int s _ _) (by decide) fun _ => ?_
  exact .of_eq rfl
theorem hex_len : ∀ n : Nat, n < 4096 → 1 ≤ (hexT n).length ∧ (hexT n).length ≤ 3 := by decide +kernel
section
variable {X : Cx}
def tFmtX (te : TE) : TE := fun σ H Q => te σ H fun x H1 => ∃ n : Nat, x = .int n ∧ n < 4096 ∧ Q (.str (hexT n)) H1
theorem pe_fmtX {e : Expr} {te : TE} {j : Nat} {pos p1 p2 : Pos} (he : PE X e te) : PE X (.FormattedValue e (-1) (some (.JoinedStr [.Constant (.str "x") j p1] p2)) pos) (tFmtX te) := by
  refine ⟨fun pins s σ H Q I h => ?_⟩
  refine wpAny_FormattedValue_spec (thn (he.run pins s σ H _ I h) fun v s1 hv => ?_)
  obtain ⟨x, H1, I1, r1, n, rfl, hn, q⟩ := hv
  obtain ⟨t, rfl⟩ := r1
  refine wpAny_JoinedStr_one (wpAny_Constant_str ⟨"x", _, rfl, ?_⟩)
  exact wpAny_formatField_spec (by decide) (fun s' => typeIs_int s' n t) F.slot_int_format F.entry_int_format F.args_int_format_2 (fun u => gives_x n hn t u)
    ⟨.str (hexT n), H1, I1.tok _, ⟨_, rfl⟩, q⟩ (by decide) (Nat.le_trans (hex_len n hn).2 (by decide))
end
end
abbrev sShow : Stmt := topS 10
abbrev NShow : List Str := ["minute", "day", "clock", "hours", "minutes", "text"]
theorem scShow : FnScope NShow ["minute"] (defScope sShow) := ⟨rfl, rfl, rfl, by decide +kernel, rfl, by decide +kernel, by decide +kernel⟩
abbrev sRead : Stmt := topS 11
abbrev NRead : List Str := ["word", "parts", "hours", "minutes", "day", "minute", "part"]
theorem scRead : FnScope NRead ["word"] (defScope sRead) := ⟨rfl, rfl, rfl, by decide +kernel, rfl, by decide +kernel, by decide +kernel⟩
abbrev sParts : Stmt := topS 12
abbrev NParts : List Str := ["word", "clock", "plus", "day", "hours", "_", "minutes"]
theorem scParts : FnScope NParts ["word"] (defScope sParts) := ⟨rfl, rfl, rfl, by decide +kernel, rfl, by decide +kernel, by decide +kernel⟩
/-! ### minutes as texts -/
theorem log_small {i : Int} (h : i.natAbs < 2 ^ 64) : i.natAbs.log2 < 1920 := by
  by_cases z : i.natAbs = 0
  · rw [z]; decide
  · have := (Nat.log2_lt z).mpr (Nat.lt_of_lt_of_le h (Nat.pow_le_pow_right (by decide) (by decide : 64 ≤ 1920)))
    exact this
def clockS (m : Nat) : Str := ((Str.empty ++ two (m % 1440 / 60)) ++ ":") ++ two (m % 1440 % 60)
def dayT (m : Nat) : Str := Str.ofString (toString ((m / 1440 : Nat) : Int))
def showS (m : Nat) : Str := if m / 1440 > 0 then ((Str.empty ++ clockS m) ++ "+") ++ dayT m else clockS m
theorem clock_len (m : Nat) : (clockS m).length = 5 := by
  unfold clockS
  rw [Str.length_append, Str.length_append, Str.length_append]; rfl
theorem day_len {m : Nat} (h : m < 14400000000) : (dayT m).length ≤ 8 := toString_length_le (by omega) (by decide) (by omega)
theorem show_len {m : Nat} (h : m < 14400000000) : (showS m).length ≤ 14 := by
  unfold showS
  have := day_len h
  have e := clock_len m
  split
  · rw [Str.length_append, Str.length_append, Str.length_append, e]
    show 0 + 5 + 1 + (dayT m).length ≤ 14
    omega
  · omega
theorem div_nat (m n : Nat) : (m : Int) / (n : Int) = ((m / n : Nat) : Int) := rfl
theorem mod_nat (m n : Nat) : (m : Int) % (n : Int) = ((m % n : Nat) : Int) := rfl
def spShow : Sp := fun vs H Q _ => ∃ m : Nat, vs = [.int (m : Int)] ∧ m < 14400000000 ∧ ∀ H', Same H H' → Q (.str (showS m)) H'
/-- what the minutes' functions ask of the module's names -/
structure Txt1 (mg : Str → Option Value) : Prop where
  mlen : mg "len" = none
  mdivmod : mg "divmod" = none
  mstr : mg "str" = none
  mint : mg "int" = none
  misinstance : mg "isinstance" = none
  mall : mg "all" = none
  mDAY : ∃ t, mg "DAY" = some (.int 1440 t)
  mHOUR : ∃ t, mg "HOUR" = some (.int 60 t)
  mMOST_READ : ∃ t, mg "MOST_READ" = some (.int 1000000 t)
  mLONGEST_READ : ∃ t, mg "LONGEST_READ" = some (.int 9 t)
section
variable {P : Program} {w : World} {K : PySem.W.Frag} {mg : Str → Option Value} {base : Heap}
theorem ok_show {f : Addr} {fd : FuncData} {k : Nat} (F : Fun K "show_time" "show_time" sShow f fd) (T : Txt1 mg) : FnOk P w K mg base CX0 (k + 1) f fd ["minute"] spShow := by
  obtain ⟨tDAY, mDAY⟩ := T.mDAY
  obtain ⟨tHOUR, mHOUR⟩ := T.mHOUR
  refine F.ok scShow (fun vs H Q E h => ?_) (fun cdv A outer s H vs Q E hr h => ?_)
  · obtain ⟨m, rfl, _⟩ := h
    rfl
  · obtain ⟨m, rfl, hm, q⟩ := h
    refine ⟨_,
      (pss_cons (ps_asg (pe_callB call_divmod (by rfl) T.mdivmod (by decide +kernel) (pa_cons (pv 0) (pa_cons (pe_glob (v := .int 1440) (by rfl) mDAY ⟨_, rfl⟩) pa_nil))) (pg_tup rfl (pgs_cons (pg_name (i := 1) scShow.nd rfl (.inl rfl)) (pgs_cons (pg_name (i := 2) scShow.nd rfl (.inl rfl)) pgs_nil))))
      (pss_cons (ps_asg (pe_callB call_divmod (by rfl) T.mdivmod (by decide +kernel) (pa_cons (pv 2) (pa_cons (pe_glob (v := .int 60) (by rfl) mHOUR ⟨_, rfl⟩) pa_nil))) (pg_tup rfl (pgs_cons (pg_name (i := 3) scShow.nd rfl (.inl rfl)) (pgs_cons (pg_name (i := 4) scShow.nd rfl (.inl rfl)) pgs_nil))))
      (pss_cons (ps_set (i := 5) scShow.nd rfl (.inl rfl) (pe_joined (.cons (pe_fmt02 (pv 3)) (.cons pe_str (.cons (pe_fmt02 (pv 4)) .nil)))))
      (pss_cons (ps_if (pt_cmpR op_gt (pv 1) pe_int (nomark _))
      (pss_one (ps_ret (pe_joined (.cons (pe_fmt (pv 5)) (.cons pe_str (.cons (pe_fmt (pv 1)) .nil))))))
      pss_nil)
      (pss_one (ps_ret (pv 5)))))))
      , ?_⟩
    refine ⟨_, rfl, _, _, rfl, ⟨by decide, by decide⟩, fun p hp => ?_⟩
    refine ⟨p, _, rfl, .inl (.inl upd_same), rfl, _, _, rfl, _, _, rfl, rfl, ?_⟩
    refine ⟨_, rfl, _, _, rfl, ⟨by decide, by decide⟩, fun p2 hp2 => ?_⟩
    refine ⟨p2, _, rfl, .inl (.inl upd_same), rfl, _, _, rfl, _, _, rfl, rfl, ?_⟩
    have sm : Same H (upd (upd H p (.tup [.int ((m / 1440 : Nat) : Int), .int ((m % 1440 : Nat) : Int)])) p2 (.tup [.int ((m % 1440 / 60 : Nat) : Int), .int ((m % 1440 % 60 : Nat) : Int)])) := (same_upd hp).trans (same_upd hp2)
    refine ⟨_, rfl, m % 1440 / 60, rfl, by omega, _, rfl, small_line (by rw [Str.length_append]; show 0 + 2 ≤ 100; omega), _, rfl, small_line (by rw [Str.length_append, Str.length_append]; show 0 + 2 + 1 ≤ 100; omega), _, rfl, m % 1440 % 60, rfl, by omega, _, rfl, small_line (by rw [Str.length_append, Str.length_append, Str.length_append]; show 0 + 2 + 1 + 2 ≤ 100; omega), ?_⟩
    refine ⟨_, rfl, _, _, rfl, rfl, _, rfl, ite2 (fun c => ?_) (fun c => ?_)⟩
    · have c1 : m / 1440 > 0 := by
        have : (0 : Int) < ((m / 1440 : Nat) : Int) := of_decide_eq_true c
        omega
      have dl := day_len hm
      refine ⟨_, rfl, .inl ⟨clockS m, rfl, small_line (by rw [clock_len]; decide), _, rfl, small_line (by rw [Str.length_append, clock_len]; show 0 + 5 ≤ 100; omega), _, rfl, small_line (by rw [Str.length_append, Str.length_append, clock_len]; show 0 + 5 + 1 ≤ 100; omega), _, rfl, .inr ⟨_, rfl, ?_, _, rfl, small_line ?_, ?_⟩⟩⟩
      · exact log_small (show (m / 1440) < 2 ^ 64 by omega)
      · rw [Str.length_append, Str.length_append, Str.length_append, clock_len]
        show 0 + 5 + 1 + (dayT m).length ≤ 100
        omega
      · have e : showS m = ((Str.empty ++ clockS m) ++ "+") ++ dayT m := if_pos c1
        have z := q _ sm
        rw [e] at z
        exact z
    · have c1 : ¬ m / 1440 > 0 := fun z => c (decide_eq_true (show (0 : Int) < ((m / 1440 : Nat) : Int) by omega))
      have e : showS m = clockS m := if_neg c1
      have z := q _ sm
      rw [e] at z
      exact ⟨_, rfl, z⟩
end
/-! ### texts read -/
theorem emp (x : Str) : Str.empty ++ x = x := ext_tl (by show (Str.empty ++ x).cps.toList = _; rw [Str.cps_append]; simp [Str.empty])
theorem tl_app (x y : Str) : tl (x ++ y) = tl x ++ tl y := by unfold tl; rw [Str.cps_append]; simp
theorem two_free {c n : Nat} (h : n < 100) (hc : c < 48 ∨ 57 < c) : c ∉ tl (two n) := by
  intro z
  have z' : c = 48 + n / 10 ∨ c = 48 + n % 10 := by simpa [two, tl] using z
  omega
def dayS (m : Nat) : Str := if m / 1440 > 0 then dayT m else "0"
def plusS (m : Nat) : Str := if m / 1440 > 0 then "+" else ""
def restS (m : Nat) : Str := if m / 1440 > 0 then dayT m else ""
theorem tl_clock (m : Nat) : tl (clockS m) = tl (two (m % 1440 / 60)) ++ [58] ++ tl (two (m % 1440 % 60)) := by
  unfold clockS
  rw [tl_app, tl_app, emp]; rfl
theorem clock_free {m : Nat} : 43 ∉ tl (clockS m) := by
  rw [tl_clock]
  intro z
  have h1 := two_free (c := 43) (n := m % 1440 / 60) (by omega) (by omega)
  have h2 := two_free (c := 43) (n := m % 1440 % 60) (by omega) (by omega)
  simp only [List.mem_append, List.mem_singleton] at z
  rcases z with (z | z) | z
  · exact h1 z
  · exact absurd z (by decide)
  · exact h2 z
theorem part_plus (m : Nat) : Txt.partition (showS m) "+" = (clockS m, plusS m, restS m) := by
  unfold showS plusS restS
  split
  · rw [emp]
    exact partition_app (s := 43) (S := []) rfl clock_free
  · exact partition_none (s := 43) (S := []) rfl clock_free
theorem part_colon (m : Nat) : Txt.partition (clockS m) ":" = (two (m % 1440 / 60), (":" : Str), two (m % 1440 % 60)) := by
  unfold clockS
  rw [emp]
  exact partition_app (s := 58) (S := []) rfl (two_free (by omega) (by omega))
def spParts : Sp := fun vs H Q _ => ∃ m : Nat, vs = [.str (showS m)] ∧ m < 14400000000 ∧ ∀ H' p, Same H H' → H p = none → H' p = some (.lst [.str (two (m % 1440 / 60)), .str (two (m % 1440 % 60)), .str (dayS m)]) → Q (.ref p) H'
theorem nl {α : Type} {P Q : α → Prop} : True := trivial
section
variable {P : Program} {w : World} {K : PySem.W.Frag} {mg : Str → Option Value} {base : Heap}
theorem ok_parts {f : Addr} {fd : FuncData} {k : Nat} (F : Fun K "_parts" "_parts" sParts f fd) : FnOk P w K mg base CX0 (k + 1) f fd ["word"] spParts := by
  refine F.ok scParts (fun vs H Q E h => ?_) (fun cdv A outer s H vs Q E hr h => ?_)
  · obtain ⟨m, rfl, _⟩ := h
    rfl
  · obtain ⟨m, rfl, hm, q⟩ := h
    refine ⟨_,
      (pss_cons (ps_asg (pe_partition (pv 0) pe_str) (pg_tup rfl (pgs_cons (pg_name (i := 1) scParts.nd rfl (.inl rfl)) (pgs_cons (pg_name (i := 2) scParts.nd rfl (.inl rfl)) (pgs_cons (pg_name (i := 3) scParts.nd rfl (.inl rfl)) pgs_nil)))))
      (pss_cons (ps_asg (pe_partition (pv 1) pe_str) (pg_tup rfl (pgs_cons (pg_name (i := 4) scParts.nd rfl (.inl rfl)) (pgs_cons (pg_name (i := 5) scParts.nd rfl (.inl rfl)) (pgs_cons (pg_name (i := 6) scParts.nd rfl (.inl rfl)) pgs_nil)))))
      (pss_one (ps_ret (pe_lst (pa_cons (pv 4) (pa_cons (pv 6) (pa_cons (pe_ifExp (pt_cmpR op_eq (pv 2) pe_str (nomark _)) (pv 3) pe_str) pa_nil))))))))
      , ?_⟩
    refine ⟨_, rfl, ⟨_, rfl⟩, _, _, rfl, rfl, rfl, small_line (by have := show_len hm; omega), fun p hp => ?_⟩
    rw [part_plus]
    refine ⟨p, _, rfl, .inl (.inl upd_same), rfl, _, _, rfl, _, _, rfl, _, _, rfl, rfl, ?_⟩
    refine ⟨_, rfl, ⟨_, rfl⟩, _, _, rfl, rfl, rfl, small_line (by rw [clock_len]; decide), fun p2 hp2 => ?_⟩
    rw [part_colon]
    refine ⟨p2, _, rfl, .inl (.inl upd_same), rfl, _, _, rfl, _, _, rfl, _, _, rfl, rfl, ?_⟩
    have s2 := (same_upd (o := .tup [.str (clockS m), .str (plusS m), .str (restS m)]) hp).trans (same_upd (o := .tup [.str (two (m % 1440 / 60)), .str ":", .str (two (m % 1440 % 60))]) hp2)
    refine ⟨_, rfl, _, rfl, _, rfl, rfl, _, rfl, ?_⟩
    have three : ∀ x : Str, ([V.str (two (m % 1440 / 60)), .str (two (m % 1440 % 60)), .str x] : List V).length ≤ sizeLine := fun _ => small_line (by show 3 ≤ 100; decide)
    refine ite2 (fun d => ?_) (fun d => ?_)
    · have d1 : plusS m = "+" := V.str.inj (of_decide_eq_true d)
      have c : m / 1440 > 0 := by
        by_cases c : m / 1440 > 0
        · exact c
        · exact absurd ((show plusS m = "" from if_neg c).symm.trans d1) (by decide)
      have e : restS m = dayS m := (show restS m = dayT m from if_pos c).trans (show dayS m = dayT m from if_pos c).symm
      refine ⟨_, rfl, three _, fun l hl => q _ l (s2.trans (same_upd hl)) (s2.free hl) ?_⟩
      rw [← e]; exact upd_same
    · have c : ¬ m / 1440 > 0 := fun c => d (decide_eq_true (congrArg V.str (show plusS m = "+" from if_pos c)))
      have e : (("0" : Str)) = dayS m := (show dayS m = "0" from if_neg c).symm
      refine ⟨three _, fun l hl => q _ l (s2.trans (same_upd hl)) (s2.free hl) ?_⟩
      rw [← e]; exact upd_same
/-! read_time -/
theorem dec_two : ∀ n : Nat, n < 60 → Txt.isdecimal (two n) = true ∧ PySem.intText? (two n) = some (n : Int) ∧ (two n).length = 2 := by decide +kernel
theorem dec_day : ∀ n : Nat, n < 695 → Txt.isdecimal (Str.ofString (toString (n : Int))) = true ∧ PySem.intText? (Str.ofString (toString (n : Int))) = some (n : Int) := by decide +kernel
end
/-! ### read_time of what show_time tells -/
def spRead : Sp := fun vs H Q _ => ∃ m : Nat, vs = [.str (showS m)] ∧ m ≤ 1000000 ∧ ∀ H', Same H H' → Q (.int (m : Int)) H'
theorem dayS_dec {m : Nat} (h : m ≤ 1000000) : Txt.isdecimal (dayS m) = true ∧ PySem.intText? (dayS m) = some ((m / 1440 : Nat) : Int) ∧ (dayS m).length ≤ 8 := by
  by_cases c : m / 1440 > 0
  · have e : dayS m = dayT m := if_pos c
    rw [e]
    obtain ⟨a, b⟩ := dec_day (m / 1440) (by omega)
    exact ⟨a, b, day_len (by omega)⟩
  · have e : dayS m = "0" := if_neg c
    have z : m / 1440 = 0 := by omega
    rw [e, z]
    exact ⟨by decide +kernel, by decide +kernel, by decide⟩
theorem show_len9 {m : Nat} (h : m ≤ 1000000) : (showS m).length ≤ 9 := by
  unfold showS
  split
  · have := toString_length_le (v := ((m / 1440 : Nat) : Int)) (by omega) (k := 3) (by decide) (by omega)
    rw [Str.length_append, Str.length_append, Str.length_append, clock_len]
    show 0 + 5 + 1 + (dayT m).length ≤ 9
    unfold dayT
    omega
  · rw [clock_len]; decide
section
variable {P : Program} {w : World} {K : PySem.W.Frag} {mg : Str → Option Value} {base : Heap}
theorem ok_read {f fS fP : Addr} {fd fdS fdP : FuncData} {k : Nat} (F : Fun K "read_time" "read_time" sRead f fd) (T : Txt1 mg)
    (Fshow_time : Fun K "show_time" "show_time" sShow fS fdS) (gshow_time : mg "show_time" = some (.ref fS)) (bshow_time : Binds K fdS ["minute"] [])
    (F_parts : Fun K "_parts" "_parts" sParts fP fdP) (g_parts : mg "_parts" = some (.ref fP)) (b_parts : Binds K fdP ["word"] []) :
    FnOk P w K mg base CX0 (k + 2) f fd ["word"] spRead := by
  have Gshow_time : FnOk P w K mg base CX0 (k + 1) fS fdS ["minute"] spShow := ok_show Fshow_time T
  have G_parts : FnOk P w K mg base CX0 (k + 1) fP fdP ["word"] spParts := ok_parts F_parts
  obtain ⟨tDAY, mDAY⟩ := T.mDAY
  obtain ⟨tHOUR, mHOUR⟩ := T.mHOUR
  obtain ⟨tMOST_READ, mMOST_READ⟩ := T.mMOST_READ
  obtain ⟨tLONGEST_READ, mLONGEST_READ⟩ := T.mLONGEST_READ
  refine F.ok scRead (fun vs H Q E h => ?_) (fun cdv A outer s H vs Q E hr h => ?_)
  · obtain ⟨m, rfl, _⟩ := h
    rfl
  · obtain ⟨m, rfl, hm, q⟩ := h
    have hrshow_time := hr
    have hr_parts := hr
    refine ⟨_,
      (pss_cons (ps_if (PW.pt (pw_or (pt_not (pt_val (pe_callB call_isi (by rfl) T.misinstance (by decide +kernel) (pa_cons (pv 0) (pa_cons (pe_bltn (v := .ty "str") (u := .type "str") (by rfl) T.mstr (by decide +kernel) rfl) pa_nil))))) (pw_or1 (pt_cmpR op_gt (pe_callB call_len_str (by rfl) T.mlen PySem.boot_len (pa_cons (pv 0) pa_nil)) (pe_glob (v := .int 9) (by rfl) mLONGEST_READ ⟨_, rfl⟩) (nomark _)))))
      (pss_one ps_never)
      pss_nil)
      (pss_cons (ps_set (i := 1) scRead.nd rfl (.inl rfl) (pe_call G_parts hr_parts (by rfl) g_parts F_parts.kp b_parts .nil pass0 (pa_cons (pv 0) pa_nil)))
      (pss_cons (ps_if (pt_not (pt_val (pe_callB (cr_all rfl) (by rfl) T.mall (by decide +kernel) (pa_cons (pe_lc (own := [("part", 6)]) (g := gName 6) (tt := tYes) rfl scRead.nd (pi_list (pv 1)) (blkOk_by (N := NRead) (own := [("part", 6)]) (sc := defScope sRead) (by decide +kernel)) (fun _ _ _ _ _ => pg_name (i := 6) scRead.nd rfl (Or.inl rfl)) (fun _ _ _ _ _ => pts_nil) (fun _ _ _ _ _ => (pe_m0 PySem.F.slot_str_isdecimal PySem.F.type_str_isdecimal mt_isdecimal (pv 6)))) pa_nil))))
      (pss_one ps_never)
      pss_nil)
      (pss_cons (ps_asg (pe_lc (own := [("part", 6)]) (g := gName 6) (tt := tYes) rfl scRead.nd (pi_list (pv 1)) (blkOk_by (N := NRead) (own := [("part", 6)]) (sc := defScope sRead) (by decide +kernel)) (fun _ _ _ _ _ => pg_name (i := 6) scRead.nd rfl (Or.inl rfl)) (fun _ _ _ _ _ => pts_nil) (fun _ _ _ _ _ => (pe_callTy call_int_str (by rfl) T.mint (by decide +kernel) (pa_cons (pv 6) pa_nil)))) (pg_lst rfl (pgs_cons (pg_name (i := 2) scRead.nd rfl (.inl rfl)) (pgs_cons (pg_name (i := 3) scRead.nd rfl (.inl rfl)) (pgs_cons (pg_name (i := 4) scRead.nd rfl (.inl rfl)) pgs_nil)))))
      (pss_cons (ps_set (i := 5) scRead.nd rfl (.inl rfl) (pe_op op_add (pe_op op_add (pe_op op_mul (pv 4) (pe_glob (v := .int 1440) (by rfl) mDAY ⟨_, rfl⟩)) (pe_op op_mul (pv 2) (pe_glob (v := .int 60) (by rfl) mHOUR ⟨_, rfl⟩))) (pv 3)))
      (pss_cons (ps_if (PW.pt (pw_or (pt_cmpR op_gt (pv 5) (pe_glob (v := .int 1000000) (by rfl) mMOST_READ ⟨_, rfl⟩) (nomark _)) (pw_or1 (pt_cmpR op_ne (pe_call Gshow_time hrshow_time (by rfl) gshow_time Fshow_time.kp bshow_time .nil pass0 (pa_cons (pv 5) pa_nil)) (pv 0) (nomark _)))))
      (pss_one ps_never)
      pss_nil)
      (pss_one (ps_ret (pv 5)))))))))
      , ?_⟩
    refine ⟨_, rfl, _, _, _, _, true, rfl, .ty "str", .base (.str _), kit_ty (by decide +kernel), _, rfl, ?_⟩
    have l9 := show_len9 hm
    refine ⟨_, rfl, _, rfl, small_line (by omega), _, _, rfl, rfl, _, rfl, ?_⟩
    refine ite2 (fun d => absurd (of_decide_eq_true d) (by omega)) (fun _ => ?_)
    -- parts = _parts(word)
    refine ⟨_, rfl, m, rfl, by omega, fun H1 p s1 np ep => ?_⟩
    obtain ⟨i1, n1, l1⟩ := dec_two (m % 1440 / 60) (by omega)
    obtain ⟨i2, n2, l2⟩ := dec_two (m % 1440 % 60) (by omega)
    obtain ⟨i3, n3, l3⟩ := dayS_dec hm
    -- all([..])
    refine ⟨_, rfl, p, rfl, ⟨_, SqL.of ep⟩, fun D nD => ?_⟩
    refine lc_list (K := K) (a := p) (xs := [.str (two (m % 1440 / 60)), .str (two (m % 1440 % 60)), .str (dayS m)])
      (fun i H2 => Same H1 H2 ∧ H2 D = some (.lst (List.replicate i (V.bl true)))) ⟨same_upd nD, upd_same⟩ (fun i H2 _ z => SqL.of (z.1 _ _ ep)) ?_ ?_
    · rintro i x H2 hx ⟨s2, e2⟩
      have hy : ∃ y : Str, x = .str y ∧ Txt.isdecimal y = true := by
        rcases i with _ | _ | _ | i
        · exact ⟨_, (Option.some.inj hx).symm, i1⟩
        · exact ⟨_, (Option.some.inj hx).symm, i2⟩
        · exact ⟨_, (Option.some.inj hx).symm, i3⟩
        · exact absurd hx (by simp)
      obtain ⟨y, rfl, dy⟩ := hy
      have hi : i < 3 := by
        have := (List.getElem?_eq_some_iff.mp hx).1
        exact this
      refine ⟨rfl, ?_⟩
      refine ⟨_, rfl, ⟨_, rfl⟩, y, rfl, rfl, trivial, _, e2, by rw [List.length_replicate]; exact Nat.lt_of_lt_of_le hi (small_line (by decide)), fun b o e => ?_, ?_⟩
      · rw [upd_ne (ne_of_none e nD)]; exact s2 b o e
      · rw [upd_same, dy, List.replicate_succ']
    · rintro H2 ⟨s2, e2⟩
      refine ⟨D, [true, true, true], rfl, SqL.of e2, _, rfl, ?_⟩
      -- hours, minutes, day
      refine ⟨_, rfl, p, rfl, ⟨_, SqL.of (s2 _ _ ep)⟩, fun D2 nD2 => ?_⟩
      refine lc_list (K := K) (a := p) (xs := [.str (two (m % 1440 / 60)), .str (two (m % 1440 % 60)), .str (dayS m)])
        (fun i H3 => Same H2 H3 ∧ H3 D2 = some (.lst (([.int ((m % 1440 / 60 : Nat) : Int), .int ((m % 1440 % 60 : Nat) : Int), .int ((m / 1440 : Nat) : Int)] : List V).take i))) ⟨same_upd nD2, upd_same⟩ (fun i H3 _ z => SqL.of (z.1 _ _ (s2 _ _ ep))) ?_ ?_
      · rintro i x H3 hx ⟨s3, e3⟩
        have hy : ∃ (y : Str) (n : Nat), x = .str y ∧ PySem.intText? y = some (n : Int) ∧ y.length ≤ 640 ∧ ([.int ((m % 1440 / 60 : Nat) : Int), .int ((m % 1440 % 60 : Nat) : Int), .int ((m / 1440 : Nat) : Int)] : List V)[i]? = some (.int (n : Int)) := by
          rcases i with _ | _ | _ | i
          · exact ⟨_, _, (Option.some.inj hx).symm, n1, by omega, rfl⟩
          · exact ⟨_, _, (Option.some.inj hx).symm, n2, by omega, rfl⟩
          · exact ⟨_, _, (Option.some.inj hx).symm, n3, by omega, rfl⟩
          · exact absurd hx (by simp)
        obtain ⟨y, n, rfl, dy, ly, ey⟩ := hy
        have hi : i < 3 := (List.getElem?_eq_some_iff.mp ey).1
        refine ⟨rfl, ?_⟩
        refine ⟨_, rfl, y, _, rfl, dy, ly, _, e3, ?_, fun b o e => ?_, ?_⟩
        · exact Nat.lt_of_le_of_lt (List.length_take_le _ _) (Nat.lt_of_lt_of_le hi (small_line (by decide)))
        · rw [upd_ne (ne_of_none e nD2)]; exact s3 b o e
        · rw [upd_same, List.take_add_one, ey]; rfl
      · rintro H3 ⟨s3, e3⟩
        refine ⟨D2, _, rfl, SqL.of e3, rfl, _, _, rfl, _, _, rfl, _, _, rfl, rfl, ?_⟩
        refine ⟨_, rfl, _, _, rfl, rfl, .inr ⟨by decide, by decide⟩, _, rfl, _, _, rfl, rfl, .inr ⟨by decide, by decide⟩, _, _, rfl, rfl, _, rfl, _, _, rfl, rfl, ?_⟩
        have em : (((m / 1440 : Nat) : Int) * 1440 + ((m % 1440 / 60 : Nat) : Int) * 60 + ((m % 1440 % 60 : Nat) : Int)) = (m : Int) := by omega
        refine ⟨_, rfl, _, _, rfl, rfl, _, rfl, ite2 (fun d => absurd (of_decide_eq_true d) ?_) (fun _ => ?_)⟩
        · show ¬ ((1000000 : Int) < (((m / 1440 : Nat) : Int) * 1440 + ((m % 1440 / 60 : Nat) : Int) * 60 + ((m % 1440 % 60 : Nat) : Int)))
          omega
        refine ⟨_, rfl, m, congrArg (fun z => [V.int z]) em, by omega, fun H4 s4 => ⟨_, rfl, rfl, _, rfl, iteNS rfl ⟨_, rfl, ?_⟩⟩⟩
        have z := q H4 (((s1.trans s2).trans s3).trans s4)
        rw [← em] at z
        exact z
end
abbrev sHas : Stmt := topS 4
abbrev NHas : List Str := ["word", "signs", "sign"]
theorem scHas : FnScope NHas ["word", "signs"] (defScope sHas) := ⟨rfl, rfl, rfl, by decide +kernel, rfl, by decide +kernel, by decide +kernel⟩
abbrev sShowW : Stmt := topS 17
abbrev NShowW : List Str := ["reading", "minute", "kind", "number"]
theorem scShowW : FnScope NShowW ["reading"] (defScope sShowW) := ⟨rfl, rfl, rfl, by decide +kernel, rfl, by decide +kernel, by decide +kernel⟩
abbrev sReadW : Stmt := topS 18
abbrev NReadW : List Str := ["word", "figures", "_", "clock", "minute", "reading"]
theorem scReadW : FnScope NReadW ["word"] (defScope sReadW) := ⟨rfl, rfl, rfl, by decide +kernel, rfl, by decide +kernel, by decide +kernel⟩
/-! ### readings as texts -/
theorem lc_str {z : Str} {g : TG} {tt : TT} {te : TE} {vs : List Nat} {σ : L2.St} {H1 : Hp} {D : Addr} {Qd : Hp → Prop} (Pv : Nat → Hp → Prop) (h0 : Pv 0 (upd H1 D (.lst [])))
    (hs : ∀ i c H, z.cps[i]? = some c → Pv i H → g (.str ⟨#[c]⟩) (wipe σ vs) H fun σ2 H2 => wipe σ2 vs = wipe σ vs ∧ tt σ2 H2 fun b H3 =>
      if b = true then te σ2 H3 fun y H4 => ∃ acc, H4 D = some (.lst acc) ∧ acc.length < sizeLine ∧ Pv (i + 1) (upd H4 D (.lst (acc ++ [y]))) else Pv (i + 1) H3) (hd : ∀ H, Pv z.cps.size H → Qd H) :
    ∃ W : Nat → Nat → Hp → Prop, (∃ m, W 0 m (upd H1 D (.lst []))) ∧ ∀ i m H, W i m H →
      ((Its z).stop i H ∧ Qd H) ∨ ((Its z).go i H ∧ ∃ Nx : Hp → Prop, (∀ H', Nx H' → ∃ m', m' < m ∧ W (i + 1) m' H') ∧ ∀ x H', (Its z).yld i H x H' → g x (wipe σ vs) H' fun σ2 H2 => wipe σ2 vs = wipe σ vs ∧ tt σ2 H2 fun b H3 =>
        if b = true then te σ2 H3 fun y H4 => ∃ acc, H4 D = some (.lst acc) ∧ acc.length < sizeLine ∧ Nx (upd H4 D (.lst (acc ++ [y]))) else Nx H3) := by
  refine ⟨fun i m H => m = z.cps.size - i ∧ i ≤ z.cps.size ∧ Pv i H, ⟨z.cps.size, by simp, Nat.zero_le _, h0⟩, ?_⟩
  rintro i m H ⟨rfl, hi, p⟩
  by_cases hlt : i < z.cps.size
  · refine .inr ⟨hlt, Pv (i + 1), fun H' p' => ⟨z.cps.size - (i + 1), by omega, rfl, hlt, p'⟩, fun x H' y => ?_⟩
    obtain ⟨rfl, c, hc, rfl⟩ := y
    exact hs i c _ hc p
  · have e : i = z.cps.size := by omega
    subst e
    exact .inl ⟨Nat.le_refl _, hd H p⟩
/-- d[x] of a dict of the module's own -/
def tKdItem (K : PySem.W.Frag) (d : Addr) (to ti : TE) : TE := fun σ H Q => to σ H fun x H1 => ti σ H1 fun y H2 => ∃ (z : Str) (u0 : Value) (v0 : V), x = .ref d ∧ y = .str z ∧ PySem.W.nsIn K d z = some (some u0) ∧ RelV v0 u0 ∧ Q v0 H2
theorem pe_kdItem {X : Cx} {d : Addr} {es : Array DictEntry} {n : Nat} (D : KDict X.K X.w d es n) {o i : Expr} {pos : Pos} {to ti : TE} (ho : PE X o to) (hi : PE X i ti) (hs : NoSl i) : PE X (.Subscript o i pos) (tKdItem X.K d to ti) := by
  refine ⟨fun pins s σ H Q I h => ?_⟩
  refine subD_of PySem.F.slot_dict_getitem.lookup hs (thn (ho.run pins s σ H _ I h) fun u s1 ⟨x, H1, I1, rx, q1⟩ => thn (hi.run pins s1 σ H1 _ I1 q1) fun iv s2 ⟨y, H2, I2, ry, z, u0, v0, ex, ey, hn, rv, q2⟩ => ?_)
  subst ex
  obtain rfl : u = Value.ref d := rx
  exact ⟨kd_type D I2, op_item_kd D pins s2 σ H2 (.ref d) y (.ref d) iv Q I2 rfl ry ⟨z, u0, v0, rfl, ey, hn, rv, q2⟩⟩
def kindS (b : Bool) : Str := if b then "water" else "ice"
def sixteens : Str := "0123456789abcdef"
def spHas : Sp := fun vs H Q _ => ∃ (x : Str), vs = [.str x, .str sixteens] ∧ x.length ≤ 100 ∧ (∀ c ∈ x.cps.toList, c ∈ sixteens.cps.toList) ∧ ∀ H', Same H H' → Q (.bl true) H'
def RdgAt (H : Hp) (r : Addr) (m : Nat) (b : Bool) (n : Nat) : Prop := H r = some (.tup [.int (m : Nat), .str (kindS b), .int (n : Nat)])
structure TxtX (mg : Str → Option Value) : Prop where
  mlen : mg "len" = none
  mall : mg "all" = none
  mint : mg "int" = none
  misinstance : mg "isinstance" = none
  mstr : mg "str" = none
section
variable {P : Program} {w : World} {K : PySem.W.Frag} {mg : Str → Option Value} {base : Heap}
theorem ok_has {f : Addr} {fd : FuncData} {k : Nat} (F : Fun K "has_only" "has_only" sHas f fd) (T : TxtX mg) : FnOk P w K mg base CX0 (k + 1) f fd ["word", "signs"] spHas := by
  refine F.ok scHas (fun vs H Q E h => ?_) (fun cdv A outer s H vs Q E hr h => ?_)
  · obtain ⟨x, rfl, _⟩ := h
    rfl
  · obtain ⟨x, rfl, hx, ha, q⟩ := h
    refine ⟨_,
      (pss_one (ps_ret (pe_callB (cr_all rfl) (by rfl) T.mall (by decide +kernel) (pa_cons (pe_lc (own := [("sign", 2)]) (g := gName 2) (tt := tYes) rfl scHas.nd (pi_str (pv 0)) (blkOk_by (N := NHas) (own := [("sign", 2)]) (sc := defScope sHas) (by decide +kernel)) (fun _ _ _ _ _ => pg_name (i := 2) scHas.nd rfl (Or.inl rfl)) (fun _ _ _ _ _ => pts_nil) (fun _ _ _ _ _ => (pe_cmpR op_in_sign (pv 2) (pv 1) (by rfl)))) pa_nil))))
      , ?_⟩
    refine ⟨_, rfl, x, rfl, fun D hD => ?_⟩
    refine lc_str (z := x) (fun i H' => H' D = some (.lst ((List.replicate i true).map V.bl)) ∧ Same H H') ⟨upd_same, same_upd hD⟩ ?_ ?_
    · rintro i c H' hc ⟨eD, si⟩
      have hi : i < x.cps.size := (Array.getElem?_eq_some_iff.mp hc).1
      have hc2 : c ∈ x.cps.toList := by
        obtain ⟨h1, h2⟩ := Array.getElem?_eq_some_iff.mp hc
        rw [← h2]; exact Array.getElem_mem_toList h1
      have hx' : x.cps.size ≤ 100 := hx
      refine ⟨rfl, _, rfl, _, rfl, c, sixteens, rfl, rfl, _, eD, ?_, ?_, fun z o e => by rw [upd_ne (ne_of_none e hD)]; exact si _ _ e⟩
      · rw [List.length_map, List.length_replicate]; exact Nat.lt_of_lt_of_le (show i < 100 by omega) (small_line (by decide))
      · rw [upd_same, List.replicate_succ', List.map_append, decide_eq_true (ha c hc2)]; rfl
    · rintro H' ⟨eD, si⟩
      refine ⟨D, _, rfl, SqL.of eD, ?_⟩
      rw [show (List.replicate x.cps.size true).all id = true by simp]
      exact q _ si
/-- w or i, figures by sixteens, @, a minute -/
def wireS (b : Bool) (n m : Nat) : Str := (((Str.empty ++ (if b then "w" else "i" : Str)) ++ hexT n) ++ "@") ++ showS m
def spShowW : Sp := fun vs H Q _ => ∃ (r : Addr) (m n : Nat) (b : Bool), vs = [.ref r] ∧ RdgAt H r m b n ∧ n < 4096 ∧ m < 14400000000 ∧ ∀ H', Same H H' → Q (.str (wireS b n m)) H'
theorem ok_showw {f fS : Addr} {fd fdS : FuncData} {k : Nat} (F : Fun K "show_wire" "show_wire" sShowW f fd) (T : TxtX mg) (T1 : Txt1 mg)
    (Fshow_time : Fun K "show_time" "show_time" sShow fS fdS) (gshow_time : mg "show_time" = some (.ref fS)) (bshow_time : Binds K fdS ["minute"] []) :
    FnOk P w K mg base CX0 (k + 2) f fd ["reading"] spShowW := by
  have Gshow_time : FnOk P w K mg base CX0 (k + 1) fS fdS ["minute"] spShow := ok_show Fshow_time T1
  refine F.ok scShowW (fun vs H Q E h => ?_) (fun cdv A outer s H vs Q E hr h => ?_)
  · obtain ⟨r, m, n, b, rfl, _⟩ := h
    rfl
  · obtain ⟨r, m, n, b, rfl, hrd, hn, hm, q⟩ := h
    have hrshow_time := hr
    refine ⟨_,
      (pss_cons (ps_asg (pv 0) (pg_tup rfl (pgs_cons (pg_name (i := 1) scShowW.nd rfl (.inl rfl)) (pgs_cons (pg_name (i := 2) scShowW.nd rfl (.inl rfl)) (pgs_cons (pg_name (i := 3) scShowW.nd rfl (.inl rfl)) pgs_nil)))))
      (pss_one (ps_ret (pe_joined (.cons (pe_fmt (pe_ix ix_str (pv 2) pe_int (fun _ _ => rfl))) (.cons (pe_fmtX (pv 3)) (.cons pe_str (.cons (pe_fmt (pe_call Gshow_time hrshow_time (by rfl) gshow_time Fshow_time.kp bshow_time .nil pass0 (pa_cons (pv 1) pa_nil))) .nil))))))))
      , ?_⟩
    refine ⟨_, rfl, r, _, rfl, SqT.of hrd, rfl, _, _, rfl, _, _, rfl, _, _, rfl, rfl, ?_⟩
    have h0 : atI (kindS b).cps.toList 0 = some (if b then 119 else 105) := by cases b <;> decide +kernel
    have e0 : (⟨#[if b then 119 else 105]⟩ : Str) = (if b then "w" else "i" : Str) := by cases b <;> rfl
    have hx := hex_len n hn
    have hs := show_len hm
    refine ⟨_, rfl, kindS b, 0, _, rfl, rfl, by cases b <;> decide, h0, .inl ⟨_, rfl, by show 1 ≤ sizeLine; decide, _, rfl, by show 0 + 1 ≤ sizeLine; decide, _, rfl, n, rfl, hn, _, rfl, small_line (by rw [Str.length_append]; show 0 + 1 + _ ≤ 100; omega), _, rfl, small_line (by rw [Str.length_append, Str.length_append]; show 0 + 1 + _ + 1 ≤ 100; omega), _, rfl, m, rfl, hm, fun H1 s1 => .inl ⟨showS m, rfl, small_line (by omega), _, rfl, small_line (by rw [Str.length_append, Str.length_append, Str.length_append]; show 0 + 1 + _ + 1 + _ ≤ 100; omega), ?_⟩⟩⟩
    have z := q H1 s1
    unfold wireS at z
    rw [← e0] at z
    exact z
end
/-! ### read_wire -/
theorem tl_cut (z : Str) (lo hi : Option Int) : tl (cutS z lo hi) = ((tl z).drop (HT.sIx z.length 0 lo)).take (HT.sIx z.length z.length hi - HT.sIx z.length 0 lo) := by
  unfold tl cutS; simp
def kS (b : Bool) : Str := if b then "w" else "i"
theorem wire_eq (b : Bool) (n m : Nat) : wireS b n m = kS b ++ ((hexT n ++ "@") ++ showS m) := by
  apply ext_tl
  unfold wireS
  rw [show (if b then "w" else "i" : Str) = kS b from rfl, emp]
  simp only [TL.tl_append, List.append_assoc]
theorem kS_tl (b : Bool) : tl (kS b) = [if b then 119 else 105] := by cases b <;> rfl
theorem wire_len {b : Bool} {n m : Nat} (hn : n < 4096) (hm : m < 14400000000) : (wireS b n m).length ≤ 19 ∧ 1 ≤ (wireS b n m).length := by
  have h1 := hex_len n hn
  have h2 := show_len hm
  have h3 : (kS b).length = 1 := by cases b <;> rfl
  rw [wire_eq, Str.length_append, Str.length_append, Str.length_append, h3]
  show 1 + (_ + 1 + _) ≤ 19 ∧ _
  omega
theorem cut_kind {b : Bool} {n m : Nat} (hn : n < 4096) (hm : m < 14400000000) : cutS (wireS b n m) none (some 1) = kS b := by
  apply ext_tl
  have hl := wire_len (b := b) hn hm
  rw [tl_cut, HT.sIx_none, show HT.sIx (wireS b n m).length (wireS b n m).length (some 1) = min 1 (wireS b n m).length from HT.sIx_nat _ _ 1, Nat.min_eq_left hl.2, wire_eq, TL.tl_append, kS_tl]
  rfl
theorem cut_rest {b : Bool} {n m : Nat} (hn : n < 4096) (hm : m < 14400000000) : cutS (wireS b n m) (some 1) none = (hexT n ++ "@") ++ showS m := by
  apply ext_tl
  have hl := wire_len (b := b) hn hm
  rw [tl_cut, HT.sIx_none, show HT.sIx (wireS b n m).length 0 (some 1) = min 1 (wireS b n m).length from HT.sIx_nat _ _ 1, Nat.min_eq_left hl.2]
  have e : tl (wireS b n m) = (if b then 119 else 105) :: tl ((hexT n ++ "@") ++ showS m) := by rw [wire_eq, TL.tl_append, kS_tl]; rfl
  have el : (wireS b n m).length = (tl (wireS b n m)).length := (TL.len_tl _).symm
  rw [el, e, List.drop_succ_cons, List.drop_zero, List.length_cons, Nat.add_sub_cancel, List.take_length]
theorem hex_facts : ∀ n : Nat, n < 4096 → (∀ c ∈ (hexT n).cps.toList, c ∈ sixteens.cps.toList ∧ 48 ≤ c ∧ c ≤ 102 ∧ c ≠ 64 ∧ (c ≤ 57 ∨ 97 ≤ c)) ∧ Hx.hexNum (hexT n).cps.toList = n := by decide +kernel
theorem part_at {n m : Nat} (hn : n < 4096) : Txt.partition ((hexT n ++ "@") ++ showS m) "@" = (hexT n, ("@" : Str), showS m) :=
  partition_app (s := 64) (S := []) rfl fun h => ((hex_facts n hn).1 64 h).2.2.2.1 rfl
def spReadW : Sp := fun vs H Q _ => ∃ (m n : Nat) (b : Bool), vs = [.str (wireS b n m)] ∧ n < 4096 ∧ m ≤ 1000000 ∧ ∀ r H', Same H H' → RdgAt H' r m b n → Q (.ref r) H'
structure WCl (K : PySem.W.Frag) (w : World) (mg : Str → Option Value) (D : Addr) (es : Array DictEntry) (k : Nat) : Prop where
  mKINDS : mg "KINDS" = some (.ref D)
  kd : KDict K w D es k
  kw : ∃ t, PySem.W.nsIn K D "w" = some (some (.str "water" t))
  ki : ∃ t, PySem.W.nsIn K D "i" = some (some (.str "ice" t))
  mSIXTEENS : ∃ t, mg "SIXTEENS" = some (.str sixteens t)
  mLONGEST_NUMBER : ∃ t, mg "LONGEST_NUMBER" = some (.int 3 t)
theorem WCl.at_ {K : PySem.W.Frag} {w : World} {mg : Str → Option Value} {D : Addr} {es : Array DictEntry} {k : Nat} (h : WCl K w mg D es k) (b : Bool) : ∃ t, PySem.W.nsIn K D (kS b) = some (some (.str (kindS b) t)) := by
  cases b
  · exact h.ki
  · exact h.kw
section
variable {P : Program} {w : World} {K : PySem.W.Frag} {mg : Str → Option Value} {base : Heap}
theorem ok_readw {f fH fW fR fS fP DKINDS : Addr} {fd fdH fdW fdR fdS fdP : FuncData} {es : Array DictEntry} {n0 k : Nat} (F : Fun K "read_wire" "read_wire" sReadW f fd) (T : TxtX mg) (T1 : Txt1 mg) (TW : WCl K w mg DKINDS es n0)
    (Fshow_time : Fun K "show_time" "show_time" sShow fS fdS) (gshow_time : mg "show_time" = some (.ref fS)) (bshow_time : Binds K fdS ["minute"] [])
    (F_parts : Fun K "_parts" "_parts" sParts fP fdP) (g_parts : mg "_parts" = some (.ref fP)) (b_parts : Binds K fdP ["word"] [])
    (Fread_time : Fun K "read_time" "read_time" sRead fR fdR) (gread_time : mg "read_time" = some (.ref fR)) (bread_time : Binds K fdR ["word"] [])
    (Fhas_only : Fun K "has_only" "has_only" sHas fH fdH) (ghas_only : mg "has_only" = some (.ref fH)) (bhas_only : Binds K fdH ["word", "signs"] [])
    (Fshow_wire : Fun K "show_wire" "show_wire" sShowW fW fdW) (gshow_wire : mg "show_wire" = some (.ref fW)) (bshow_wire : Binds K fdW ["reading"] []) :
    FnOk P w K mg base CX0 (k + 3) f fd ["word"] spReadW := by
  have Gread_time : FnOk P w K mg base CX0 (k + 2) fR fdR ["word"] spRead := ok_read Fread_time T1 Fshow_time gshow_time bshow_time F_parts g_parts b_parts
  have Ghas_only : FnOk P w K mg base CX0 (k + 2) fH fdH ["word", "signs"] spHas := ok_has Fhas_only T
  have Gshow_wire : FnOk P w K mg base CX0 (k + 2) fW fdW ["reading"] spShowW := ok_showw Fshow_wire T T1 Fshow_time gshow_time bshow_time
  obtain ⟨tSIXTEENS, mSIXTEENS⟩ := TW.mSIXTEENS
  obtain ⟨tLONGEST_NUMBER, mLONGEST_NUMBER⟩ := TW.mLONGEST_NUMBER
  have mKINDS := TW.mKINDS
  have KD := TW.kd
  refine F.ok scReadW (fun vs H Q E h => ?_) (fun cdv A outer s H vs Q E hr h => ?_)
  · obtain ⟨m, n, b, rfl, _⟩ := h
    rfl
  · obtain ⟨m, n, b, rfl, hn, hm, q⟩ := h
    have hrread_time := hr
    have hrhas_only := hr
    have hrshow_wire := hr
    refine ⟨_,
      (pss_cons (ps_if (PW.pt (pw_or (pt_not (pt_val (pe_callB call_isi (by rfl) T.misinstance (by decide +kernel) (pa_cons (pv 0) (pa_cons (pe_bltn (v := .ty "str") (u := .type "str") (by rfl) T.mstr (by decide +kernel) rfl) pa_nil))))) (pw_or1 (pt_cmpR (op_notIn_kd KD) (pe_slice sl_str (pv 0) po_none (po_some pe_int)) (pe_glob (v := .ref DKINDS) (by rfl) mKINDS rfl) (by rfl)))))
      (pss_one ps_never)
      pss_nil)
      (pss_cons (ps_asg (pe_partition (pe_slice sl_str (pv 0) (po_some pe_int) po_none) pe_str) (pg_tup rfl (pgs_cons (pg_name (i := 1) scReadW.nd rfl (.inl rfl)) (pgs_cons (pg_name (i := 2) scReadW.nd rfl (.inl rfl)) (pgs_cons (pg_name (i := 3) scReadW.nd rfl (.inl rfl)) pgs_nil)))))
      (pss_cons (ps_if (PW.pt (pw_or (pt_not (pt_chain op_le op_le pe_int (pe_callB call_len_str (by rfl) T.mlen PySem.boot_len (pa_cons (pv 1) pa_nil)) (pe_glob (v := .int 3) (by rfl) mLONGEST_NUMBER ⟨_, rfl⟩))) (pw_or1 (pt_not (pt_val (pe_call Ghas_only hrhas_only (by rfl) ghas_only Fhas_only.kp bhas_only .nil pass0 (pa_cons (pv 1) (pa_cons (pe_glob (v := .str "0123456789abcdef") (by rfl) mSIXTEENS ⟨_, rfl⟩) pa_nil))))))))
      (pss_one ps_never)
      pss_nil)
      (pss_cons (ps_try_thru0 (pss_one (ps_set (i := 4) scReadW.nd rfl (.inl rfl) (pe_call Gread_time hrread_time (by rfl) gread_time Fread_time.kp bread_time .nil pass0 (pa_cons (pv 3) pa_nil)))))
      (pss_cons (ps_set (i := 5) scReadW.nd rfl (.inl rfl) (pe_tup (pa_cons (pv 4) (pa_cons (pe_kdItem KD (pe_glob (v := .ref DKINDS) (by rfl) mKINDS rfl) (pe_ix ix_str (pv 0) pe_int (fun _ _ => rfl)) (fun _ _ => rfl)) (pa_cons (pe_callTy call_int_hex (by rfl) T.mint (by decide +kernel) (pa_cons (pv 1) (pa_cons pe_int pa_nil))) pa_nil)))))
      (pss_cons (ps_if (pt_cmpR op_ne (pe_call Gshow_wire hrshow_wire (by rfl) gshow_wire Fshow_wire.kp bshow_wire .nil pass0 (pa_cons (pv 5) pa_nil)) (pv 0) (nomark _))
      (pss_one ps_never)
      pss_nil)
      (pss_one (ps_ret (pv 5)))))))))
      , ?_⟩
    obtain ⟨tk, hk⟩ := TW.at_ b
    have hm2 : m < 14400000000 := by omega
    have hwl := wire_len (b := b) hn hm2
    have hxl := hex_len n hn
    have hsl := show_len hm2
    have hf := hex_facts n hn
    refine ⟨_, rfl, _, _, _, _, true, rfl, .ty "str", .base (.str _), kit_ty (by decide +kernel), _, rfl, iteF ?_⟩
    refine ⟨_, rfl, _, rfl, _, rfl, small_line (by omega), ?_⟩
    rw [cut_kind hn hm2]
    refine ⟨kS b, _, rfl, rfl, hk, _, rfl, iteF ?_⟩
    refine ⟨_, rfl, _, rfl, _, rfl, small_line (by omega), ?_⟩
    rw [cut_rest hn hm2]
    refine ⟨⟨_, rfl⟩, _, _, rfl, rfl, rfl, small_line (by rw [Str.length_append, Str.length_append]; show _ + 1 + _ ≤ 100; omega), fun p hp => ?_⟩
    rw [part_at hn]
    refine ⟨p, _, rfl, .inl (.inl upd_same), rfl, _, _, rfl, _, _, rfl, _, _, rfl, rfl, ?_⟩
    have s0 := same_upd (o := .tup [.str (hexT n), .str "@", .str (showS m)]) hp
    refine ⟨_, rfl, hexT n, rfl, small_line (by omega), _, _, rfl, rfl, _, rfl, ite2 (fun _ => ?_) (fun c => absurd (decide_eq_true (show (1 : Int) ≤ (hexT n).length by omega)) c)⟩
    refine ⟨_, _, rfl, rfl, _, rfl, ?_⟩
    rw [decide_eq_true (show ((hexT n).length : Int) ≤ 3 by omega)]
    refine iteF ⟨_, rfl, hexT n, rfl, by omega, fun c hc => (hf.1 c hc).1, fun H1 s1 => ⟨_, rfl, iteF ?_⟩⟩
    refine ⟨_, rfl, m, rfl, hm, fun H2 s2 => ?_⟩
    have h0 : atI (wireS b n m).cps.toList 0 = some (if b then 119 else 105) := by
      have e : (wireS b n m).cps.toList = (if b then 119 else 105) :: tl ((hexT n ++ "@") ++ showS m) := by
        show tl (wireS b n m) = _
        rw [wire_eq, TL.tl_append, kS_tl]; rfl
      rw [e]
      exact atI_nat (j := 0) rfl
    have e0 : (⟨#[if b then 119 else 105]⟩ : Str) = kS b := by cases b <;> rfl
    have hne : (Nat.toDigits 16 n).map Char.toNat ≠ [] := by
      intro z
      have : (hexT n).length = 0 := by unfold hexT; rw [z]; rfl
      omega
    refine ⟨_, rfl, _, rfl, wireS b n m, 0, _, rfl, rfl, small_line (by omega), h0, kS b, _, .str (kindS b), rfl, congrArg V.str e0, hk, ⟨tk, rfl⟩, _, rfl, (Nat.toDigits 16 n).map Char.toNat, rfl, hne, ?_, ?_, ?_⟩
    · have : (hexT n).length = ((Nat.toDigits 16 n).map Char.toNat).length := rfl
      omega
    · intro c hc
      have := (hf.1 c hc)
      unfold Hx.IsHex
      omega
    rw [show Hx.hexNum ((Nat.toDigits 16 n).map Char.toNat) = n from hf.2]
    refine ⟨by show 3 ≤ sizeLine; decide, fun t ht => ?_⟩
    have s3 := ((s0.trans s1).trans s2).trans (same_upd (o := .tup [.int (m : Nat), .str (kindS b), .int (n : Nat)]) ht)
    refine ⟨_, rfl, t, m, n, b, rfl, upd_same, hn, hm2, fun H3 s4 => ⟨_, rfl, rfl, _, rfl, ?_⟩⟩
    rw [decide_eq_true rfl]
    exact iteF ⟨_, rfl, q t H3 (s3.trans s4) (s4 _ _ upd_same)⟩
end
abbrev sTime : Stmt := topS 23
abbrev NTime : List Str := ["_law_moment", "_law_clock", "_law_shown"]
theorem scTime : FnScope NTime ["_law_moment"] (defScope sTime) := ⟨rfl, rfl, rfl, by decide +kernel, rfl, by decide +kernel, by decide +kernel⟩
theorem fmod_nat (m n : Nat) : (m : Int).fmod (n : Int) = ((m % n : Nat) : Int) := by rw [Int.fmod_eq_emod_of_nonneg _ (by omega)]; rfl
theorem fdiv_nat (m n : Nat) : (m : Int).fdiv (n : Int) = ((m / n : Nat) : Int) := by rw [Int.fdiv_eq_ediv_of_nonneg _ (by omega)]; rfl
def nS (n : Nat) : Str := Str.ofString (toString (n : Int))
theorem time_eq : ∀ c : Nat, c < 1440 → (((nS (c / 600) ++ nS (c / 60 % 10)) ++ ":") ++ nS (c % 60 / 10)) ++ nS (c % 10) = ((Str.empty ++ two (c / 60)) ++ ":") ++ two (c % 60) := by decide +kernel
def spTime : Sp := fun vs H Q _ => ∃ m : Nat, vs = [.int (m : Int)] ∧ m < 14400000000 ∧ ∀ H', Same H H' → Q (.str (showS m)) H'
section
variable {P : Program} {w : World} {K : PySem.W.Frag} {mg : Str → Option Value} {base : Heap}
theorem ok_time {f : Addr} {fd : FuncData} {k : Nat} (F : Fun K "_law_time" "_law_time" sTime f fd) (T : TxtX mg) : FnOk P w K mg base CX0 (k + 1) f fd ["_law_moment"] spTime := by
  refine F.ok scTime (fun vs H Q E h => ?_) (fun cdv A outer s H vs Q E hr h => ?_)
  · obtain ⟨m, rfl, _⟩ := h
    rfl
  · obtain ⟨m, rfl, hm, q⟩ := h
    refine ⟨_,
      (pss_cons (ps_set (i := 1) scTime.nd rfl (.inl rfl) (pe_op op_modN (pv 0) pe_int))
      (pss_cons (ps_set (i := 2) scTime.nd rfl (.inl rfl) (pe_op op_add_str (pe_op op_add_str (pe_callTy call_str_int (by rfl) T.mstr (by decide +kernel) (pa_cons (pe_op op_fdivN (pv 1) pe_int) pa_nil)) (pe_callTy call_str_int (by rfl) T.mstr (by decide +kernel) (pa_cons (pe_op op_modN (pe_op op_fdivN (pv 1) pe_int) pe_int) pa_nil))) pe_str))
      (pss_cons (ps_set (i := 2) scTime.nd rfl (.inl rfl) (pe_op op_add_str (pe_op op_add_str (pv 2) (pe_callTy call_str_int (by rfl) T.mstr (by decide +kernel) (pa_cons (pe_op op_fdivN (pe_op op_modN (pv 1) pe_int) pe_int) pa_nil))) (pe_callTy call_str_int (by rfl) T.mstr (by decide +kernel) (pa_cons (pe_op op_modN (pv 1) pe_int) pa_nil))))
      (pss_one (ps_ret (pe_ifExp (pt_cmpR op_lt (pv 0) pe_int (nomark _)) (pv 2) (pe_op op_add_str (pe_op op_add_str (pv 2) pe_str) (pe_callTy call_str_int (by rfl) T.mstr (by decide +kernel) (pa_cons (pe_op op_fdivN (pv 0) pe_int) pa_nil)))))))))
      , ?_⟩
    have a1 : ((m : Int).fmod 1440).fdiv 600 = ((m % 1440 / 600 : Nat) : Int) := by
      rw [show (1440 : Int) = ((1440 : Nat) : Int) from rfl, show (600 : Int) = ((600 : Nat) : Int) from rfl, fmod_nat, fdiv_nat]
    have a2 : (((m : Int).fmod 1440).fdiv 60).fmod 10 = ((m % 1440 / 60 % 10 : Nat) : Int) := by
      rw [show (1440 : Int) = ((1440 : Nat) : Int) from rfl, show (60 : Int) = ((60 : Nat) : Int) from rfl, show (10 : Int) = ((10 : Nat) : Int) from rfl, fmod_nat, fdiv_nat, fmod_nat]
    have a3 : (((m : Int).fmod 1440).fmod 60).fdiv 10 = ((m % 1440 % 60 / 10 : Nat) : Int) := by
      rw [show (1440 : Int) = ((1440 : Nat) : Int) from rfl, show (60 : Int) = ((60 : Nat) : Int) from rfl, show (10 : Int) = ((10 : Nat) : Int) from rfl, fmod_nat, fmod_nat, fdiv_nat]
    have a4 : ((m : Int).fmod 1440).fmod 10 = ((m % 1440 % 10 : Nat) : Int) := by
      rw [show (1440 : Int) = ((1440 : Nat) : Int) from rfl, show (10 : Int) = ((10 : Nat) : Int) from rfl, fmod_nat, fmod_nat]
    have a5 : (m : Int).fdiv 1440 = ((m / 1440 : Nat) : Int) := by
      rw [show (1440 : Int) = ((1440 : Nat) : Int) from rfl, fdiv_nat]
    have te := time_eq (m % 1440) (Nat.mod_lt _ (by decide))
    have ln : ∀ k : Nat, k < 10000 → (nS k).length ≤ 4 := fun k hk => toString_length_le (by omega) (by decide) (by omega)
    have l1 := ln (m % 1440 / 600) (by omega)
    have l2 := ln (m % 1440 / 60 % 10) (by omega)
    have l3 := ln (m % 1440 % 60 / 10) (by omega)
    have l4 := ln (m % 1440 % 10) (by omega)
    refine ⟨_, rfl, _, _, rfl, rfl, (by show (1440 : Int) ≠ 0; decide), ?_⟩
    refine ⟨_, rfl, _, _, rfl, rfl, ⟨by decide, by decide⟩, ((m % 1440 / 600 : Nat) : Int), congrArg (fun z => [V.int z]) a1, log_small (by omega), ?_⟩
    refine ⟨_, rfl, _, _, rfl, rfl, ⟨by decide, by decide⟩, _, _, rfl, rfl, (by show (10 : Int) ≠ 0; decide), ((m % 1440 / 60 % 10 : Nat) : Int), congrArg (fun z => [V.int z]) a2, log_small (by omega), _, _, rfl, rfl, small_line (by show (nS _).length + (nS _).length ≤ 100; omega), _, _, rfl, rfl, small_line (by rw [Str.length_append]; show (nS _).length + (nS _).length + 1 ≤ 100; omega), ?_⟩
    refine ⟨_, rfl, _, rfl, _, _, rfl, rfl, (by show (60 : Int) ≠ 0; decide), _, _, rfl, rfl, ⟨by decide, by decide⟩, ((m % 1440 % 60 / 10 : Nat) : Int), congrArg (fun z => [V.int z]) a3, log_small (by omega), _, _, rfl, rfl, small_line (by rw [Str.length_append, Str.length_append]; show (nS _).length + (nS _).length + 1 + (nS _).length ≤ 100; omega), ?_⟩
    refine ⟨_, rfl, _, _, rfl, rfl, (by show (10 : Int) ≠ 0; decide), ((m % 1440 % 10 : Nat) : Int), congrArg (fun z => [V.int z]) a4, log_small (by omega), _, _, rfl, rfl, small_line (by rw [Str.length_append, Str.length_append, Str.length_append]; show (nS _).length + (nS _).length + 1 + (nS _).length + (nS _).length ≤ 100; omega), ?_⟩
    have z := q H (fun _ _ e => e)
    have hc : (((nS (m % 1440 / 600) ++ nS (m % 1440 / 60 % 10)) ++ ":") ++ nS (m % 1440 % 60 / 10)) ++ nS (m % 1440 % 10) = clockS m := te
    refine ⟨_, rfl, _, _, rfl, rfl, _, rfl, ite2 (fun c => ?_) (fun c => ?_)⟩
    · have c1 : (m : Int) < 1440 := of_decide_eq_true c
      have e : showS m = clockS m := if_neg (by omega)
      rw [e, ← hc] at z
      exact ⟨_, rfl, z⟩
    · have c1 : ¬ (m : Int) < 1440 := fun h => c (decide_eq_true h)
      have e : showS m = ((Str.empty ++ clockS m) ++ "+") ++ dayT m := if_pos (by omega)
      have dl := day_len hm
      rw [e, emp, ← hc] at z
      refine ⟨_, rfl, _, _, rfl, rfl, small_line (by show ((((nS _ ++ nS _) ++ ":") ++ nS _) ++ nS _).length + 1 ≤ 100; rw [hc, clock_len]; decide), _, rfl, _, _, rfl, rfl, ⟨by decide, by decide⟩, ((m / 1440 : Nat) : Int), congrArg (fun z => [V.int z]) a5, log_small (by omega), _, _, rfl, rfl, ?_, z⟩
      show (((((nS _ ++ nS _) ++ ":") ++ nS _) ++ nS _) ++ "+").length + (dayT m).length ≤ sizeLine
      rw [hc, Str.length_append, clock_len]
      exact small_line (by show 5 + 1 + (dayT m).length ≤ 100; omega)
end
abbrev sWire : Stmt := topS 24
abbrev NWire : List Str := ["_law_when", "_law_kind", "_law_number", "_law_figures", "_law_shown"]
theorem scWire : FnScope NWire ["_law_when", "_law_kind", "_law_number"] (defScope sWire) := ⟨rfl, rfl, rfl, by decide +kernel, rfl, by decide +kernel, by decide +kernel⟩
/-! ### the law's own figures -/
def spWire : Sp := fun vs H Q _ => ∃ (m n : Nat) (b : Bool), vs = [.int (m : Nat), .str (kindS b), .int (n : Nat)] ∧ n < 4096 ∧ m < 14400000000 ∧ ∀ H', Same H H' → Q (.str (wireS b n m)) H'
def strip : List Nat → List Nat
  | 48 :: d :: r => strip (d :: r)
  | l => l
theorem strip_zero (d : Nat) (r : List Nat) : strip (48 :: d :: r) = strip (d :: r) := by rw [strip]
theorem strip_one (c : Nat) : strip [c] = [c] := by
  unfold strip
  split
  · rename_i h; cases h
  · rfl
theorem strip_other {c : Nat} (h : c ≠ 48) (l : List Nat) : strip (c :: l) = c :: l := by
  unfold strip
  split
  · rename_i d r e
    injection e with e1 e2
    exact absurd e1 h
  · rfl
def dig (k : Nat) : Nat := sixteens.cps.toList.getD k 0
theorem dig_at : ∀ k : Nat, k < 16 → sixteens.cps.toList[k]? = some (dig k) := by decide +kernel
theorem strip_hex : ∀ n : Nat, n < 4096 → strip [dig (n / 256), dig (n / 16 % 16), dig (n % 16)] = (hexT n).cps.toList := by decide +kernel
theorem cut_first (c : Nat) (r : List Nat) : cutS ⟨(c :: r).toArray⟩ (some 1) none = ⟨r.toArray⟩ := by
  apply ext_tl
  have e : tl (⟨(c :: r).toArray⟩ : Str) = c :: r := rfl
  have el : (⟨(c :: r).toArray⟩ : Str).length = r.length + 1 := by show (c :: r).toArray.size = _; simp
  rw [tl_cut, HT.sIx_none, el, show HT.sIx (r.length + 1) 0 (some 1) = min 1 (r.length + 1) from HT.sIx_nat _ _ 1, Nat.min_eq_left (by omega), e, List.drop_succ_cons, List.drop_zero, Nat.add_sub_cancel, List.take_length]
section
variable {P : Program} {w : World} {K : PySem.W.Frag} {mg : Str → Option Value} {base : Heap}
theorem ok_wire {f fT : Addr} {fd fdT : FuncData} {k : Nat} (F : Fun K "_law_wire" "_law_wire" sWire f fd) (T : TxtX mg)
    (F_law_time : Fun K "_law_time" "_law_time" sTime fT fdT) (g_law_time : mg "_law_time" = some (.ref fT)) (b_law_time : Binds K fdT ["_law_moment"] []) :
    FnOk P w K mg base CX0 (k + 2) f fd ["_law_when", "_law_kind", "_law_number"] spWire := by
  have G_law_time : FnOk P w K mg base CX0 (k + 1) fT fdT ["_law_moment"] spTime := ok_time F_law_time T
  refine F.ok scWire (fun vs H Q E h => ?_) (fun cdv A outer s H vs Q E hr h => ?_)
  · obtain ⟨m, n, b, rfl, _⟩ := h
    rfl
  · obtain ⟨m, n, b, rfl, hn, hm, q⟩ := h
    have hr_law_time := hr
    have b1 : (n : Int).fdiv 256 = ((n / 256 : Nat) : Int) := by rw [show (256 : Int) = ((256 : Nat) : Int) from rfl, fdiv_nat]
    have b2 : ((n : Int).fdiv 16).fmod 16 = ((n / 16 % 16 : Nat) : Int) := by rw [show (16 : Int) = ((16 : Nat) : Int) from rfl, fdiv_nat, fmod_nat]
    have b3 : (n : Int).fmod 16 = ((n % 16 : Nat) : Int) := by rw [show (16 : Int) = ((16 : Nat) : Int) from rfl, fmod_nat]
    refine ⟨_,
      (pss_cons (ps_set (i := 3) scWire.nd rfl (.inl rfl) pe_str)
      (pss_cons (ps_set (i := 4) scWire.nd rfl (.inl rfl) (pe_op op_add_str (pe_ix ix_str (pv 3) (pe_op op_fdivN (pv 2) pe_int) (fun _ _ => rfl)) (pe_ix ix_str (pv 3) (pe_op op_modN (pe_op op_fdivN (pv 2) pe_int) pe_int) (fun _ _ => rfl))))
      (pss_cons (ps_set (i := 4) scWire.nd rfl (.inl rfl) (pe_op op_add_str (pv 4) (pe_ix ix_str (pv 3) (pe_op op_modN (pv 2) pe_int) (fun _ _ => rfl))))
      (pss_cons (ps_while PassesOwn.never (PW.pt (pw_and (pt_cmpR op_gt (pe_callB call_len_str (by rfl) T.mlen PySem.boot_len (pa_cons (pv 4) pa_nil)) pe_int (nomark _)) (pw_and1 (pt_cmpR op_eq (pe_ix ix_str (pv 4) pe_int (fun _ _ => rfl)) pe_str (nomark _)))))
      (pss_one (ps_set (i := 4) scWire.nd rfl (.inl rfl) (pe_slice sl_str (pv 4) (po_some pe_int) po_none))))
      (pss_one (ps_ret (pe_op op_add_str (pe_op op_add_str (pe_op op_add_str (pe_ix ix_str (pv 1) pe_int (fun _ _ => rfl)) (pv 4)) pe_str) (pe_call G_law_time hr_law_time (by rfl) g_law_time F_law_time.kp b_law_time .nil pass0 (pa_cons (pv 0) pa_nil)))))))))
      , ?_⟩
    refine ⟨_, rfl, _, rfl, _, _, rfl, rfl, ⟨by decide, by decide⟩, sixteens, _, dig (n / 256), rfl, rfl, by decide, by rw [b1]; exact atI_nat (dig_at _ (by omega)), _, rfl, _, rfl, _, _, rfl, rfl, ⟨by decide, by decide⟩, _, _, rfl, rfl, (by show (16 : Int) ≠ 0; decide), sixteens, _, dig (n / 16 % 16), rfl, rfl, by decide, by rw [b2]; exact atI_nat (dig_at _ (by omega)), _, _, rfl, rfl, by show 1 + 1 ≤ sizeLine; decide, ?_⟩
    refine ⟨_, rfl, _, rfl, _, rfl, _, _, rfl, rfl, (by show (16 : Int) ≠ 0; decide), sixteens, _, dig (n % 16), rfl, rfl, by decide, by rw [b3]; exact atI_nat (dig_at _ (by omega)), _, _, rfl, rfl, by show 2 + 1 ≤ sizeLine; decide, ?_⟩
    have e3 : ((⟨#[dig (n / 256)]⟩ : Str) ++ ⟨#[dig (n / 16 % 16)]⟩) ++ ⟨#[dig (n % 16)]⟩ = ⟨[dig (n / 256), dig (n / 16 % 16), dig (n % 16)].toArray⟩ := ext_tl (by rw [TL.tl_append, TL.tl_append]; rfl)
    have q0 := strip_hex n hn
    refine ⟨fun k σ H' => ∃ l : List Nat, l ≠ [] ∧ l.length ≤ 3 ∧ k = l.length ∧ σ = [some (.int (m : Nat)), some (.str (kindS b)), some (.int (n : Nat)), some (.str sixteens), some (.str ⟨l.toArray⟩)] ∧ H' = H ∧ strip l = (hexT n).cps.toList, ⟨3, _, by simp, by simp, rfl, congrArg (fun z => [some (V.int (m : Nat)), some (.str (kindS b)), some (.int (n : Nat)), some (.str sixteens), some (.str z)]) e3, rfl, q0⟩, ?_⟩
    have hxl := hex_len n hn
    have hsl := show_len hm
    rintro k σ H' ⟨l, lne, ll, rfl, rfl, rfl, hl⟩
    have hlen : (⟨l.toArray⟩ : Str).length = l.length := by show l.toArray.size = _; simp
    have h0 : atI (kindS b).cps.toList 0 = some (if b then 119 else 105) := by cases b <;> decide +kernel
    have e0 : (⟨#[if b then 119 else 105]⟩ : Str) = (if b then "w" else "i" : Str) := by cases b <;> rfl
    have fin : strip l = l → tRet (tOp (fun x y H Q => ∃ i j, x = V.str i ∧ y = V.str j ∧ i.length + j.length ≤ sizeLine ∧ Q (V.str (i ++ j)) H) (tOp (fun x y H Q => ∃ i j, x = V.str i ∧ y = V.str j ∧ i.length + j.length ≤ sizeLine ∧ Q (V.str (i ++ j)) H) (tOp (fun x y H Q => ∃ i j, x = V.str i ∧ y = V.str j ∧ i.length + j.length ≤ sizeLine ∧ Q (V.str (i ++ j)) H) (tOp rIxS (tVar 1) (tC (V.int 0))) (tVar 4)) (tC (V.str (Str.ofString "@")))) (tCall spTime [] E0 (tCons (tVar 0) tNil))) { nx := fun x H' => Q V.non H', rt := Q } [some (.int (m : Nat)), some (.str (kindS b)), some (.int (n : Nat)), some (.str sixteens), some (.str ⟨l.toArray⟩)] H' := by
      intro e
      have eh : (⟨l.toArray⟩ : Str) = hexT n := ext_tl (by show l = _; rw [← e, hl])
      rw [eh]
      refine ⟨_, rfl, kindS b, 0, _, rfl, rfl, by cases b <;> decide, h0, _, rfl, _, _, rfl, rfl, small_line (by show 1 + _ ≤ 100; omega), _, _, rfl, rfl, small_line (by rw [Str.length_append]; show 1 + _ + 1 ≤ 100; omega), _, rfl, m, rfl, hm, fun H1 s1 => ⟨_, _, rfl, rfl, small_line (by rw [Str.length_append, Str.length_append]; show 1 + _ + 1 + _ ≤ 100; omega), ?_⟩⟩
      have z := q H1 s1
      unfold wireS at z
      rw [emp, ← e0] at z
      exact z
    match l, lne with
    | [c], _ =>
      refine ⟨_, rfl, _, rfl, small_line (by rw [hlen]; omega), _, _, rfl, rfl, _, rfl, ite2 (fun h => ?_) (fun _ => fin (strip_one c))⟩
      have h2 : (1 : Int) < (((⟨[c].toArray⟩ : Str).length : Nat) : Int) := of_decide_eq_true h
      rw [hlen] at h2
      exact absurd h2 (by simp)
    | c :: d :: r, _ =>
      refine ⟨_, rfl, _, rfl, small_line (by rw [hlen]; omega), _, _, rfl, rfl, _, rfl, ite2 (fun h => ?_) (fun h => absurd (decide_eq_true (by rw [hlen, List.length_cons, List.length_cons]; omega)) h)⟩
      refine ⟨_, rfl, _, 0, c, rfl, rfl, small_line (by rw [hlen]; omega), atI_nat (j := 0) rfl, rfl, _, rfl, ?_⟩
      by_cases hc : c = 48
      · subst hc
        refine iteT ⟨fun σ H2 => ∃ l : List Nat, l ≠ [] ∧ l.length ≤ 3 ∧ (d :: r).length = l.length ∧ σ = [some (.int (m : Nat)), some (.str (kindS b)), some (.int (n : Nat)), some (.str sixteens), some (.str ⟨l.toArray⟩)] ∧ H2 = H' ∧ strip l = (hexT n).cps.toList, fun σ' H2 z => ⟨(d :: r).length, by simp, z⟩, ?_⟩
        refine ⟨_, rfl, _, rfl, _, rfl, small_line (by rw [hlen]; omega), ?_⟩
        rw [cut_first]
        exact ⟨d :: r, by simp, by rw [List.length_cons] at ll; omega, rfl, rfl, rfl, by rw [← strip_zero]; exact hl⟩
      · rw [decide_eq_false (show ¬ (V.str ⟨#[c]⟩ = V.str (Str.ofString "0")) from fun z => hc (by have := congrArg tl (V.str.inj z); exact List.head_eq_of_cons_eq this))]
        exact iteF (fin (strip_other hc _))
end
abbrev sLaw : Stmt := topS 25
abbrev NLaw : List Str := ["_law_script", "_law_feed_here", "_law_k", "_law_kind", "_law_number", "_law_when", "_law_some", "_law_shown", "_law_later"]
theorem scLaw : FnScope NLaw ["_law_script"] (defScope sLaw) := ⟨rfl, rfl, rfl, by decide +kernel, rfl, by decide +kernel, by decide +kernel⟩
def rdgD (m : Nat) (b : Bool) (n : Nat) : PyData := .tuple [.int (m : Nat), .str (kindS b), .int (n : Nat)]
theorem rdg_dp {K : PySem.W.Frag} {H : Hp} {r : Addr} {m n : Nat} {b : Bool} (h : RdgAt H r m b n) : Dp K H (.ref r) (rdgD m b n) := .tup (SqT.of h) (.cons (.int _) (.cons (.str _) (.cons (.int _) .nil)))
theorem rdg_shaped (m : Nat) (b : Bool) (n : Nat) : SeqAt.shaped (rdgD m b n) = true := by
  show ((true && (PyData.strOk (kindS b) && (true && true))) && decide _) = true
  rw [show PyData.strOk (kindS b) = true by cases b <;> decide +kernel]
  simp [rdgD, PyData.depth, PyData.depthAll]
theorem rdg_showable {m n : Nat} {b : Bool} (hm : m < 14400000000) (hn : n < 4096) : (rdgD m b n).showable = true := by
  simp only [rdgD, PyData.showable, PyData.showableAll, Bool.and_true, Bool.true_and, Bool.and_eq_true, decide_eq_true_eq]
  exact ⟨log_small (by omega), log_small (by omega)⟩
theorem rdg_shown {m n : Nat} {b : Bool} (hm : m < 100000000000000) (hn : n < 4096) : (rdgD m b n).shown.length ≤ sizeLine := by
  have e : (rdgD m b n).shown = tupleText [Str.ofString (toString (m : Int)), reprText (kindS b), Str.ofString (toString (n : Int))] := by simp [rdgD, PyData.shown, PyData.shownAll]
  rw [e]
  have l1 := PySem.fmt_text [Str.ofString (toString (m : Int)), reprText (kindS b), Str.ofString (toString (n : Int))]
  have l2 : (Str.ofString (toString (m : Int))).length ≤ 15 := toString_length_le (by omega) (by decide) (by omega)
  have l3 : (Str.ofString (toString (n : Int))).length ≤ 5 := toString_length_le (by omega) (by decide) (by omega)
  have l4 : (reprText (kindS b)).length ≤ 8 := by cases b <;> decide +kernel
  rw [piled_cons, piled_cons, piled_cons, piled_nil] at l1
  exact small_line (by omega)
theorem pickN {xs : List Int} {hi : Int} (h : ∀ z ∈ xs, 0 ≤ z ∧ z < hi) {j : Nat} {x : V} (e : (xs.map V.int)[j]? = some x) : ∃ k : Nat, x = .int (k : Nat) ∧ (k : Int) < hi := by
  rw [List.getElem?_map] at e
  cases hz : xs[j]? with
  | none => rw [hz] at e; cases e
  | some z =>
    rw [hz] at e
    have hm := h z (List.mem_of_getElem? hz)
    obtain ⟨k, rfl⟩ := Int.eq_ofNat_of_zero_le hm.1
    exact ⟨k, (Option.some.inj e).symm, hm.2⟩
def spLaw (K : PySem.W.Frag) : Sp := fun vs H Q _ => ∃ (a : Addr) (ns : List Int), vs = [.ref a] ∧ SqL K H a (ns.map V.int) ∧ ns.length ≤ 63 ∧ ∀ H', Q (.bl true) H'
structure TxtL (mg : Str → Option Value) : Prop where
  mrange : mg "range" = none
  mrepr : mg "repr" = none
section
variable {P : Program} {w : World} {K : PySem.W.Frag} {mg : Str → Option Value} {base : Heap}
theorem ok_law {f fF fD fO fS fP fRt fH fW fRw fTm fWr DKINDS : Addr} {fd fdF fdD fdO fdS fdP fdRt fdH fdW fdRw fdTm fdWr : FuncData} {es : Array DictEntry} {n0 : Nat} (F : Fun K "law" "law" sLaw f fd) (T0 : Txt0 mg) (TF : TxtF mg) (TX : TxtX mg) (T1 : Txt1 mg) (TW : WCl K w mg DKINDS es n0) (T : TxtL mg)
    (F_law_feed : Fun K "_law_feed" "_law_feed" sFeed fF fdF) (g_law_feed : mg "_law_feed" = some (.ref fF)) (b_law_feed : Binds K fdF ["_law_script"] [])
    (F_law_draw : Fun K "_law_draw" "_law_draw" sDraw fD fdD) (g_law_draw : mg "_law_draw" = some (.ref fD)) (b_law_draw : Binds K fdD ["_law_feed_here", "_law_many"] [])
    (F_law_of : Fun K "_law_of" "_law_of" sOf fO fdO) (g_law_of : mg "_law_of" = some (.ref fO)) (b_law_of : Binds K fdO ["_law_feed_here", "_law_some"] [])
    (Fshow_time : Fun K "show_time" "show_time" sShow fS fdS) (gshow_time : mg "show_time" = some (.ref fS)) (bshow_time : Binds K fdS ["minute"] [])
    (F_parts : Fun K "_parts" "_parts" sParts fP fdP) (g_parts : mg "_parts" = some (.ref fP)) (b_parts : Binds K fdP ["word"] [])
    (Fread_time : Fun K "read_time" "read_time" sRead fRt fdRt) (gread_time : mg "read_time" = some (.ref fRt)) (bread_time : Binds K fdRt ["word"] [])
    (Fhas_only : Fun K "has_only" "has_only" sHas fH fdH) (ghas_only : mg "has_only" = some (.ref fH)) (bhas_only : Binds K fdH ["word", "signs"] [])
    (Fshow_wire : Fun K "show_wire" "show_wire" sShowW fW fdW) (gshow_wire : mg "show_wire" = some (.ref fW)) (bshow_wire : Binds K fdW ["reading"] []) (kbshow_wire : KBinds K fdW ["reading"] ["reading"] (· ++ ·) (· ++ ·))
    (Fread_wire : Fun K "read_wire" "read_wire" sReadW fRw fdRw) (gread_wire : mg "read_wire" = some (.ref fRw)) (bread_wire : Binds K fdRw ["word"] []) (kbread_wire : KBinds K fdRw ["word"] ["word"] (· ++ ·) (· ++ ·))
    (F_law_time : Fun K "_law_time" "_law_time" sTime fTm fdTm) (g_law_time : mg "_law_time" = some (.ref fTm)) (b_law_time : Binds K fdTm ["_law_moment"] [])
    (F_law_wire : Fun K "_law_wire" "_law_wire" sWire fWr fdWr) (g_law_wire : mg "_law_wire" = some (.ref fWr)) (b_law_wire : Binds K fdWr ["_law_when", "_law_kind", "_law_number"] []) :
    FnOkG P w K mg base CX0 4 f fd ["_law_script"] (spLaw K) := by
  have G_law_feed : FnOk P w K mg base CX0 3 fF fdF ["_law_script"] (spTape K) := ok_feed F_law_feed TF
  have G_law_draw : FnOk P w K mg base CX0 3 fD fdD ["_law_feed_here", "_law_many"] spDraw := ok_draw F_law_draw T0
  have G_law_of : FnOk P w K mg base CX0 3 fO fdO ["_law_feed_here", "_law_some"] spPick := ok_of F_law_of T0 F_law_draw g_law_draw b_law_draw
  have G_law_wire : FnOk P w K mg base CX0 3 fWr fdWr ["_law_when", "_law_kind", "_law_number"] spWire := ok_wire F_law_wire TX F_law_time g_law_time b_law_time
  have Gshow_wire : FnOk P w K mg base CX0 3 fW fdW ["reading"] spShowW := ok_showw Fshow_wire TX T1 Fshow_time gshow_time bshow_time
  have Gread_wire : FnOk P w K mg base CX0 3 fRw fdRw ["word"] spReadW := ok_readw Fread_wire TX T1 TW Fshow_time gshow_time bshow_time F_parts g_parts b_parts Fread_time gread_time bread_time Fhas_only ghas_only bhas_only Fshow_wire gshow_wire bshow_wire
  refine okG F scLaw (fun vs H Q E h => ?_) (fun cdv A outer s H vs Q E gd hr h => ?_)
  · obtain ⟨a, n, rfl, _⟩ := h
    rfl
  · obtain ⟨a, ns, rfl, hS, hlen, q⟩ := h
    have hr_law_feed := hr
    have hr_law_draw := hr
    have hr_law_of := hr
    have hr_law_wire := hr
    have hrshow_wire := hr
    have hrread_wire := hr
    refine ⟨_,
      (pss_cons (ps_set (i := 1) scLaw.nd rfl (.inl rfl) (pe_call G_law_feed hr_law_feed (by rfl) g_law_feed F_law_feed.kp b_law_feed .nil pass0 (pa_cons (pv 0) pa_nil)))
      (pss_cons (ps_for PassesOwn.never rfl (pi_range1 (by rfl) T.mrange (pa_cons pe_int pa_nil)) (pg_name (i := 2) scLaw.nd rfl (.inl rfl))
      (pss_cons (ps_set (i := 3) scLaw.nd rfl (.inl rfl) (pe_ix ix_list (pe_lst (pa_cons pe_str (pa_cons pe_str pa_nil))) (pe_call G_law_draw hr_law_draw (by rfl) g_law_draw F_law_draw.kp b_law_draw .nil pass0 (pa_cons (pv 1) (pa_cons pe_int pa_nil))) (fun _ _ => rfl)))
      (pss_cons (ps_set (i := 4) scLaw.nd rfl (.inl rfl) (pe_call G_law_of hr_law_of (by rfl) g_law_of F_law_of.kp b_law_of .nil pass0 (pa_cons (pv 1) (pa_cons (pe_lst (pa_cons pe_int (pa_cons pe_int (pa_cons pe_int (pa_cons pe_int (pa_cons pe_int (pa_cons pe_int (pa_cons (pe_call G_law_draw hr_law_draw (by rfl) g_law_draw F_law_draw.kp b_law_draw .nil pass0 (pa_cons (pv 1) (pa_cons pe_int pa_nil))) (pa_cons (pe_call G_law_draw hr_law_draw (by rfl) g_law_draw F_law_draw.kp b_law_draw .nil pass0 (pa_cons (pv 1) (pa_cons pe_int pa_nil))) (pa_cons pe_int (pa_cons pe_int pa_nil))))))))))) pa_nil))))
      (pss_cons (ps_set (i := 5) scLaw.nd rfl (.inl rfl) (pe_call G_law_of hr_law_of (by rfl) g_law_of F_law_of.kp b_law_of .nil pass0 (pa_cons (pv 1) (pa_cons (pe_lst (pa_cons pe_int (pa_cons pe_int (pa_cons pe_int (pa_cons (pe_op op_pow pe_int pe_int) (pa_cons (pe_call G_law_draw hr_law_draw (by rfl) g_law_draw F_law_draw.kp b_law_draw .nil pass0 (pa_cons (pv 1) (pa_cons pe_int pa_nil))) (pa_cons (pe_call G_law_draw hr_law_draw (by rfl) g_law_draw F_law_draw.kp b_law_draw .nil pass0 (pa_cons (pv 1) (pa_cons (pe_op op_pow pe_int pe_int) pa_nil))) pa_nil))))))) pa_nil))))
      (pss_cons (ps_set (i := 6) scLaw.nd rfl (.inl rfl) (pe_tup (pa_cons (pv 5) (pa_cons (pv 3) (pa_cons (pv 4) pa_nil)))))
      (pss_cons (ps_set (i := 7) scLaw.nd rfl (.inl rfl) (pe_call G_law_wire hr_law_wire (by rfl) g_law_wire F_law_wire.kp b_law_wire .nil pass0 (pa_cons (pv 5) (pa_cons (pv 3) (pa_cons (pv 4) pa_nil)))))
      (pss_cons (ps_if (PW.pt (pw_or (pt_cmpR op_ne (pe_call Gshow_wire hrshow_wire (by rfl) gshow_wire Fshow_wire.kp bshow_wire .nil pass0 (pa_cons (pv 6) pa_nil)) (pv 7) (nomark _)) (pw_or1 (pt_cmpR op_ne (pe_callK0 Gshow_wire hrshow_wire (by rfl) gshow_wire Fshow_wire.kp kbshow_wire pass0 (pk_cons (pv 6) pk_nil)) (pv 7) (nomark _)))))
      (pss_one (ps_ret pe_bl))
      pss_nil)
      (pss_cons (ps_if (PW.pt (pw_or (pt_cmpR op_ne (pe_callB (call_reprD gd hr) (by rfl) T.mrepr (by decide +kernel) (pa_cons (pe_call Gread_wire hrread_wire (by rfl) gread_wire Fread_wire.kp bread_wire .nil pass0 (pa_cons (pv 7) pa_nil)) pa_nil)) (pe_callB (call_reprD gd hr) (by rfl) T.mrepr (by decide +kernel) (pa_cons (pv 6) pa_nil)) (nomark _)) (pw_or1 (pt_cmpR op_ne (pe_callB (call_reprD gd hr) (by rfl) T.mrepr (by decide +kernel) (pa_cons (pe_callK0 Gread_wire hrread_wire (by rfl) gread_wire Fread_wire.kp kbread_wire pass0 (pk_cons (pv 7) pk_nil)) pa_nil)) (pe_callB (call_reprD gd hr) (by rfl) T.mrepr (by decide +kernel) (pa_cons (pv 6) pa_nil)) (nomark _)))))
      (pss_one (ps_ret pe_bl))
      pss_nil)
      (pss_cons (ps_set (i := 8) scLaw.nd rfl (.inl rfl) (pe_tup (pa_cons (pe_op op_add (pe_op op_add (pe_op op_pow pe_int pe_int) pe_int) (pe_call G_law_draw hr_law_draw (by rfl) g_law_draw F_law_draw.kp b_law_draw .nil pass0 (pa_cons (pv 1) (pa_cons (pe_op op_pow pe_int pe_int) pa_nil)))) (pa_cons (pv 3) (pa_cons (pv 4) pa_nil)))))
      (pss_one (ps_if (pt_cmpR op_ne (pe_call Gshow_wire hrshow_wire (by rfl) gshow_wire Fshow_wire.kp bshow_wire .nil pass0 (pa_cons (pv 8) pa_nil)) (pe_call G_law_wire hr_law_wire (by rfl) g_law_wire F_law_wire.kp b_law_wire .nil pass0 (pa_cons (pe_ix ix_tup (pv 8) pe_int (fun _ _ => rfl)) (pa_cons (pv 3) (pa_cons (pv 4) pa_nil)))) (nomark _))
      (pss_one (ps_ret pe_bl))
      pss_nil)))))))))))
      (pss_one (ps_ret pe_bl))))
      , ?_⟩
    refine ⟨_, rfl, a, ns, rfl, hS, hlen, fun tp c H1 ntp ntc s1 T1' => ?_⟩
    refine ⟨6, rfl, by omega, by omega, ?_⟩
    refine for_range (lo := 0) (n := (6 : Int).toNat) (fun i σ H2 => ∃ (v2 v3 v4 v5 v6 v7 v8 : Option V), σ = [some (.ref a), some (.ref tp), v2, v3, v4, v5, v6, v7, v8] ∧ Tape H2 tp c (20 * i))
      ⟨_, _, _, _, _, _, _, rfl, T1'⟩ ?_ ?_
    · rintro i σ H2 hi ⟨v2, v3, v4, v5, v6, v7, v8, rfl, T2⟩
      have hi2 : i < 6 := hi
      have e6 : (10 : Int) ^ (6 : Int).toNat = 1000000 := by decide
      have e8 : (10 : Int) ^ (8 : Int).toNat = 100000000 := by decide
      refine ⟨by show 2 ≤ sizeLine; decide, fun lk hlk => ⟨_, rfl, tp, c, 2, _, rfl, by omega, by omega, by omega, T2.new hlk, fun d0 H3 d00 d01 T3 k3 => ?_⟩⟩
      have elk := k3 _ _ (T2.ne hlk) (upd_same (H := H2) (a := lk) (o := .lst [.str "water", .str "ice"]))
      obtain ⟨b, hb⟩ : ∃ b, atI [V.str "water", V.str "ice"] d0 = some (.str (kindS b)) := by
        rcases (show d0 = 0 ∨ d0 = 1 by omega) with rfl | rfl
        · exact ⟨true, atI_nat (j := 0) rfl⟩
        · exact ⟨false, atI_nat (j := 1) rfl⟩
      refine ⟨lk, _, d0, _, rfl, rfl, SqL.of elk, hb, ?_⟩
      refine ⟨_, rfl, _, rfl, tp, c, 4096, _, rfl, by omega, by omega, by omega, T3, fun d1 H4 d10 d11 T4 k4 => ⟨_, rfl, tp, c, 300, _, rfl, by omega, by omega, by omega, T4, fun d2 H5 d20 d21 T5 k5 => ⟨by show 10 ≤ sizeLine; decide, fun l hl => ?_⟩⟩⟩
      refine ⟨tp, c, l, _, _, rfl, upd_same, T5.ne hl, by show 0 < 10; decide, by show 10 < 1000000; decide, by omega, T5.new hl, fun j x H6 hx T6 k6 => ?_⟩
      obtain ⟨n, rfl, hn⟩ := pickN (xs := [0, 15, 16, 255, 256, 4095, d1, d2, 10, 9]) (hi := 4096) (by simp only [List.mem_cons, List.not_mem_nil, or_false]; rintro z (rfl | rfl | rfl | rfl | rfl | rfl | rfl | rfl | rfl | rfl) <;> omega) hx
      refine ⟨_, rfl, _, _, rfl, rfl, ⟨by decide, by decide, by decide⟩, _, rfl, tp, c, 1440, _, rfl, by omega, by omega, by omega, T6, fun d3 H7 d30 d31 T7 k7 => ⟨_, rfl, _, _, rfl, rfl, ⟨by decide, by decide, by decide⟩, tp, c, 1000000, _, rfl, by omega, by omega, by omega, T7, fun d4 H8 d40 d41 T8 k8 => ⟨by show 6 ≤ sizeLine; decide, fun l2 hl2 => ?_⟩⟩⟩
      refine ⟨tp, c, l2, _, _, rfl, upd_same, T8.ne hl2, by show 0 < 6; decide, by show 6 < 1000000; decide, by omega, T8.new hl2, fun j2 x2 H9 hx2 T9 k9 => ?_⟩
      obtain ⟨m, rfl, hm⟩ := pickN (xs := [0, 1439, 1440, 10 ^ (6 : Int).toNat, d3, d4]) (hi := 1000001) (by rw [e6]; simp only [List.mem_cons, List.not_mem_nil, or_false]; rintro z (rfl | rfl | rfl | rfl | rfl | rfl) <;> omega) hx2
      have hn' : n < 4096 := by omega
      have hm' : m ≤ 1000000 := by omega
      have hm2 : m < 14400000000 := by omega
      refine ⟨_, rfl, _, rfl, _, rfl, by show 3 ≤ sizeLine; decide, fun r hr => ?_⟩
      have rd0 : RdgAt (upd H9 r (.tup [.int (m : Nat), .str (kindS b), .int (n : Nat)])) r m b n := upd_same
      have T10 := T9.new (o := .tup [.int (m : Nat), .str (kindS b), .int (n : Nat)]) hr
      generalize upd H9 r (.tup [.int (m : Nat), .str (kindS b), .int (n : Nat)]) = H10 at rd0 T10 ⊢
      have shp := rdg_shaped m b n
      have shw := rdg_showable (b := b) hm2 hn'
      have shn := rdg_shown (b := b) (show m < 100000000000000 by omega) hn'
      have eqs : ∀ z : Str, (!decide (V.str z = V.str z)) = false := fun z => by rw [decide_eq_true rfl]; rfl
      refine ⟨_, rfl, _, rfl, _, rfl, m, n, b, rfl, hn', hm2, fun H11 s11 => ?_⟩
      refine ⟨_, rfl, r, m, n, b, rfl, s11 _ _ rd0, hn', hm2, fun H12 s12 => ⟨_, rfl, rfl, _, rfl, ?_⟩⟩
      rw [eqs]
      have s112 := s11.trans s12
      refine iteF ⟨_, rfl, r, m, n, b, rfl, s112 _ _ rd0, hn', hm2, fun H13 s13 => ⟨_, rfl, rfl, _, rfl, ?_⟩⟩
      rw [eqs]
      have s113 := s112.trans s13
      refine iteF ⟨_, rfl, m, n, b, rfl, hn', hm', fun r2 H14 s14 rd2 => ⟨_, rdgD m b n, rfl, rdg_dp rd2, shp, shw, shn, _, rfl, _, rdgD m b n, rfl, rdg_dp (s14 _ _ (s113 _ _ rd0)), shp, shw, shn, rfl, _, rfl, ?_⟩⟩
      rw [eqs]
      have s114 := s113.trans s14
      refine iteF ⟨_, rfl, m, n, b, rfl, hn', hm', fun r3 H15 s15 rd3 => ⟨_, rdgD m b n, rfl, rdg_dp rd3, shp, shw, shn, _, rfl, _, rdgD m b n, rfl, rdg_dp (s15 _ _ (s114 _ _ rd0)), shp, shw, shn, rfl, _, rfl, ?_⟩⟩
      rw [eqs]
      have s115 := s114.trans s15
      have T15 := T10.same s115
      refine iteF ⟨_, _, rfl, rfl, ⟨by decide, by decide, by decide⟩, _, _, rfl, rfl, _, rfl, _, _, rfl, rfl, ⟨by decide, by decide, by decide⟩, tp, c, 100000000, _, rfl, by omega, by omega, by omega, T15, fun d5 H16 d50 d51 T16 k16 => ?_⟩
      obtain ⟨d5, rfl⟩ := Int.eq_ofNat_of_zero_le d50
      have e5 : (10 : Int) ^ (6 : Int).toNat + 1 + (d5 : Int) = ((1000001 + d5 : Nat) : Int) := by rw [e6]; omega
      refine ⟨_, _, rfl, rfl, _, rfl, _, rfl, by show 3 ≤ sizeLine; decide, fun r4 hr4 => ?_⟩
      have rd4 : RdgAt (upd H16 r4 (.tup [.int ((10 : Int) ^ (6 : Int).toNat + 1 + (d5 : Int)), .str (kindS b), .int (n : Nat)])) r4 (1000001 + d5) b n := by
        unfold RdgAt
        rw [upd_same, e5]
      have T17 := T16.new (o := .tup [.int ((10 : Int) ^ (6 : Int).toNat + 1 + (d5 : Int)), .str (kindS b), .int (n : Nat)]) hr4
      generalize upd H16 r4 (.tup [.int ((10 : Int) ^ (6 : Int).toNat + 1 + (d5 : Int)), .str (kindS b), .int (n : Nat)]) = H17 at rd4 T17 ⊢
      refine ⟨_, rfl, r4, 1000001 + d5, n, b, rfl, rd4, hn', by omega, fun H18 s18 => ?_⟩
      refine ⟨_, rfl, r4, _, 0, _, rfl, rfl, SqT.of (s18 _ _ rd4), atI_nat (j := 0) rfl, _, rfl, _, rfl, 1000001 + d5, n, b, rfl, hn', by omega, fun H19 s19 => ⟨rfl, _, rfl, ?_⟩⟩
      rw [eqs]
      exact iteF ⟨_, _, _, _, _, _, _, rfl, (T17.same (s18.trans s19)).mono (by omega)⟩
    · rintro σ H2 _
      exact q H2
end
theorem all_mk {l : PySem.W.OpenLaw} {w : World} {K : PySem.W.Frag} {h : Heap} {mg : Str → Option Value} {fa fhas_only fshow_time fread_time f_parts fshow_wire fread_wire f_law_feed f_law_draw f_law_of f_law_time f_law_wire flaw : Addr} (X : K.In h) (G : h.Ns mainGlobals mg) (hfa : mg "law" = some (.ref fa))
    {odhas_only anhas_only odshow_time anshow_time odread_time anread_time od_parts an_parts odshow_wire anshow_wire odread_wire anread_wire od_law_feed an_law_feed od_law_draw an_law_draw od_law_of an_law_of od_law_time an_law_time od_law_wire an_law_wire odlaw anlaw : Option Addr} {slhas_only slshow_time slread_time sl_parts slshow_wire slread_wire sl_law_feed sl_law_draw sl_law_of sl_law_time sl_law_wire sllaw : Array (Option Value)} {ochas_only kVhas_only dchas_only pmhas_only cdhas_only cthas_only ocshow_time kVshow_time dcshow_time pmshow_time cdshow_time ctshow_time ocread_time kVread_time dcread_time pmread_time cdread_time ctread_time oc_parts kV_parts dc_parts pm_parts cd_parts ct_parts ocshow_wire kVshow_wire dcshow_wire pmshow_wire cdshow_wire ctshow_wire ocread_wire kVread_wire dcread_wire pmread_wire cdread_wire ctread_wire oc_law_feed kV_law_feed dc_law_feed pm_law_feed cd_law_feed ct_law_feed oc_law_draw kV_law_draw dc_law_draw pm_law_draw cd_law_draw ct_law_draw oc_law_of kV_law_of dc_law_of pm_law_of cd_law_of ct_law_of oc_law_time kV_law_time dc_law_time pm_law_time cd_law_time ct_law_time oc_law_wire kV_law_wire dc_law_wire pm_law_wire cd_law_wire ct_law_wire oclaw kVlaw dclaw pmlaw cdlaw ctlaw : Value} {tDAY tHOUR tMOST_READ tLONGEST_READ tSIXTEENS tLONGEST_NUMBER : Tok} {DKINDS : Addr} {esKINDS : Array DictEntry} {nkKINDS : Nat} {tkKINDS_w tkKINDS_i : Tok}
    (ahas_only : PySem.W.nsIn K mainGlobals "has_only" = some (some (.ref fhas_only))) (lhas_only : K.lookup fhas_only = some ⟨ochas_only, odhas_only, .func (PySem.W.fnOf "has_only" "has_only" (defArgs sHas) (defBody sHas) (defScope sHas) .none kVhas_only dchas_only pmhas_only anhas_only cdhas_only cthas_only), slhas_only⟩) (chas_only : PySem.W.codeIn K cdhas_only "has_only" = true) (khas_only : PySem.W.keepIn K (.ref fhas_only) = true)
    (ashow_time : PySem.W.nsIn K mainGlobals "show_time" = some (some (.ref fshow_time))) (lshow_time : K.lookup fshow_time = some ⟨ocshow_time, odshow_time, .func (PySem.W.fnOf "show_time" "show_time" (defArgs sShow) (defBody sShow) (defScope sShow) .none kVshow_time dcshow_time pmshow_time anshow_time cdshow_time ctshow_time), slshow_time⟩) (cshow_time : PySem.W.codeIn K cdshow_time "show_time" = true) (kshow_time : PySem.W.keepIn K (.ref fshow_time) = true)
    (aread_time : PySem.W.nsIn K mainGlobals "read_time" = some (some (.ref fread_time))) (lread_time : K.lookup fread_time = some ⟨ocread_time, odread_time, .func (PySem.W.fnOf "read_time" "read_time" (defArgs sRead) (defBody sRead) (defScope sRead) .none kVread_time dcread_time pmread_time anread_time cdread_time ctread_time), slread_time⟩) (cread_time : PySem.W.codeIn K cdread_time "read_time" = true) (kread_time : PySem.W.keepIn K (.ref fread_time) = true)
    (a_parts : PySem.W.nsIn K mainGlobals "_parts" = some (some (.ref f_parts))) (l_parts : K.lookup f_parts = some ⟨oc_parts, od_parts, .func (PySem.W.fnOf "_parts" "_parts" (defArgs sParts) (defBody sParts) (defScope sParts) .none kV_parts dc_parts pm_parts an_parts cd_parts ct_parts), sl_parts⟩) (c_parts : PySem.W.codeIn K cd_parts "_parts" = true) (k_parts : PySem.W.keepIn K (.ref f_parts) = true)
    (ashow_wire : PySem.W.nsIn K mainGlobals "show_wire" = some (some (.ref fshow_wire))) (lshow_wire : K.lookup fshow_wire = some ⟨ocshow_wire, odshow_wire, .func (PySem.W.fnOf "show_wire" "show_wire" (defArgs sShowW) (defBody sShowW) (defScope sShowW) .none kVshow_wire dcshow_wire pmshow_wire anshow_wire cdshow_wire ctshow_wire), slshow_wire⟩) (cshow_wire : PySem.W.codeIn K cdshow_wire "show_wire" = true) (kshow_wire : PySem.W.keepIn K (.ref fshow_wire) = true)
    (aread_wire : PySem.W.nsIn K mainGlobals "read_wire" = some (some (.ref fread_wire))) (lread_wire : K.lookup fread_wire = some ⟨ocread_wire, odread_wire, .func (PySem.W.fnOf "read_wire" "read_wire" (defArgs sReadW) (defBody sReadW) (defScope sReadW) .none kVread_wire dcread_wire pmread_wire anread_wire cdread_wire ctread_wire), slread_wire⟩) (cread_wire : PySem.W.codeIn K cdread_wire "read_wire" = true) (kread_wire : PySem.W.keepIn K (.ref fread_wire) = true)
    (a_law_feed : PySem.W.nsIn K mainGlobals "_law_feed" = some (some (.ref f_law_feed))) (l_law_feed : K.lookup f_law_feed = some ⟨oc_law_feed, od_law_feed, .func (PySem.W.fnOf "_law_feed" "_law_feed" (defArgs sFeed) (defBody sFeed) (defScope sFeed) .none kV_law_feed dc_law_feed pm_law_feed an_law_feed cd_law_feed ct_law_feed), sl_law_feed⟩) (c_law_feed : PySem.W.codeIn K cd_law_feed "_law_feed" = true) (k_law_feed : PySem.W.keepIn K (.ref f_law_feed) = true)
    (a_law_draw : PySem.W.nsIn K mainGlobals "_law_draw" = some (some (.ref f_law_draw))) (l_law_draw : K.lookup f_law_draw = some ⟨oc_law_draw, od_law_draw, .func (PySem.W.fnOf "_law_draw" "_law_draw" (defArgs sDraw) (defBody sDraw) (defScope sDraw) .none kV_law_draw dc_law_draw pm_law_draw an_law_draw cd_law_draw ct_law_draw), sl_law_draw⟩) (c_law_draw : PySem.W.codeIn K cd_law_draw "_law_draw" = true) (k_law_draw : PySem.W.keepIn K (.ref f_law_draw) = true)
    (a_law_of : PySem.W.nsIn K mainGlobals "_law_of" = some (some (.ref f_law_of))) (l_law_of : K.lookup f_law_of = some ⟨oc_law_of, od_law_of, .func (PySem.W.fnOf "_law_of" "_law_of" (defArgs sOf) (defBody sOf) (defScope sOf) .none kV_law_of dc_law_of pm_law_of an_law_of cd_law_of ct_law_of), sl_law_of⟩) (c_law_of : PySem.W.codeIn K cd_law_of "_law_of" = true) (k_law_of : PySem.W.keepIn K (.ref f_law_of) = true)
    (a_law_time : PySem.W.nsIn K mainGlobals "_law_time" = some (some (.ref f_law_time))) (l_law_time : K.lookup f_law_time = some ⟨oc_law_time, od_law_time, .func (PySem.W.fnOf "_law_time" "_law_time" (defArgs sTime) (defBody sTime) (defScope sTime) .none kV_law_time dc_law_time pm_law_time an_law_time cd_law_time ct_law_time), sl_law_time⟩) (c_law_time : PySem.W.codeIn K cd_law_time "_law_time" = true) (k_law_time : PySem.W.keepIn K (.ref f_law_time) = true)
    (a_law_wire : PySem.W.nsIn K mainGlobals "_law_wire" = some (some (.ref f_law_wire))) (l_law_wire : K.lookup f_law_wire = some ⟨oc_law_wire, od_law_wire, .func (PySem.W.fnOf "_law_wire" "_law_wire" (defArgs sWire) (defBody sWire) (defScope sWire) .none kV_law_wire dc_law_wire pm_law_wire an_law_wire cd_law_wire ct_law_wire), sl_law_wire⟩) (c_law_wire : PySem.W.codeIn K cd_law_wire "_law_wire" = true) (k_law_wire : PySem.W.keepIn K (.ref f_law_wire) = true)
    (alaw : PySem.W.nsIn K mainGlobals "law" = some (some (.ref flaw))) (llaw : K.lookup flaw = some ⟨oclaw, odlaw, .func (PySem.W.fnOf "law" "law" (defArgs sLaw) (defBody sLaw) (defScope sLaw) .none kVlaw dclaw pmlaw anlaw cdlaw ctlaw), sllaw⟩) (claw : PySem.W.codeIn K cdlaw "law" = true) (klaw : PySem.W.keepIn K (.ref flaw) = true)
    (aDAY : PySem.W.nsIn K mainGlobals "DAY" = some (some (.int 1440 tDAY)))
    (aHOUR : PySem.W.nsIn K mainGlobals "HOUR" = some (some (.int 60 tHOUR)))
    (aMOST_READ : PySem.W.nsIn K mainGlobals "MOST_READ" = some (some (.int 1000000 tMOST_READ)))
    (aLONGEST_READ : PySem.W.nsIn K mainGlobals "LONGEST_READ" = some (some (.int 9 tLONGEST_READ)))
    (aSIXTEENS : PySem.W.nsIn K mainGlobals "SIXTEENS" = some (some (.str "0123456789abcdef" tSIXTEENS)))
    (aLONGEST_NUMBER : PySem.W.nsIn K mainGlobals "LONGEST_NUMBER" = some (some (.int 3 tLONGEST_NUMBER)))
    (aKINDS : PySem.W.nsIn K mainGlobals "KINDS" = some (some (.ref DKINDS))) (kdKINDS : K.lookup DKINDS = some ⟨.type "dict", none, .dict esKINDS nkKINDS, #[]⟩) (liKINDS : PySem.W.KeysLit w.params esKINDS.toList) (loKINDS : (DKINDS == sysModules) = false)
    (eKINDS_w : PySem.W.nsIn K DKINDS "w" = some (some (.str "water" tkKINDS_w)))
    (eKINDS_i : PySem.W.nsIn K DKINDS "i" = some (some (.str "ice" tkKINDS_i)))
    (zlen : PySem.W.nsIn K mainGlobals "len" = some none)
    (zdivmod : PySem.W.nsIn K mainGlobals "divmod" = some none)
    (zstr : PySem.W.nsIn K mainGlobals "str" = some none)
    (zint : PySem.W.nsIn K mainGlobals "int" = some none)
    (zisinstance : PySem.W.nsIn K mainGlobals "isinstance" = some none)
    (zall : PySem.W.nsIn K mainGlobals "all" = some none)
    (zlist : PySem.W.nsIn K mainGlobals "list" = some none)
    (zrange : PySem.W.nsIn K mainGlobals "range" = some none)
    (zrepr : PySem.W.nsIn K mainGlobals "repr" = some none)
    : ∃ fd : FuncData, (∀ (s : Shared) (v : Value), BindsTo s fd ⟨[v], []⟩ [("_law_script", v)]) ∧ ∀ base : Heap, K.In base → base.Ns mainGlobals mg → FnOkG l.prog w K mg base CX0 4 fa fd ["_law_script"] (spLaw K) := by
  have e := hfa.symm.trans (PySem.W.mg_of X G alaw)
  cases e
  have Fhas_only := fun_mk (st := sHas) lhas_only chas_only khas_only
  have ghas_only := PySem.W.mg_of X G ahas_only
  have bhas_only := Fhas_only.binds (ps := ["word", "signs"]) fun _ _ _ _ _ _ us hl => match us, hl with | [_, _], _ => rfl
  have Fshow_time := fun_mk (st := sShow) lshow_time cshow_time kshow_time
  have gshow_time := PySem.W.mg_of X G ashow_time
  have bshow_time := Fshow_time.binds (ps := ["minute"]) fun _ _ _ _ _ _ us hl => match us, hl with | [_], _ => rfl
  have Fread_time := fun_mk (st := sRead) lread_time cread_time kread_time
  have gread_time := PySem.W.mg_of X G aread_time
  have bread_time := Fread_time.binds (ps := ["word"]) fun _ _ _ _ _ _ us hl => match us, hl with | [_], _ => rfl
  have F_parts := fun_mk (st := sParts) l_parts c_parts k_parts
  have g_parts := PySem.W.mg_of X G a_parts
  have b_parts := F_parts.binds (ps := ["word"]) fun _ _ _ _ _ _ us hl => match us, hl with | [_], _ => rfl
  have Fshow_wire := fun_mk (st := sShowW) lshow_wire cshow_wire kshow_wire
  have gshow_wire := PySem.W.mg_of X G ashow_wire
  have bshow_wire := Fshow_wire.binds (ps := ["reading"]) fun _ _ _ _ _ _ us hl => match us, hl with | [_], _ => rfl
  have Fread_wire := fun_mk (st := sReadW) lread_wire cread_wire kread_wire
  have gread_wire := PySem.W.mg_of X G aread_wire
  have bread_wire := Fread_wire.binds (ps := ["word"]) fun _ _ _ _ _ _ us hl => match us, hl with | [_], _ => rfl
  have F_law_feed := fun_mk (st := sFeed) l_law_feed c_law_feed k_law_feed
  have g_law_feed := PySem.W.mg_of X G a_law_feed
  have b_law_feed := F_law_feed.binds (ps := ["_law_script"]) fun _ _ _ _ _ _ us hl => match us, hl with | [_], _ => rfl
  have F_law_draw := fun_mk (st := sDraw) l_law_draw c_law_draw k_law_draw
  have g_law_draw := PySem.W.mg_of X G a_law_draw
  have b_law_draw := F_law_draw.binds (ps := ["_law_feed_here", "_law_many"]) fun _ _ _ _ _ _ us hl => match us, hl with | [_, _], _ => rfl
  have F_law_of := fun_mk (st := sOf) l_law_of c_law_of k_law_of
  have g_law_of := PySem.W.mg_of X G a_law_of
  have b_law_of := F_law_of.binds (ps := ["_law_feed_here", "_law_some"]) fun _ _ _ _ _ _ us hl => match us, hl with | [_, _], _ => rfl
  have F_law_time := fun_mk (st := sTime) l_law_time c_law_time k_law_time
  have g_law_time := PySem.W.mg_of X G a_law_time
  have b_law_time := F_law_time.binds (ps := ["_law_moment"]) fun _ _ _ _ _ _ us hl => match us, hl with | [_], _ => rfl
  have F_law_wire := fun_mk (st := sWire) l_law_wire c_law_wire k_law_wire
  have g_law_wire := PySem.W.mg_of X G a_law_wire
  have b_law_wire := F_law_wire.binds (ps := ["_law_when", "_law_kind", "_law_number"]) fun _ _ _ _ _ _ us hl => match us, hl with | [_, _, _], _ => rfl
  have Flaw := fun_mk (st := sLaw) llaw claw klaw
  have glaw := PySem.W.mg_of X G alaw
  have blaw := Flaw.binds (ps := ["_law_script"]) fun _ _ _ _ _ _ us hl => match us, hl with | [_], _ => rfl
  have kbshow_wire := fun_kbinds Fshow_wire (ps := ["reading"]) (ks := ["reading"]) fun _ _ _ _ _ _ us ws hl => match us, ws, hl with | [], [_], _ => rfl | [_], [], _ => rfl
  have kbread_wire := fun_kbinds Fread_wire (ps := ["word"]) (ks := ["word"]) fun _ _ _ _ _ _ us ws hl => match us, ws, hl with | [], [_], _ => rfl | [_], [], _ => rfl
  have mDAY := PySem.W.mg_of X G aDAY
  have mHOUR := PySem.W.mg_of X G aHOUR
  have mMOST_READ := PySem.W.mg_of X G aMOST_READ
  have mLONGEST_READ := PySem.W.mg_of X G aLONGEST_READ
  have mSIXTEENS := PySem.W.mg_of X G aSIXTEENS
  have mLONGEST_NUMBER := PySem.W.mg_of X G aLONGEST_NUMBER
  have mlen := PySem.W.mg_none_of X G zlen
  have mdivmod := PySem.W.mg_none_of X G zdivmod
  have mstr := PySem.W.mg_none_of X G zstr
  have mint := PySem.W.mg_none_of X G zint
  have misinstance := PySem.W.mg_none_of X G zisinstance
  have mall := PySem.W.mg_none_of X G zall
  have mlist := PySem.W.mg_none_of X G zlist
  have mrange := PySem.W.mg_none_of X G zrange
  have mrepr := PySem.W.mg_none_of X G zrepr
  have mKINDS := PySem.W.mg_of X G aKINDS
  exact ⟨_, fun s v => .of_eq rfl, fun base _ _ => ok_law Flaw ⟨mlen⟩ ⟨mlist⟩ ⟨mlen, mall, mint, misinstance, mstr⟩ ⟨mlen, mdivmod, mstr, mint, misinstance, mall, ⟨_, mDAY⟩, ⟨_, mHOUR⟩, ⟨_, mMOST_READ⟩, ⟨_, mLONGEST_READ⟩⟩ ⟨mKINDS, ⟨kdKINDS, liKINDS, loKINDS⟩, ⟨_, eKINDS_w⟩, ⟨_, eKINDS_i⟩, ⟨_, mSIXTEENS⟩, ⟨_, mLONGEST_NUMBER⟩⟩ ⟨mrange, mrepr⟩ F_law_feed g_law_feed b_law_feed F_law_draw g_law_draw b_law_draw F_law_of g_law_of b_law_of Fshow_time gshow_time bshow_time F_parts g_parts b_parts Fread_time gread_time bread_time Fhas_only ghas_only bhas_only Fshow_wire gshow_wire bshow_wire kbshow_wire Fread_wire gread_wire bread_wire kbread_wire F_law_time g_law_time b_law_time F_law_wire g_law_wire b_law_wire⟩
end Bb
open PySem PySem.W PyProof.Rows
set_option maxHeartbeats 0 in
theorem PySem.Challenge.cw_boatbridge_k40_readings_by_wire_holds : PySem.Challenge.rw_boatbridge_k40_readings_by_wire.Holds := by
  w_on; o_law; k_head; (case hw => w_witness2)
  k_fill
  refine Bb.walkG (l := PySem.Challenge.rw_boatbridge_k40_readings_by_wire) (n := 63) (k := 4) (x := "_law_script") (sp := fun w => Bb.spLaw _) rfl (by decide) rfl ⟨rfl, by decide, by decide⟩ (fun w h Y => PySem.W.kIn_of Y) ?F (fun _ _ a ns hl _ hS => ⟨a, ns, rfl, hS, hl, fun _ => rfl⟩)
  case F =>
    intro w mg fa h KX G hmg
    refine' Bb.all_mk KX G hmg ?ahas_only ?lhas_only ?chas_only ?khas_only ?ashow_time ?lshow_time ?cshow_time ?kshow_time ?aread_time ?lread_time ?cread_time ?kread_time ?a_parts ?l_parts ?c_parts ?k_parts ?ashow_wire ?lshow_wire ?cshow_wire ?kshow_wire ?aread_wire ?lread_wire ?cread_wire ?kread_wire ?a_law_feed ?l_law_feed ?c_law_feed ?k_law_feed ?a_law_draw ?l_law_draw ?c_law_draw ?k_law_draw ?a_law_of ?l_law_of ?c_law_of ?k_law_of ?a_law_time ?l_law_time ?c_law_time ?k_law_time ?a_law_wire ?l_law_wire ?c_law_wire ?k_law_wire ?alaw ?llaw ?claw ?klaw ?aDAY ?aHOUR ?aMOST_READ ?aLONGEST_READ ?aSIXTEENS ?aLONGEST_NUMBER ?aKINDS ?kdKINDS ?liKINDS ?loKINDS ?eKINDS_w ?eKINDS_i ?zlen ?zdivmod ?zstr ?zint ?zisinstance ?zall ?zlist ?zrange ?zrepr
    (case ahas_only => k_is)
    (case lhas_only => k_is)
    (case chas_only => k_is)
    (case khas_only => k_is)
    (case ashow_time => k_is)
    (case lshow_time => k_is)
    (case cshow_time => k_is)
    (case kshow_time => k_is)
    (case aread_time => k_is)
    (case lread_time => k_is)
    (case cread_time => k_is)
    (case kread_time => k_is)
    (case a_parts => k_is)
    (case l_parts => k_is)
    (case c_parts => k_is)
    (case k_parts => k_is)
    (case ashow_wire => k_is)
    (case lshow_wire => k_is)
    (case cshow_wire => k_is)
    (case kshow_wire => k_is)
    (case aread_wire => k_is)
    (case lread_wire => k_is)
    (case cread_wire => k_is)
    (case kread_wire => k_is)
    (case a_law_feed => k_is)
    (case l_law_feed => k_is)
    (case c_law_feed => k_is)
    (case k_law_feed => k_is)
    (case a_law_draw => k_is)
    (case l_law_draw => k_is)
    (case c_law_draw => k_is)
    (case k_law_draw => k_is)
    (case a_law_of => k_is)
    (case l_law_of => k_is)
    (case c_law_of => k_is)
    (case k_law_of => k_is)
    (case a_law_time => k_is)
    (case l_law_time => k_is)
    (case c_law_time => k_is)
    (case k_law_time => k_is)
    (case a_law_wire => k_is)
    (case l_law_wire => k_is)
    (case c_law_wire => k_is)
    (case k_law_wire => k_is)
    (case alaw => k_is)
    (case llaw => k_is)
    (case claw => k_is)
    (case klaw => k_is)
    (case aDAY => k_is)
    (case aHOUR => k_is)
    (case aMOST_READ => k_is)
    (case aLONGEST_READ => k_is)
    (case aSIXTEENS => k_is)
    (case aLONGEST_NUMBER => k_is)
    (case aKINDS => k_is)
    (case kdKINDS => k_is)
    (case liKINDS => first | k_is | exact ⟨⟨_, _, rfl, rfl⟩, ⟨_, _, rfl, rfl⟩, trivial⟩ | decide +kernel)
    (case loKINDS => first | k_is | exact ⟨⟨_, _, rfl, rfl⟩, ⟨_, _, rfl, rfl⟩, trivial⟩ | decide +kernel)
    (case eKINDS_w => k_is)
    (case eKINDS_i => k_is)
    (case zlen => k_is)
    (case zdivmod => k_is)
    (case zstr => k_is)
    (case zint => k_is)
    (case zisinstance => k_is)
    (case zall => k_is)
    (case zlist => k_is)
    (case zrange => k_is)
    (case zrepr => k_is)
