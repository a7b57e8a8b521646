import PyProof.Rows.All
import Wide.All
import OpenK.AllK
import Wide.FinOn
import PyProof.FString3
import PyProof.InstNe
import HandS.ForMost
import HandS.FStr
import HandS.StrMore
import HandS.IsInst
import HandS.Codes
import HandS.TryOnly
import HandS.SlotsOwn
import HandS.Defaults
import HandS.MakeKwOnly
import HandS.MakeKw
import HandS.SortInts
import HandS.SortKw
import HandS.OwnEq
import KE.KCallOwn
import KE.KFmtOwn
import HandS.Style
import PySem.Challenge.RW_boatbridge_k42_stands_at_minutes
set_option Elab.async false
set_option linter.all false
set_option maxRecDepth 100000
namespace Bb
open PySem PySem.Spec PyProof.Rows L2 PySem.W
open C8 (pss_cut)
open TL (tl ext_tl partition_app partition_none)
def topS (i : Nat) : Stmt := PySem.Challenge.pw_boatbridge_k42_stands_at_minutes.main.body.getD i (.Pass ⟨0, 0, 0, 0⟩)
abbrev sFeed : Stmt := topS 19
abbrev NFeed : List Str := ["_law_script"]
theorem scFeed : FnScope NFeed ["_law_script"] (defScope sFeed) := ⟨rfl, rfl, rfl, by decide +kernel, rfl, by decide +kernel, by decide +kernel⟩
abbrev sDraw : Stmt := topS 20
abbrev NDraw : List Str := ["_law_feed_here", "_law_many", "_law_found", "_law_spot", "_law_cell", "_law_mixed"]
theorem scDraw : FnScope NDraw ["_law_feed_here", "_law_many"] (defScope sDraw) := ⟨rfl, rfl, rfl, by decide +kernel, rfl, by decide +kernel, by decide +kernel⟩
abbrev sOf : Stmt := topS 21
abbrev NOf : List Str := ["_law_feed_here", "_law_some"]
theorem scOf : FnScope NOf ["_law_feed_here", "_law_some"] (defScope sOf) := ⟨rfl, rfl, rfl, by decide +kernel, rfl, by decide +kernel, by decide +kernel⟩

/-- the tape at T: the cells' list, the draws done (at most n), the rest of a great cell -/
structure Tape (H : Hp) (T c : Addr) (n : Nat) : Prop where
  ex : ∃ (t r : Int) (ns : List Int), H T = some (.lst [.ref c, .int t, .int r]) ∧ H c = some (.lst (ns.map V.int)) ∧ c ≠ T ∧ 0 ≤ t ∧ t ≤ n ∧ ns.length ≤ 63
/-- all but the tape stands as it stood -/
def Keep (T : Addr) (H H' : Hp) : Prop := ∀ a o, a ≠ T → H a = some o → H' a = some o
theorem Keep.refl {T : Addr} {H : Hp} : Keep T H H := fun _ _ _ e => e
theorem Keep.trans {T : Addr} {H H1 H2 : Hp} (a : Keep T H H1) (b : Keep T H1 H2) : Keep T H H2 := fun x o n e => b x o n (a x o n e)
theorem Keep.updT {T : Addr} {H H1 : Hp} {o : HO} (a : Keep T H H1) : Keep T H (upd H1 T o) := fun x o n e => by
  rw [upd_ne n]; exact a x o n e
theorem Keep.new {T : Addr} {H H1 : Hp} {p : Addr} {o : HO} (a : Keep T H H1) (h : H1 p = none) : Keep T H (upd H1 p o) := fun x o n e => by
  have z := a x o n e
  rw [upd_ne (ne_of_none z h)]; exact z
theorem Tape.mono {H : Hp} {T c : Addr} {n m : Nat} (h : Tape H T c n) (l : n ≤ m) : Tape H T c m := by
  obtain ⟨t, r, ns, h1, h2, h3, h4, h5, h6⟩ := h.ex
  exact ⟨t, r, ns, h1, h2, h3, h4, by omega, h6⟩
theorem Tape.upd {H : Hp} {T c : Addr} {n : Nat} {p : Addr} {o : HO} (h : Tape H T c n) (n1 : p ≠ T) (n2 : p ≠ c) : Tape (upd H p o) T c n := by
  obtain ⟨t, r, ns, h1, h2, h3, h4, h5, h6⟩ := h.ex
  exact ⟨t, r, ns, by rw [upd_ne n1.symm]; exact h1, by rw [upd_ne n2.symm]; exact h2, h3, h4, h5, h6⟩
theorem Tape.new {H : Hp} {T c : Addr} {n : Nat} {p : Addr} {o : HO} (h : Tape H T c n) (hp : H p = none) : Tape (L2.upd H p o) T c n := by
  obtain ⟨t, r, ns, h1, h2, h3, h4, h5, h6⟩ := h.ex
  exact ⟨t, r, ns, by rw [upd_ne (ne_of_none h1 hp)]; exact h1, by rw [upd_ne (ne_of_none h2 hp)]; exact h2, h3, h4, h5, h6⟩
theorem Tape.nec {H : Hp} {T c : Addr} {n : Nat} {p : Addr} (h : Tape H T c n) (hp : H p = none) : p ≠ c := by
  obtain ⟨t, r, ns, _, h2, _⟩ := h.ex
  exact (ne_of_none h2 hp).symm
theorem Tape.ne {H : Hp} {T c : Addr} {n : Nat} {p : Addr} (h : Tape H T c n) (hp : H p = none) : p ≠ T := by
  obtain ⟨t, r, ns, h1, _⟩ := h.ex
  exact (ne_of_none h1 hp).symm
theorem upd_at {H : Hp} {p a : Addr} {o z : HO} (hp : H p = none) (h : H a = some z) : (upd H p o) a = some z := by
  rw [upd_ne (ne_of_none h hp)]; exact h
def spTape (K : PySem.W.Frag) : Sp := fun vs H Q _ => ∃ (a : Addr) (ns : List Int), vs = [.ref a] ∧ SqL K H a (ns.map V.int) ∧ ns.length ≤ 63 ∧
  ∀ T c H', H T = none → H c = none → Same H H' → Tape H' T c 0 → Q (.ref T) H'
def spDraw : Sp := fun vs H Q _ => ∃ (T c : Addr) (b : Int) (n : Nat), vs = [.ref T, .int b] ∧ 0 < b ∧ b < 1073741824 ∧ n < 1000000 ∧ Tape H T c n ∧
  ∀ d H', 0 ≤ d → d < b → Tape H' T c (n + 1) → Keep T H H' → Q (.int d) H'
/-- an item of a list, any one -/
def spPick : Sp := fun vs H Q _ => ∃ (T c p : Addr) (xs : List V) (n : Nat), vs = [.ref T, .ref p] ∧ H p = some (.lst xs) ∧ p ≠ T ∧ 0 < xs.length ∧ xs.length < 1000000 ∧ n < 1000000 ∧ Tape H T c n ∧
  ∀ (j : Nat) (x : V) H', xs[j]? = some x → Tape H' T c (n + 1) → Keep T H H' → Q x H'
theorem dp_ints {K : PySem.W.Frag} {H : Hp} : ∀ ns : List Int, DpAll K H (ns.map V.int) (ns.map PyData.int)
  | [] => .nil
  | _ :: r => .cons (.int _) (dp_ints r)
theorem cut63 {ns : List Int} (h : ns.length ≤ 63) : cutV (ns.map V.int) none (some 63) = ns.map V.int := by
  unfold cutV
  rw [HT.sIx_none, show HT.sIx (ns.map V.int).length (ns.map V.int).length (some 63) = min 63 (ns.map V.int).length from HT.sIx_nat _ _ 63, List.length_map, Nat.min_eq_right h]
  show ((ns.map V.int).take (ns.length - 0)) = _
  rw [Nat.sub_zero]
  exact List.take_of_length_le (by rw [List.length_map]; exact Nat.le_refl _)
theorem fmod_in {a b : Int} (h : 0 < b) : 0 ≤ a.fmod b ∧ a.fmod b < b := by
  rw [Int.fmod_eq_emod_of_nonneg a (Int.le_of_lt h)]; exact ⟨Int.emod_nonneg a (by omega), Int.emod_lt_of_pos a h⟩
/-- what the law's helpers ask of the module's names -/
structure Txt0 (mg : Str → Option Value) : Prop where
  mlen : mg "len" = none
structure TxtF (mg : Str → Option Value) : Prop where
  mlist : mg "list" = none
section
variable {P : Program} {w : World} {K : PySem.W.Frag} {mg : Str → Option Value} {base : Heap}
theorem ok_draw {f : Addr} {fd : FuncData} {k : Nat} (F : Fun K "_law_draw" "_law_draw" sDraw f fd) (T : Txt0 mg) : FnOk P w K mg base CX0 (k + 1) f fd ["_law_feed_here", "_law_many"] spDraw := by
  refine F.ok scDraw (fun vs H Q E h => ?_) (fun cdv A outer s H vs Q E hr h => ?_)
  · obtain ⟨T, c, b, n, rfl, _⟩ := h
    rfl
  · obtain ⟨a, c, b, n, rfl, hb0, hb1, hn, hT, q⟩ := h
    obtain ⟨t, r, ns, h1, h2, h3, h4, h5, h6⟩ := hT.ex
    refine ⟨_,
      (pss_cons (ps_if (pt_cmpR op_gt (pe_ix ix_list (pv 0) pe_int (fun _ _ => rfl)) pe_int (nomark _))
      (pss_cons (ps_set (i := 2) scDraw.nd rfl (.inl rfl) (pe_op op_modN (pe_ix ix_list (pv 0) pe_int (fun _ _ => rfl)) (pv 1)))
      (pss_cons (ps_asg (pe_op op_fdivN (pe_ix ix_list (pv 0) pe_int (fun _ _ => rfl)) (pv 1)) (pg_sub (pv 0) pe_int set_list))
      (pss_one (ps_ret (pv 2)))))
      pss_nil)
      (pss_cons (ps_set (i := 3) scDraw.nd rfl (.inl rfl) (pe_ix ix_list (pv 0) pe_int (fun _ _ => rfl)))
      (pss_cut (ps_asg (pe_op op_add (pv 3) pe_int) (pg_sub (pv 0) pe_int set_list))
      (pss_cut (ps_set (i := 4) scDraw.nd rfl (.inl rfl) (pe_ifExp (pt_cmpR (op_neD hr.units) (pe_ix ix_list (pv 0) pe_int (fun _ _ => rfl)) (pe_lst pa_nil) (nomark _)) (pe_ix ix_list (pe_ix ix_list (pv 0) pe_int (fun _ _ => rfl)) (pe_op op_modN (pv 3) (pe_callB call_len_seq (by rfl) T.mlen PySem.boot_len (pa_cons (pe_ix ix_list (pv 0) pe_int (fun _ _ => rfl)) pa_nil))) (fun _ _ => rfl)) (pe_op op_add (pe_op op_mul pe_int (pv 3)) pe_int)))
      (pss_cut (ps_if (PW.pt (pw_and (pt_cmpR op_lt (pv 3) (pe_callB call_len_seq (by rfl) T.mlen PySem.boot_len (pa_cons (pe_ix ix_list (pv 0) pe_int (fun _ _ => rfl)) pa_nil)) (nomark _)) (pw_and1 (pt_cmpR op_ge (pv 4) (pe_op op_pow pe_int pe_int) (nomark _)))))
      (pss_cons (ps_asg (pe_op op_fdivN (pv 4) (pv 1)) (pg_sub (pv 0) pe_int set_list))
      (pss_one (ps_ret (pe_op op_modN (pv 4) (pv 1)))))
      pss_nil)
      (pss_cut (ps_set (i := 5) scDraw.nd rfl (.inl rfl) (pe_op op_modN (pe_op op_pow (pe_op op_add (pe_op op_add (pe_op op_modN (pv 4) pe_int) (pe_op op_mul pe_int (pv 3))) pe_int) pe_int) pe_int))
      (pss_cut (ps_set (i := 5) scDraw.nd rfl (.inl rfl) (pe_op op_modN (pe_op op_mul (pe_op op_add (pe_op op_fdivN (pv 5) pe_int) pe_int) (pe_op op_add (pe_op op_modN (pe_op op_mul pe_int (pv 3)) pe_int) pe_int)) pe_int))
      (pss_one (ps_ret (pe_op op_modN (pe_op op_fdivN (pv 5) pe_int) (pv 1)))))))))))
      , ?_⟩
    -- if feed[2] > 0
    refine ⟨_, rfl, a, _, 2, _, rfl, rfl, SqL.of h1, atI_nat (j := 2) rfl, _, _, rfl, rfl, _, rfl, ite2 (fun _ => ?_) (fun _ => ?_)⟩
    · obtain ⟨e1, e2⟩ := fmod_in (a := r) hb0
      refine ⟨_, rfl, a, _, 2, _, rfl, rfl, SqL.of h1, atI_nat (j := 2) rfl, _, rfl, _, _, rfl, rfl, by omega, ?_⟩
      refine ⟨_, rfl, a, _, 2, _, rfl, rfl, SqL.of h1, atI_nat (j := 2) rfl, _, rfl, _, _, rfl, rfl, ⟨by omega, by omega⟩, ?_⟩
      refine ⟨_, rfl, a, _, 2, 2, rfl, rfl, h1, rfl, ?_⟩
      refine ⟨_, rfl, q _ _ e1 e2 ⟨t, _, ns, upd_same, ?_, h3, h4, by omega, h6⟩ Keep.refl.updT⟩
      rw [upd_ne h3]; exact h2
    · refine ⟨_, rfl, a, _, 1, _, rfl, rfl, SqL.of h1, atI_nat (j := 1) rfl, ?_⟩
      refine ⟨fun σ H2 => σ = [some (.ref a), some (.int b), none, some (.int t), none, none] ∧ H2 a = some (.lst [.ref c, .int (t + 1), .int r]) ∧ H2 c = some (.lst (ns.map V.int)) ∧ Keep a H H2, ?_, ?_⟩
      · refine ⟨_, rfl, _, _, rfl, rfl, _, rfl, a, _, 1, 1, rfl, rfl, h1, rfl, rfl, upd_same, ?_, Keep.refl.updT⟩
        rw [upd_ne h3]; exact h2
      rintro σ H1 ⟨rfl, g1, g2, k0⟩
      refine ⟨fun σ H2 => ∃ cell : Int, σ = [some (.ref a), some (.int b), none, some (.int t), some (.int cell), none] ∧ H2 a = some (.lst [.ref c, .int (t + 1), .int r]) ∧ H2 c = some (.lst (ns.map V.int)) ∧ Keep a H H2, ?_, ?_⟩
      · refine ⟨_, rfl, a, _, 0, _, rfl, rfl, SqL.of g1, atI_nat (j := 0) rfl, Nat.zero_le _, fun l hl => ?_⟩
        have u1 := upd_at (o := .lst []) hl g1
        have u2 := upd_at (o := .lst []) hl g2
        refine ⟨_, .list [], .lst (SqL.of u2) (dp_ints _), .lst (SqL.of upd_same) .nil, ke_shaped_ints ns, ke_shaped_ints [], _, rfl, ?_⟩
        cases hns : ns with
        | nil =>
          refine iteF ⟨_, rfl, _, _, rfl, rfl, .inl ⟨by decide, by decide⟩, _, _, rfl, rfl, _, rfl, u1, by rw [← hns]; exact u2, k0.new hl⟩
        | cons z zs =>
          refine iteT ?_
          rw [← hns]
          have hpos : 0 < (ns.length : Int) := by rw [hns]; simp
          refine ⟨_, rfl, a, _, 0, _, rfl, rfl, SqL.of u1, atI_nat (j := 0) rfl, _, rfl, _, rfl, a, _, 0, _, rfl, rfl, SqL.of u1, atI_nat (j := 0) rfl, c, _, rfl, .inl (SqL.of u2), _, _, rfl, rfl, ?_, ?_⟩
          · rw [List.length_map]; omega
          · obtain ⟨e1, e2⟩ := fmod_in (a := t) hpos
            obtain ⟨j, hj⟩ := Int.eq_ofNat_of_zero_le e1
            have hj2 : j < ns.length := by omega
            refine ⟨c, _, (j : Int), .int ns[j], rfl, ?_, SqL.of u2, atI_nat ?_, _, rfl, u1, u2, k0.new hl⟩
            · exact congrArg V.int (by rw [List.length_map]; exact hj)
            · rw [List.getElem?_map, List.getElem?_eq_getElem hj2]; rfl
      · rintro σ H2 ⟨cell, rfl, u1, u2, k2⟩
        have tp : ∀ (r' : Int) (H3 : Hp), H3 a = some (.lst [.ref c, .int (t + 1), .int r']) → H3 c = some (.lst (ns.map V.int)) → Tape H3 a c (n + 1) := fun r' H3 x1 x2 => ⟨t + 1, r', ns, x1, x2, h3, by omega, by omega, h6⟩
        refine ⟨fun σ H3 => σ = [some (.ref a), some (.int b), none, some (.int t), some (.int cell), none] ∧ H3 = H2, ?_, ?_⟩
        · refine ⟨_, rfl, _, rfl, a, _, 0, _, rfl, rfl, SqL.of u1, atI_nat (j := 0) rfl, c, _, rfl, .inl (SqL.of u2), _, _, rfl, rfl, _, rfl, ite2 (fun _ => ?_) (fun _ => iteF ⟨rfl, rfl⟩)⟩
          refine ⟨_, rfl, _, _, rfl, rfl, ⟨by decide, by decide, by decide⟩, _, _, rfl, rfl, _, rfl, ite2 (fun _ => ?_) (fun _ => ⟨rfl, rfl⟩)⟩
          refine ⟨_, rfl, _, rfl, _, _, rfl, rfl, ⟨by omega, by omega⟩, _, rfl, a, _, 2, 2, rfl, rfl, u1, rfl, ?_⟩
          refine ⟨_, rfl, _, rfl, _, _, rfl, rfl, by omega, ?_⟩
          exact q _ _ (fmod_in hb0).1 (fmod_in hb0).2 (tp _ _ upd_same (by rw [upd_ne h3]; exact u2)) k2.updT
        · rintro σ H3 ⟨rfl, rfl⟩
          obtain ⟨c0, c1⟩ := fmod_in (a := cell) (b := 2147483629) (by decide)
          refine ⟨fun σ H4 => ∃ m1 : Int, σ = [some (.ref a), some (.int b), none, some (.int t), some (.int cell), some (.int m1)] ∧ H4 = H3, ?_, ?_⟩
          · refine ⟨_, rfl, _, _, rfl, rfl, (by show (2147483629 : Int) ≠ 0; decide), _, rfl, _, _, rfl, rfl, .inl ⟨by decide, by decide⟩, _, _, rfl, rfl, _, _, rfl, rfl, _, _, rfl, rfl, ⟨by decide, by decide, by omega⟩, _, _, rfl, rfl, (by show (2147483647 : Int) ≠ 0; decide), _, rfl, rfl⟩
          rintro σ H4 ⟨m1, rfl, rfl⟩
          refine ⟨fun σ H5 => ∃ m2 : Int, σ = [some (.ref a), some (.int b), none, some (.int t), some (.int cell), some (.int m2)] ∧ H5 = H4, ?_, ?_⟩
          · obtain ⟨f0, f1⟩ := fmod_in (a := 48271 * t) (b := 65521) (by decide)
            refine ⟨_, rfl, _, _, rfl, rfl, ⟨by decide, by decide⟩, _, _, rfl, rfl, _, rfl, _, _, rfl, rfl, .inl ⟨by decide, by decide⟩, _, _, rfl, rfl, (by show (65521 : Int) ≠ 0; decide), _, _, rfl, rfl, _, _, rfl, rfl, .inr ⟨by omega, by omega⟩, _, _, rfl, rfl, (by show (2147483587 : Int) ≠ 0; decide), _, rfl, rfl⟩
          rintro σ H5 ⟨m2, rfl, rfl⟩
          refine ⟨_, rfl, _, _, rfl, rfl, ⟨by decide, by decide⟩, _, rfl, _, _, rfl, rfl, by omega, ?_⟩
          exact q _ _ (fmod_in hb0).1 (fmod_in hb0).2 (tp _ _ u1 u2) k2
/-- an item of a list by a draw -/
theorem ok_of {f fD : Addr} {fd fdD : FuncData} {k : Nat} (F : Fun K "_law_of" "_law_of" sOf f fd) (T : Txt0 mg) (F_law_draw : Fun K "_law_draw" "_law_draw" sDraw fD fdD) (g_law_draw : mg "_law_draw" = some (.ref fD)) (b_law_draw : Binds K fdD ["_law_feed_here", "_law_many"] []) :
    FnOk P w K mg base CX0 (k + 2) f fd ["_law_feed_here", "_law_some"] spPick := by
  have G_law_draw : FnOk P w K mg base CX0 (k + 1) fD fdD ["_law_feed_here", "_law_many"] spDraw := ok_draw F_law_draw T
  refine F.ok scOf (fun vs H Q E h => ?_) (fun cdv A outer s H vs Q E hr h => ?_)
  · obtain ⟨T, c, p, xs, n, rfl, _⟩ := h
    rfl
  · obtain ⟨a, c, p, xs, n, rfl, hS, hpa, hx0, hx1, hn, hT, q⟩ := h
    have hr_law_draw := hr
    refine ⟨_,
      (pss_one (ps_ret (pe_ix ix_list (pv 1) (pe_call G_law_draw hr_law_draw (by rfl) g_law_draw F_law_draw.kp b_law_draw .nil pass0 (pa_cons (pv 0) (pa_cons (pe_callB call_len_seq (by rfl) T.mlen PySem.boot_len (pa_cons (pv 1) pa_nil)) pa_nil))) (fun _ _ => rfl))))
      , ?_⟩
    refine ⟨_, rfl, _, rfl, _, rfl, p, xs, rfl, .inl (SqL.of hS), a, c, xs.length, n, rfl, by omega, by omega, hn, hT, fun d H' d0 d1 T' k' => ?_⟩
    obtain ⟨j, rfl⟩ := Int.eq_ofNat_of_zero_le d0
    have hj : j < xs.length := by omega
    exact ⟨p, xs, (j : Int), xs[j], rfl, rfl, SqL.of (k' p _ hpa hS), atI_nat (List.getElem?_eq_getElem hj), q j _ _ (List.getElem?_eq_getElem hj) T' k'⟩
/-- the tape's making: the cells in a list of their own -/
theorem ok_feed {f : Addr} {fd : FuncData} {k : Nat} (F : Fun K "_law_feed" "_law_feed" sFeed f fd) (T : TxtF mg) : FnOk P w K mg base CX0 (k + 1) f fd ["_law_script"] (spTape K) := by
  refine F.ok scFeed (fun vs H Q E h => ?_) (fun cdv A outer s H vs Q E hr h => ?_)
  · obtain ⟨a, ns, rfl, _⟩ := h
    rfl
  · obtain ⟨a, ns, rfl, hS, hlen, q⟩ := h
    refine ⟨_,
      (pss_one (ps_ret (pe_lst (pa_cons (pe_callTy call_list_of (by rfl) T.mlist (by decide +kernel) (pa_cons (pe_slice sl_list (pv 0) po_none (po_some pe_int)) pa_nil)) (pa_cons pe_int (pa_cons pe_int pa_nil))))))
      , ?_⟩
    refine ⟨_, rfl, _, rfl, a, _, rfl, hS, fun p0 hp0 => ?_⟩
    refine ⟨p0, _, rfl, .inl (SqL.of upd_same), fun p hp => ?_⟩
    refine ⟨by show 3 ≤ sizeLine; decide, fun l hl => ?_⟩
    have nlp : p ≠ l := fun e => by rw [e, upd_same] at hl; cases hl
    have hp1 : H p = none := by
      by_cases e : p = p0
      · rw [e, upd_same] at hp; cases hp
      · rw [upd_ne e] at hp; exact hp
    have hl0 : H l = none := by
      rw [upd_ne nlp.symm] at hl
      by_cases e : l = p0
      · rw [e, upd_same] at hl; cases hl
      · rw [upd_ne e] at hl; exact hl
    refine q l p _ hl0 hp1 (fun b o e => upd_at hl (upd_at hp (upd_at hp0 e))) ⟨0, 0, ns, upd_same, ?_, nlp, by omega, by omega, hlen⟩
    rw [upd_ne nlp, upd_same, cut63 hlen]
end
/-! ### heaps that grow -/
theorem Tape.same {H H' : Hp} {T c : Addr} {n : Nat} (h : Tape H T c n) (s : Same H H') : Tape H' T c n := by
  obtain ⟨t, r, ns, h1, h2, h3, h4, h5, h6⟩ := h.ex
  exact ⟨t, r, ns, s _ _ h1, s _ _ h2, h3, h4, h5, h6⟩
theorem Keep.same {T : Addr} {H H1 H2 : Hp} (a : Keep T H H1) (b : Same H1 H2) : Keep T H H2 := fun x o n e => b x o (a x o n e)
theorem same_upd {H : Hp} {p : Addr} {o : HO} (h : H p = none) : Same H (upd H p o) := fun b x e => by
  rw [upd_ne (ne_of_none e h)]; exact e
theorem same_refl {H : Hp} : Same H H := fun _ _ e => e
theorem small_line {n : Nat} (h : n ≤ 100) : n ≤ sizeLine := Nat.le_trans h (by decide)
/-! ### a call with keywords alone -/
section
variable {X : Cx} {CX : CXT} {k : Nat} {f : Addr} {fd : FuncData} {ps ks : List Str} {sp : Sp} {E : XK} {x : Str} {p pos : Pos} {kws : List Keyword} {tk : TA} {g : List Value → List Value → List Value} {gV : List V → List V → List V}
theorem pe_callK0 (F : FnOk X.prog X.w X.K X.mg X.base CX k f fd ps sp) (hr : Room k X.A) (hg : Gl X x) (hm : X.mg x = some (.ref f)) (hk : PySem.W.keepIn X.K (.ref f) = true) (hb : KBinds X.K fd ps ks g gV) (hx : Passes CX X E)
    (hkw : PK X kws tk) (hall : (backToKw pos (keywordEach kws X.env)).all (·.1.isSome) = true := by rfl) (hks : (backToKw pos (keywordEach kws X.env)).filterMap (·.1) = ks := by rfl)
    (hdb : (x == ("__debug__" : Str)) = false := by decide)
    (hpl : ((backTo pos (starEach [] X.env)).any (·.1) || (backToKw pos (keywordEach kws X.env)).any (·.1.isNone)) = false := by rfl) :
    PE X (.Call (.Name x p) [] kws pos) (tCallK sp gV E tNil tk) := by
  refine ⟨fun pins s σ H Q I h => ?_⟩
  refine wpAny_Call_Name_kw (ld_glob I hg hm ?_ hdb)
  refine PySem.W.callWith_KW0 (h₀ := X.base) I.ok.mod.kin hk hall ?_ hpl
  refine thn (hkw.run pos pins s σ H _ I h) fun ws s2 ⟨zs, H2, I2, rz, q2⟩ => ⟨I2.kIn, ?_⟩
  rw [hks]
  exact run_fnk F hr hb hx I2 .nil rz q2
/-- keywords in the parameters' own order -/
theorem fun_kbinds {K : Frag} {x qual : Str} {st : Stmt} {f : Addr} {fd : FuncData} {ps ks : List Str} (F : Fun K x qual st f fd)
    (h : ∀ (kV doc pm : Value) (an : Option Addr) (cdv ct : Value) (us ws : List Value), (us ++ ws).length = ps.length → bindArgs (PySem.W.fnOf x qual (defArgs st) (defBody st) (defScope st) .none kV doc pm an cdv ct) ⟨us, ks.zip ws⟩ = pure (ps.zip (us ++ ws))) :
    KBinds K fd ps ks (· ++ ·) (· ++ ·) := by
  obtain ⟨oc, od, kV, doc, pm, an, cdv, ct, osl, rfl, lk, hcd⟩ := F.ex
  exact ⟨fun s us ws _ hl => .of_eq (h kV doc pm an cdv ct us ws hl), fun a b => a.append b⟩
theorem vals_rev : ∀ {zs : List V} {ws : List Value}, Vals zs ws → Vals zs.reverse ws.reverse
  | _, _, .nil => .nil
  | _, _, .cons r t => by
    rw [List.reverse_cons, List.reverse_cons]
    exact (vals_rev t).append (.cons r .nil)
/-- all by keywords -/
def kwAll {α : Type} (n : Nat) (us ws : List α) : List α := if us.length = 0 ∧ ws.length = n then ws else []
theorem kwAll_vals {n : Nat} {vs zs : List V} {us ws : List Value} (a : Vals vs us) (b : Vals zs ws) : Vals (kwAll n vs zs) (kwAll n us ws) := by
  unfold kwAll
  rw [a.length, b.length]
  split
  · exact b
  · exact .nil
theorem fun_kbindsA {K : Frag} {x qual : Str} {st : Stmt} {f : Addr} {fd : FuncData} {ps ks : List Str} (F : Fun K x qual st f fd) (hn : ps ≠ [])
    (h : ∀ (kV doc pm : Value) (an : Option Addr) (cdv ct : Value) (ws : List Value), ws.length = ps.length → bindArgs (PySem.W.fnOf x qual (defArgs st) (defBody st) (defScope st) .none kV doc pm an cdv ct) ⟨[], ks.zip ws⟩ = pure (ps.zip ws)) :
    KBinds K fd ps ks (kwAll ps.length) (kwAll ps.length) := by
  obtain ⟨oc, od, kV, doc, pm, an, cdv, ct, osl, rfl, lk, hcd⟩ := F.ex
  refine ⟨fun s us ws _ hl => ?_, kwAll_vals⟩
  unfold kwAll at hl ⊢
  split at hl
  · rename_i c
    rw [if_pos c, List.eq_nil_of_length_eq_zero c.1]
    exact .of_eq (h kV doc pm an cdv ct ws c.2)
  · exact absurd (List.eq_nil_of_length_eq_zero hl.symm) hn
/-- all by keywords, in the parameters' order turned about -/
theorem fun_kbindsR {K : Frag} {x qual : Str} {st : Stmt} {f : Addr} {fd : FuncData} {ps ks : List Str} (F : Fun K x qual st f fd) (hn : ps ≠ [])
    (h : ∀ (kV doc pm : Value) (an : Option Addr) (cdv ct : Value) (ws : List Value), ws.length = ps.length → bindArgs (PySem.W.fnOf x qual (defArgs st) (defBody st) (defScope st) .none kV doc pm an cdv ct) ⟨[], ks.zip ws⟩ = pure (ps.zip ws.reverse)) :
    KBinds K fd ps ks (fun us ws => (kwAll ps.length us ws).reverse) (fun us ws => (kwAll ps.length us ws).reverse) := by
  obtain ⟨oc, od, kV, doc, pm, an, cdv, ct, osl, rfl, lk, hcd⟩ := F.ex
  refine ⟨fun s us ws _ hl => ?_, fun a b => vals_rev (kwAll_vals a b)⟩
  rw [List.length_reverse] at hl
  unfold kwAll at hl ⊢
  split at hl
  · rename_i c
    rw [if_pos c, List.eq_nil_of_length_eq_zero c.1]
    exact .of_eq (h kV doc pm an cdv ct ws c.2)
  · exact absurd (List.eq_nil_of_length_eq_zero hl.symm) hn
end
abbrev sGInit : Stmt := inClass (topS 16) 0
abbrev NGInit : List Str := ["self", "lag", "high", "top", "thin", "thick"]
theorem scGInit : FnScope NGInit ["self", "lag", "high", "top", "thin", "thick"] (defScope sGInit) := ⟨rfl, rfl, rfl, by decide +kernel, rfl, by decide +kernel, by decide +kernel⟩
abbrev sGStand : Stmt := inClass (topS 16) 1
abbrev NGStand : List Str := ["self", "readings", "minute", "water", "ice"]
theorem scGStand : FnScope NGStand ["self", "readings", "minute"] (defScope sGStand) := ⟨rfl, rfl, rfl, by decide +kernel, rfl, by decide +kernel, by decide +kernel⟩
abbrev sNumAt : Stmt := topS 17
abbrev NNumAt : List Str := ["readings", "kind", "until", "latest", "told", "minute", "read", "number"]
theorem scNumAt : FnScope NNumAt ["readings", "kind", "until"] (defScope sNumAt) := ⟨rfl, rfl, rfl, by decide +kernel, rfl, by decide +kernel, by decide +kernel⟩
/-! ### o.m(k = v, ..) -/
section
variable {X : Cx} {CX : CXT} {k : Nat} {f C : Addr} {fd : FuncData} {ps ks : List Str} {sp : Sp} {E : XK} {m : Str} {apos pos : Pos} {o : Expr} {kws : List Keyword} {ta : TE} {tk : TA} {g : List Value → List Value → List Value} {gV : List V → List V → List V}
def tMethK0 (C : Addr) (m : Str) (sp : Sp) (gV : List V → List V → List V) (E : XK) (ta : TE) (tk : TA) : TE := fun σ H Q => ta σ H fun x H1 => ∃ a dx fs, x = .ref a ∧ H1 a = some (.ins C dx fs) ∧ fs.lookup m = none ∧ tk σ H1 fun zs H2 => sp (gV [.ref a] zs) H2 Q E
theorem pe_methK0 {pl : Sem Bool} (he : PE X o ta) (c : Cls X.K C) (hm : Meth X.K C m f) (F : FnOk X.prog X.w X.K X.mg X.base CX k f fd ps sp) (hr : Room k X.A) (hb : KBinds X.K fd ps ks g gV) (hx : Passes CX X E)
    (hkw : PK X kws tk) (hall : (backToKw pos (keywordEach kws X.env)).all (·.1.isSome) = true := by rfl) (hks : (backToKw pos (keywordEach kws X.env)).filterMap (·.1) = ks := by rfl)
    (hpl : ((backTo pos (starEach [] X.env)).any (·.1) || (backToKw pos (keywordEach kws X.env)).any (·.1.isNone)) = false := by rfl)
    (ht : eval (.Call (.Attribute o m apos) [] kws pos) X.env = (do
      let ov ← eval o X.env
      standAt apos.atName
      let (f, first) ← holding [ov] (getMethod ov m pl)
      callWith pos f first (backTo pos (starEach [] X.env)) (backToKw pos (keywordEach kws X.env))) := by rfl) :
    PE X (.Call (.Attribute o m apos) [] kws pos) (tMethK0 C m sp gV E ta tk) := by
  refine ⟨fun pins s σ H Q I h => ?_⟩
  refine PySem.W.methodCall_KW (pl := pl) (thn (he.run pins s σ H _ I h) fun u s1 ⟨x, H1, I1, rx, a, dx, fs, ex, ea, l, q⟩ => ?_) ht
  subst ex
  obtain rfl : u = Value.ref a := rx
  refine getmeth_ok I1 ea c hm l ?_
  refine PySem.W.callWith_KW0 (first := [.ref a]) (h₀ := X.base) I.ok.mod.kin hm.kp hall ?_ hpl
  refine thn (hkw.run pos pins s1 σ H1 _ I1 q) fun ws s2 ⟨zs, H2, I2, rz, q2⟩ => ⟨I2.kIn, ?_⟩
  rw [hks]
  exact run_fnk (us := [.ref a]) (vs := [.ref a]) F hr hb hx I2 (.cons rfl .nil) rz q2
/-- n values by their places, m by keywords, these turned about -/
def kwN {α : Type} (n m : Nat) (us ws : List α) : List α := if us.length = n ∧ ws.length = m then us ++ ws.reverse else []
theorem kwN_vals {n m : Nat} {vs zs : List V} {us ws : List Value} (a : Vals vs us) (b : Vals zs ws) : Vals (kwN n m vs zs) (kwN n m us ws) := by
  unfold kwN
  rw [a.length, b.length]
  split
  · exact a.append (vals_rev b)
  · exact .nil
theorem fun_kbindsN {K : Frag} {x qual : Str} {st : Stmt} {f : Addr} {fd : FuncData} {ps ks : List Str} (n : Nat) (F : Fun K x qual st f fd) (hn : ps ≠ [])
    (h : ∀ (kV doc pm : Value) (an : Option Addr) (cdv ct : Value) (us ws : List Value), us.length = n → ws.length = ks.length → bindArgs (PySem.W.fnOf x qual (defArgs st) (defBody st) (defScope st) .none kV doc pm an cdv ct) ⟨us, ks.zip ws⟩ = pure (ps.zip (us ++ ws.reverse))) :
    KBinds K fd ps ks (kwN n ks.length) (kwN n ks.length) := by
  obtain ⟨oc, od, kV, doc, pm, an, cdv, ct, osl, rfl, lk, hcd⟩ := F.ex
  refine ⟨fun s us ws _ hl => ?_, kwN_vals⟩
  unfold kwN at hl ⊢
  split at hl
  · rename_i c
    rw [if_pos c]
    exact .of_eq (h kV doc pm an cdv ct us ws c.1 c.2)
  · exact absurd (List.eq_nil_of_length_eq_zero hl.symm) hn
end
/-! ### a Gauge -/
structure Gg where
  lag : Int
  high : Int
  top : Int
  thin : Int
  thick : Int
def ggF (g : Gg) : List (Str × V) := putF "thick" (.int g.thick) (putF "thin" (.int g.thin) (putF "top" (.int g.top) (putF "high" (.int g.high) (putF "lag" (.int g.lag) []))))
theorem ggF_lag (g : Gg) : (ggF g).lookup ("lag" : Str) = some (.int g.lag) := by
  unfold ggF; repeat (rw [lookup_putF]; first | rw [if_pos rfl] | rw [if_neg (by decide +kernel)])
theorem ggF_high (g : Gg) : (ggF g).lookup ("high" : Str) = some (.int g.high) := by
  unfold ggF; repeat (rw [lookup_putF]; first | rw [if_pos rfl] | rw [if_neg (by decide +kernel)])
theorem ggF_top (g : Gg) : (ggF g).lookup ("top" : Str) = some (.int g.top) := by
  unfold ggF; repeat (rw [lookup_putF]; first | rw [if_pos rfl] | rw [if_neg (by decide +kernel)])
theorem ggF_thin (g : Gg) : (ggF g).lookup ("thin" : Str) = some (.int g.thin) := by
  unfold ggF; repeat (rw [lookup_putF]; first | rw [if_pos rfl] | rw [if_neg (by decide +kernel)])
theorem ggF_thick (g : Gg) : (ggF g).lookup ("thick" : Str) = some (.int g.thick) := by
  unfold ggF; repeat (rw [lookup_putF]; first | rw [if_pos rfl] | rw [if_neg (by decide +kernel)])
/-- a name that is no field -/
theorem ggF_no (g : Gg) {x : Str} (h1 : ¬ x = "lag") (h2 : ¬ x = "high") (h3 : ¬ x = "top") (h4 : ¬ x = "thin") (h5 : ¬ x = "thick") : (ggF g).lookup x = none := by
  unfold ggF
  rw [lookup_putF, if_neg h5, lookup_putF, if_neg h4, lookup_putF, if_neg h3, lookup_putF, if_neg h2, lookup_putF, if_neg h1]
  rfl
theorem ggF_stand (g : Gg) : (ggF g).lookup ("stand" : Str) = none := ggF_no g (by decide +kernel) (by decide +kernel) (by decide +kernel) (by decide +kernel) (by decide +kernel)
def GgAt (C : Addr) (H : Hp) (p : Addr) (g : Gg) : Prop := ∃ dx, H p = some (.ins C dx (ggF g))
theorem GgAt.same {C : Addr} {H H' : Hp} {p : Addr} {g : Gg} (h : GgAt C H p g) (s : Same H H') : GgAt C H' p g := by
  obtain ⟨dx, e⟩ := h; exact ⟨dx, s _ _ e⟩
theorem GgAt.keep {C T : Addr} {H H' : Hp} {p : Addr} {g : Gg} {xs : List V} (h : GgAt C H p g) (hT : H T = some (.lst xs)) (s : Keep T H H') : GgAt C H' p g := by
  obtain ⟨dx, e⟩ := h; exact ⟨dx, s _ _ (ne_of e hT (by intro z; cases z)) e⟩
theorem made_same {H H' : Hp} {x dx : Addr} {o1 o2 : HO} (hx : H x = none) (hdx : H dx = none) (k : ∀ y o, y ≠ x → (upd (upd H dx o1) x o2) y = some o → H' y = some o) : Same H H' := fun y o e =>
  k y o (ne_of_none e hx) (by rw [upd_ne (ne_of_none e hx), upd_ne (ne_of_none e hdx)]; exact e)
/-! ### readings -/
structure Rd where
  m : Int
  w : Bool
  n : Int
def kindS (w : Bool) : Str := if w then "water" else "ice"
theorem kindS_inj {w v : Bool} : kindS w = kindS v ↔ w = v := by
  have : ¬ (("water" : Str) = "ice") := by decide +kernel
  cases w <;> cases v <;> simp [kindS, this, Ne.symm this]
inductive Rds (H : Hp) : List V → List Rd → Prop
  | nil : Rds H [] []
  | cons {a : Addr} {r : Rd} {xs : List V} {rs : List Rd} : H a = some (.tup [.int r.m, .str (kindS r.w), .int r.n]) → Rds H xs rs → Rds H (.ref a :: xs) (r :: rs)
theorem Rds.len {H : Hp} {xs : List V} {rs : List Rd} (h : Rds H xs rs) : xs.length = rs.length := by
  induction h with
  | nil => rfl
  | cons _ _ ih => rw [List.length_cons, List.length_cons, ih]
theorem Rds.at {H : Hp} {xs : List V} {rs : List Rd} (h : Rds H xs rs) : ∀ {i : Nat} {y : V}, xs[i]? = some y → ∃ a r, y = .ref a ∧ rs[i]? = some r ∧ H a = some (.tup [.int r.m, .str (kindS r.w), .int r.n]) := by
  induction h with
  | nil => intro i y e; cases e
  | cons e _ ih =>
    intro i y z
    cases i with
    | zero => cases z; exact ⟨_, _, rfl, rfl, e⟩
    | succ i => exact ih z
theorem Rds.mono {H H' : Hp} {xs : List V} {rs : List Rd} (h : Rds H xs rs) (s : ∀ a ts, H a = some (.tup ts) → H' a = some (.tup ts)) : Rds H' xs rs := by
  induction h with
  | nil => exact .nil
  | cons e _ ih => exact .cons (s _ _ e) ih
theorem Rds.app {H : Hp} {xs ys : List V} {rs ss : List Rd} (h : Rds H xs rs) (h2 : Rds H ys ss) : Rds H (xs ++ ys) (rs ++ ss) := by
  induction h with
  | nil => exact h2
  | cons e _ ih => exact .cons e ih
def RdsAt (H : Hp) (p : Addr) (rs : List Rd) : Prop := ∃ xs, H p = some (.lst xs) ∧ Rds H xs rs
theorem RdsAt.same {H H' : Hp} {p : Addr} {rs : List Rd} (h : RdsAt H p rs) (s : Same H H') : RdsAt H' p rs := by
  obtain ⟨xs, e, r⟩ := h; exact ⟨xs, s _ _ e, r.mono fun a ts z => s _ _ z⟩
theorem RdsAt.keep {T : Addr} {H H' : Hp} {p : Addr} {rs : List Rd} {ys : List V} (h : RdsAt H p rs) (hT : H T = some (.lst ys)) (n : p ≠ T) (s : Keep T H H') : RdsAt H' p rs := by
  obtain ⟨xs, e, r⟩ := h; exact ⟨xs, s _ _ n e, r.mono fun a ts z => s _ _ (ne_of z hT (by intro z; cases z)) z⟩
/-- the last reading's place and number, so far -/
def nStep (w : Bool) (u : Int) (s : Int × Int) (r : Rd) : Int × Int := if r.w = w ∧ s.1 ≤ r.m ∧ r.m ≤ u then (r.m, r.n) else s
def nFold (w : Bool) (u : Int) (rs : List Rd) : Int × Int := rs.foldl (nStep w u) (0, 0)
def numAt (rs : List Rd) (w : Bool) (u : Int) : Int := (nFold w u rs).2
theorem nFold_succ {w : Bool} {u : Int} {rs : List Rd} {i : Nat} {r : Rd} (h : rs[i]? = some r) : nFold w u (rs.take (i + 1)) = nStep w u (nFold w u (rs.take i)) r := by
  unfold nFold
  rw [List.take_succ, h, List.foldl_append]
  rfl
def standS (g : Gg) (wa ic : Int) : Str := if wa ≥ g.top then "lost" else if ic ≥ g.thick then "shut" else if wa ≥ g.high ∨ ic ≥ g.thin then "slow" else "free"
def standG (g : Gg) (rs : List Rd) (m : Int) : Str := standS g (numAt rs true (m - g.lag)) (numAt rs false m)
structure GCl (K : PySem.W.Frag) (mg : Str → Option Value) (C : Addr) : Prop where
  cl : Cls K C
  nL : NoAttr K C "lag"
  nH : NoAttr K C "high"
  nT : NoAttr K C "top"
  nN : NoAttr K C "thin"
  nK : NoAttr K C "thick"
  gC : mg "Gauge" = some (.ref C)
/-- the module's words -/
structure TxtW (mg : Str → Option Value) : Prop where
  mWATER : ∃ t, mg "WATER" = some (.str "water" t)
  mICE : ∃ t, mg "ICE" = some (.str "ice" t)
  mLOST : ∃ t, mg "LOST" = some (.str "lost" t)
  mSHUT : ∃ t, mg "SHUT" = some (.str "shut" t)
  mSLOW : ∃ t, mg "SLOW" = some (.str "slow" t)
  mFREE : ∃ t, mg "FREE" = some (.str "free" t)
abbrev FunDf_Gauge___init__ (K : PySem.W.Frag) (f : Addr) (fd : FuncData) : Prop := FunD K "__init__" "Gauge.__init__" (defArgs sGInit) (defBody sGInit) (defScope sGInit) [.int 60, .int 200, .int 400, .int 5, .int 20] [] f fd
theorem gi_b5 {K : PySem.W.Frag} {f : Addr} {fd : FuncData} (F : FunDf_Gauge___init__ K f fd) : Binds K fd ["self", "lag", "high", "top", "thin", "thick"] [] := by
  obtain ⟨ds, r, b⟩ := FunD.binds1 (ps := ["self", "lag", "high", "top", "thin", "thick"]) F 6 5 (by intro z; cases z) rfl fun _ _ _ _ _ _ _ us its hu hi => match us, its, hu, hi with | [_, _, _, _, _, _], [_, _, _, _, _], _, _ => ⟨_, rfl, rfl⟩
  cases r
  exact b
theorem gi_b0 {K : PySem.W.Frag} {f : Addr} {fd : FuncData} (F : FunDf_Gauge___init__ K f fd) : ∃ ds, Vals [.int 60, .int 200, .int 400, .int 5, .int 20] ds ∧ Binds K fd ["self", "lag", "high", "top", "thin", "thick"] ds :=
  FunD.binds1 (ps := ["self", "lag", "high", "top", "thin", "thick"]) F 1 0 (by intro z; cases z) rfl fun _ _ _ _ _ _ _ us its hu hi => match us, its, hu, hi with | [_], [_, _, _, _, _], _, _ => ⟨_, rfl, rfl⟩
/-- all five by keywords, turned about -/
def kwB5 {α : Type} (us _its ws : List α) : List α := us ++ ws.reverse
theorem gi_kb {K : PySem.W.Frag} {f : Addr} {fd : FuncData} (F : FunDf_Gauge___init__ K f fd) : ∃ its : List Value, KBn K fd ["self", "lag", "high", "top", "thin", "thick"] 1 ["thick", "thin", "top", "high", "lag"] (fun us ws => kwB5 us its ws) (fun vs zs => kwB5 vs [.int 60, .int 200, .int 400, .int 5, .int 20] zs) :=
  FunD.kbindsD F 1 ["thick", "thin", "top", "high", "lag"] kwB5 (by intro z; cases z) (fun a _ c => a.append (vals_rev c)) fun _ _ _ _ _ _ _ us its ws hu hi hw => match us, its, ws, hu, hi, hw with | [_], [_, _, _, _, _], [_, _, _, _, _], _, _, _ => ⟨_, rfl, rfl⟩
def spGInit (C : Addr) : Sp := fun vs H Q _ => ∃ (p dx : Addr) (g : Gg), vs = [.ref p, .int g.lag, .int g.high, .int g.top, .int g.thin, .int g.thick] ∧ H p = some (.ins C dx []) ∧ ∀ H', GgAt C H' p g → (∀ x o, x ≠ p → H x = some o → H' x = some o) → Q .non H'
def spNum : Sp := fun vs H Q _ => ∃ (p : Addr) (rs : List Rd) (w : Bool) (u : Int), vs = [.ref p, .str (kindS w), .int u] ∧ RdsAt H p rs ∧ Q (.int (numAt rs w u)) H
def spStand (C : Addr) : Sp := fun vs H Q _ => ∃ (p q : Addr) (g : Gg) (rs : List Rd) (m : Int), vs = [.ref p, .ref q, .int m] ∧ GgAt C H p g ∧ RdsAt H q rs ∧ Q (.str (standG g rs m)) H
section
variable {P : Program} {w : World} {K : PySem.W.Frag} {mg : Str → Option Value} {base : Heap} {C : Addr}
theorem ok_ginit {f : Addr} {fd : FuncData} {k : Nat} (F : FunDf_Gauge___init__ K f fd) (T : GCl K mg C) : FnOk P w K mg base CX0 (k + 1) f fd ["self", "lag", "high", "top", "thin", "thick"] (spGInit C) := by
  refine F.ok scGInit (fun vs H Q E h => ?_) (fun cdv A outer s H vs Q E hr h => ?_)
  · obtain ⟨p, dx, g, rfl, _⟩ := h
    rfl
  · obtain ⟨p, dx, g, rfl, hp, q⟩ := h
    refine ⟨_,
      (pss_cons (ps_fld (pv 0) (pv 1) rfl)
      (pss_cons (ps_fld (pv 0) (pv 2) rfl)
      (pss_cons (ps_fld (pv 0) (pv 3) rfl)
      (pss_cons (ps_fld (pv 0) (pv 4) rfl)
      (pss_one (ps_fld (pv 0) (pv 5) rfl))))))
      , ?_⟩
    refine ⟨_, rfl, _, rfl, p, C, dx, _, rfl, hp, T.cl, T.nL, (by show 0 < 1000; decide), ?_⟩
    refine ⟨_, rfl, _, rfl, p, C, dx, _, rfl, upd_same, T.cl, T.nH, (by show 1 < 1000; decide), ?_⟩
    refine ⟨_, rfl, _, rfl, p, C, dx, _, rfl, upd_same, T.cl, T.nT, (by show 2 < 1000; decide), ?_⟩
    refine ⟨_, rfl, _, rfl, p, C, dx, _, rfl, upd_same, T.cl, T.nN, (by show 3 < 1000; decide), ?_⟩
    refine ⟨_, rfl, _, rfl, p, C, dx, _, rfl, upd_same, T.cl, T.nK, (by show 4 < 1000; decide), ?_⟩
    exact q _ ⟨dx, upd_same⟩ fun x o n e => by rw [upd_ne n, upd_ne n, upd_ne n, upd_ne n, upd_ne n]; exact e
theorem ok_num {f : Addr} {fd : FuncData} {k : Nat} (F : Fun K "_number_at" "_number_at" sNumAt f fd) : FnOk P w K mg base CX0 (k + 1) f fd ["readings", "kind", "until"] spNum := by
  refine F.ok scNumAt (fun vs H Q E h => ?_) (fun cdv A outer s H vs Q E hr h => ?_)
  · obtain ⟨p, rs, w, u, rfl, _⟩ := h
    rfl
  · obtain ⟨p, rs, w, u, rfl, ⟨xs, hp, hrs⟩, q⟩ := h
    refine ⟨_,
      (pss_cons (ps_set (i := 3) scNumAt.nd rfl (.inl rfl) pe_int)
      (pss_cons (ps_set (i := 4) scNumAt.nd rfl (.inl rfl) pe_int)
      (pss_cons (ps_for PassesOwn.never rfl (pi_list (pv 0)) (pg_tup rfl (pgs_cons (pg_name (i := 5) scNumAt.nd rfl (.inl rfl)) (pgs_cons (pg_name (i := 6) scNumAt.nd rfl (.inl rfl)) (pgs_cons (pg_name (i := 7) scNumAt.nd rfl (.inl rfl)) pgs_nil))))
      (pss_one (ps_if (PW.pt (pw_and (pt_cmpR op_eq (pv 6) (pv 1) (nomark _)) (pw_and1 (pt_chain op_le op_le (pv 3) (pv 5) (pv 2)))))
      (pss_cons (ps_set (i := 3) scNumAt.nd rfl (.inl rfl) (pv 5))
      (pss_one (ps_set (i := 4) scNumAt.nd rfl (.inl rfl) (pv 7))))
      pss_nil)))
      (pss_one (ps_ret (pv 4))))))
      , ?_⟩
    refine ⟨_, rfl, p, rfl, ⟨_, SqL.of hp⟩, for_list (K := K) (a := p) (xs := xs) (fun j σ H' => ∃ v5 v6 v7, σ = [some (.ref p), some (.str (kindS w)), some (.int u), some (.int (nFold w u (rs.take j)).1), some (.int (nFold w u (rs.take j)).2), v5, v6, v7] ∧ H' = H)
      ⟨_, _, _, rfl, rfl⟩ (fun j σ H' _ ⟨_, _, _, _, z⟩ => z ▸ SqL.of hp) ?_ ?_⟩
    · rintro j y σ H' hj ⟨v5, v6, v7, rfl, rfl⟩
      obtain ⟨a, r, rfl, hr2, ha⟩ := hrs.at hj
      have es := nFold_succ (w := w) (u := u) hr2
      refine ⟨a, _, rfl, SqT.of ha, rfl, _, _, rfl, _, _, rfl, _, _, rfl, rfl, ?_⟩
      refine ⟨_, rfl, _, rfl, rfl, _, rfl, ite2 (fun c1 => ?_) (fun c1 => iteF ?_)⟩
      · have e1 : r.w = w := kindS_inj.mp (V.str.inj (of_decide_eq_true c1))
        refine ⟨_, rfl, _, rfl, _, _, rfl, rfl, _, rfl, ite2 (fun c2 => ?_) (fun c2 => ?_)⟩
        · refine ⟨_, rfl, _, _, rfl, rfl, _, rfl, ite2 (fun c3 => ?_) (fun c3 => ?_)⟩
          · have e2 : nStep w u (nFold w u (rs.take j)) r = (r.m, r.n) := if_pos ⟨e1, of_decide_eq_true c2, of_decide_eq_true c3⟩
            rw [es, e2]
            exact ⟨_, rfl, _, rfl, _, _, _, rfl, rfl⟩
          · have e2 : nStep w u (nFold w u (rs.take j)) r = nFold w u (rs.take j) := if_neg fun z => c3 (decide_eq_true z.2.2)
            rw [es, e2]
            exact ⟨_, _, _, rfl, rfl⟩
        · have e2 : nStep w u (nFold w u (rs.take j)) r = nFold w u (rs.take j) := if_neg fun z => c2 (decide_eq_true z.2.1)
          rw [es, e2]
          exact ⟨_, rfl, iteF ⟨_, _, _, rfl, rfl⟩⟩
      · have e2 : nStep w u (nFold w u (rs.take j)) r = nFold w u (rs.take j) := if_neg fun z => c1 (decide_eq_true (congrArg V.str (kindS_inj.mpr z.1)))
        rw [es, e2]
        exact ⟨_, _, _, rfl, rfl⟩
    · rintro σ H' ⟨v5, v6, v7, rfl, rfl⟩
      rw [hrs.len, List.take_length] at *
      exact ⟨_, rfl, q⟩
theorem ok_stand {f fN : Addr} {fd fdN : FuncData} {k : Nat} (F : Fun K "stand" "Gauge.stand" sGStand f fd) (T : GCl K mg C) (TW : TxtW mg) (F_number_at : Fun K "_number_at" "_number_at" sNumAt fN fdN) (g_number_at : mg "_number_at" = some (.ref fN)) (b_number_at : Binds K fdN ["readings", "kind", "until"] []) :
    FnOk P w K mg base CX0 (k + 2) f fd ["self", "readings", "minute"] (spStand C) := by
  have G_number_at : FnOk P w K mg base CX0 (k + 1) fN fdN ["readings", "kind", "until"] spNum := ok_num F_number_at
  refine F.ok scGStand (fun vs H Q E h => ?_) (fun cdv A outer s H vs Q E hr h => ?_)
  · obtain ⟨p, r, g, rs, m, rfl, _⟩ := h
    rfl
  · obtain ⟨p, r, g, rs, m, rfl, hp, hrs, q⟩ := h
    have hr_number_at := hr
    obtain ⟨tw, mWATER⟩ := TW.mWATER
    obtain ⟨ti, mICE⟩ := TW.mICE
    obtain ⟨tl, mLOST⟩ := TW.mLOST
    obtain ⟨ts, mSHUT⟩ := TW.mSHUT
    obtain ⟨to, mSLOW⟩ := TW.mSLOW
    obtain ⟨tf, mFREE⟩ := TW.mFREE
    refine ⟨_,
      (pss_cons (ps_set (i := 3) scGStand.nd rfl (.inl rfl) (pe_call G_number_at hr_number_at (by rfl) g_number_at F_number_at.kp b_number_at .nil pass0 (pa_cons (pv 1) (pa_cons (pe_glob (v := .str "water") (by rfl) mWATER ⟨_, rfl⟩) (pa_cons (pe_op op_sub (pv 2) (pe_fld (pv 0) rfl)) pa_nil)))))
      (pss_cons (ps_set (i := 4) scGStand.nd rfl (.inl rfl) (pe_call G_number_at hr_number_at (by rfl) g_number_at F_number_at.kp b_number_at .nil pass0 (pa_cons (pv 1) (pa_cons (pe_glob (v := .str "ice") (by rfl) mICE ⟨_, rfl⟩) (pa_cons (pv 2) pa_nil)))))
      (pss_cons (ps_if (pt_cmpR op_ge (pv 3) (pe_fld (pv 0) rfl) (nomark _))
      (pss_one (ps_ret (pe_glob (v := .str "lost") (by rfl) mLOST ⟨_, rfl⟩)))
      pss_nil)
      (pss_cons (ps_if (pt_cmpR op_ge (pv 4) (pe_fld (pv 0) rfl) (nomark _))
      (pss_one (ps_ret (pe_glob (v := .str "shut") (by rfl) mSHUT ⟨_, rfl⟩)))
      pss_nil)
      (pss_cons (ps_if (PW.pt (pw_or (pt_cmpR op_ge (pv 3) (pe_fld (pv 0) rfl) (nomark _)) (pw_or1 (pt_cmpR op_ge (pv 4) (pe_fld (pv 0) rfl) (nomark _)))))
      (pss_one (ps_ret (pe_glob (v := .str "slow") (by rfl) mSLOW ⟨_, rfl⟩)))
      pss_nil)
      (pss_one (ps_ret (pe_glob (v := .str "free") (by rfl) mFREE ⟨_, rfl⟩))))))))
      , ?_⟩
    obtain ⟨dx, ep⟩ := id hp
    refine ⟨_, rfl, _, rfl, _, rfl, p, C, dx, _, _, rfl, ep, T.cl, T.nL, ggF_lag g, _, _, rfl, rfl, r, rs, true, _, rfl, hrs, ?_⟩
    refine ⟨_, rfl, _, rfl, r, rs, false, _, rfl, hrs, ?_⟩
    refine ⟨_, rfl, _, rfl, p, C, dx, _, _, rfl, ep, T.cl, T.nT, ggF_top g, _, _, rfl, rfl, _, rfl, ite2 (fun c1 => ?_) (fun c1 => ?_)⟩
    · have e : standG g rs m = "lost" := if_pos (of_decide_eq_true c1)
      rw [e] at q
      exact q
    refine ⟨_, rfl, _, rfl, p, C, dx, _, _, rfl, ep, T.cl, T.nK, ggF_thick g, _, _, rfl, rfl, _, rfl, ite2 (fun c2 => ?_) (fun c2 => ?_)⟩
    · have e : standG g rs m = "shut" := (if_neg fun z => c1 (decide_eq_true z)).trans (if_pos (of_decide_eq_true c2))
      rw [e] at q
      exact q
    have e0 : standG g rs m = (if numAt rs true (m - g.lag) ≥ g.high ∨ numAt rs false m ≥ g.thin then ("slow" : Str) else ("free" : Str)) := (if_neg fun z => c1 (decide_eq_true z)).trans (if_neg fun z => c2 (decide_eq_true z))
    rw [e0] at q
    refine ⟨_, rfl, _, rfl, p, C, dx, _, _, rfl, ep, T.cl, T.nH, ggF_high g, _, _, rfl, rfl, _, rfl, ite2 (fun c3 => iteT ?_) (fun c3 => ?_)⟩
    · rw [if_pos (Or.inl (of_decide_eq_true c3))] at q
      exact q
    refine ⟨_, rfl, _, rfl, p, C, dx, _, _, rfl, ep, T.cl, T.nN, ggF_thin g, _, _, rfl, rfl, _, rfl, ite2 (fun c4 => ?_) (fun c4 => ?_)⟩
    · rw [if_pos (Or.inr (of_decide_eq_true c4))] at q
      exact q
    · rw [if_neg (fun z => z.elim (fun z => c3 (decide_eq_true z)) (fun z => c4 (decide_eq_true z)))] at q
      exact q
end
abbrev sReadings : Stmt := topS 22
abbrev NReadings : List Str := ["_law_feed_here", "_law_many", "_law_base", "_law_found", "_law_k", "_law_moment", "_law_number"]
theorem scReadings : FnScope NReadings ["_law_feed_here", "_law_many"] (defScope sReadings) := ⟨rfl, rfl, rfl, by decide +kernel, rfl, by decide +kernel, by decide +kernel⟩
abbrev sBounds : Stmt := topS 23
abbrev NBounds : List Str := ["_law_feed_here", "_law_lag_drawn", "_law_waters", "_law_ices", "_law_k"]
theorem scBounds : FnScope NBounds ["_law_feed_here"] (defScope sBounds) := ⟨rfl, rfl, rfl, by decide +kernel, rfl, by decide +kernel, by decide +kernel⟩
/-! ### data of readings -/
def rdD (r : Rd) : PyData := .tuple [.int r.m, .str (kindS r.w), .int r.n]
theorem kind_ok (w : Bool) : PyData.strOk (kindS w) = true := by cases w <;> decide +kernel
theorem rds_lay : ∀ rs : List Rd, PyData.canLayAll0 (rs.map rdD) = true
  | [] => rfl
  | r :: t => by simp [PyData.canLayAll0, PyData.canLay0, rdD, kind_ok, rds_lay t]
theorem rds_depth : ∀ rs : List Rd, PyData.depthAll (rs.map rdD) ≤ 1
  | [] => by simp [PyData.depthAll]
  | r :: t => by
    have := rds_depth t
    simp only [List.map_cons, PyData.depthAll, rdD, PyData.depth]
    omega
theorem rds_shaped (rs : List Rd) : SeqAt.shaped (.list (rs.map rdD)) = true := by
  have h1 := rds_depth rs
  have h2 : PyData.depth (.list (rs.map rdD)) ≤ 64 := by simp only [PyData.depth]; omega
  show (PyData.canLay0 (.list (rs.map rdD)) && decide (PyData.depth (.list (rs.map rdD)) ≤ 64)) = true
  rw [decide_eq_true h2, Bool.and_true]
  show PyData.canLayAll0 _ = true
  exact rds_lay rs
theorem rds_dp {K : PySem.W.Frag} {H : Hp} {xs : List V} {rs : List Rd} (h : Rds H xs rs) : DpAll K H xs (rs.map rdD) := by
  induction h with
  | nil => exact .nil
  | cons e _ ih => exact .cons (.tup (SqT.of e) (.cons (.int _) (.cons (.str _) (.cons (.int _) .nil)))) ih
theorem rds_refl (rs : List Rd) : PyData.eqv (.list (rs.map rdD)) (.list (rs.map rdD)) = true := SeqAt.eqv_refl _ (SeqAt.canLay_of_shaped (rds_shaped rs))
theorem pickI {xs : List Int} {lo hi : Int} (h : ∀ z ∈ xs, lo ≤ z ∧ z ≤ hi) {j : Nat} {x : V} (e : (xs.map V.int)[j]? = some x) : ∃ z : Int, x = .int z ∧ lo ≤ z ∧ z ≤ hi := by
  rw [List.getElem?_map] at e
  cases e2 : xs[j]? with
  | none => rw [e2] at e; cases e
  | some z => rw [e2] at e; cases e; exact ⟨z, rfl, h z (List.mem_of_getElem? e2)⟩
def spReadings : Sp := fun vs H Q _ => ∃ (T c : Addr) (many : Int) (n : Nat), vs = [.ref T, .int many] ∧ 0 < many ∧ many ≤ 1000 ∧ n < 500000 ∧ Tape H T c n ∧
  ∀ (p : Addr) (rs : List Rd) H', RdsAt H' p rs → rs.length ≤ 1000 → (∀ r ∈ rs, 0 ≤ r.m) → p ≠ T → H p = none → Tape H' T c (n + 20000) → Keep T H H' → Q (.ref p) H'
structure TxtR (mg : Str → Option Value) : Prop where
  mlen : mg "len" = none
  mrange : mg "range" = none
  msorted : mg "sorted" = none
def spBounds : Sp := fun vs H Q _ => ∃ (T c : Addr) (n : Nat), vs = [.ref T] ∧ n < 500000 ∧ Tape H T c n ∧
  ∀ (p : Addr) (g : Gg) H', H' p = some (.lst [.int g.lag, .int g.high, .int g.top, .int g.thin, .int g.thick]) → 0 ≤ g.lag → 1 ≤ g.high → 1 ≤ g.top → 1 ≤ g.thin → 1 ≤ g.thick → p ≠ T → Tape H' T c (n + 30) → Keep T H H' → Q (.ref p) H'
section
variable {P : Program} {w : World} {K : PySem.W.Frag} {mg : Str → Option Value} {base : Heap} {C : Addr}
theorem ok_readings {f fD fO : Addr} {fd fdD fdO : FuncData} {k : Nat} (F : Fun K "_law_readings" "_law_readings" sReadings f fd) (T0 : Txt0 mg) (T : TxtR mg)
    (F_law_draw : Fun K "_law_draw" "_law_draw" sDraw fD fdD) (g_law_draw : mg "_law_draw" = some (.ref fD)) (b_law_draw : Binds K fdD ["_law_feed_here", "_law_many"] [])
    (F_law_of : Fun K "_law_of" "_law_of" sOf fO fdO) (g_law_of : mg "_law_of" = some (.ref fO)) (b_law_of : Binds K fdO ["_law_feed_here", "_law_some"] []) :
    FnOk P w K mg base CX0 (k + 3) f fd ["_law_feed_here", "_law_many"] spReadings := by
  have G_law_draw : FnOk P w K mg base CX0 (k + 2) fD fdD ["_law_feed_here", "_law_many"] spDraw := ok_draw F_law_draw T0
  have G_law_of : FnOk P w K mg base CX0 (k + 2) fO fdO ["_law_feed_here", "_law_some"] spPick := ok_of F_law_of T0 F_law_draw g_law_draw b_law_draw
  refine F.ok scReadings (fun vs H Q E h => ?_) (fun cdv A outer s H vs Q E hr h => ?_)
  · obtain ⟨a, c, m, n, rfl, _⟩ := h
    rfl
  · obtain ⟨a, c, many, n, rfl, hm0, hm1, hn, hT, q⟩ := h
    have hr_law_draw := hr
    have hr_law_of := hr
    refine ⟨_,
      (pss_cut (ps_par (i := 2) (j := 3) rfl scReadings.nd rfl rfl (by decide) rfl rfl (pa_cons (pe_call G_law_of hr_law_of (by rfl) g_law_of F_law_of.kp b_law_of .nil pass0 (pa_cons (pv 0) (pa_cons (pe_lst (pa_cons pe_int (pa_cons (pe_call G_law_draw hr_law_draw (by rfl) g_law_draw F_law_draw.kp b_law_draw .nil pass0 (pa_cons (pv 0) (pa_cons pe_int pa_nil))) (pa_cons (pe_call G_law_draw hr_law_draw (by rfl) g_law_draw F_law_draw.kp b_law_draw .nil pass0 (pa_cons (pv 0) (pa_cons (pe_op op_pow pe_int pe_int) pa_nil))) pa_nil)))) pa_nil))) (pa_cons (pe_lst pa_nil) pa_nil)) (by rfl))
      (pss_cons (ps_for PassesOwn.never rfl (pi_range1 (by rfl) T.mrange (pa_cons (pe_call G_law_draw hr_law_draw (by rfl) g_law_draw F_law_draw.kp b_law_draw .nil pass0 (pa_cons (pv 0) (pa_cons (pv 1) pa_nil))) pa_nil)) (pg_name (i := 4) scReadings.nd rfl (.inl rfl))
      (pss_cons (ps_set (i := 5) scReadings.nd rfl (.inl rfl) (pe_op op_add (pv 2) (pe_call G_law_of hr_law_of (by rfl) g_law_of F_law_of.kp b_law_of .nil pass0 (pa_cons (pv 0) (pa_cons (pe_lst (pa_cons pe_int (pa_cons (pe_call G_law_draw hr_law_draw (by rfl) g_law_draw F_law_draw.kp b_law_draw .nil pass0 (pa_cons (pv 0) (pa_cons pe_int pa_nil))) (pa_cons (pe_call G_law_draw hr_law_draw (by rfl) g_law_draw F_law_draw.kp b_law_draw .nil pass0 (pa_cons (pv 0) (pa_cons pe_int pa_nil))) (pa_cons (pe_call G_law_draw hr_law_draw (by rfl) g_law_draw F_law_draw.kp b_law_draw .nil pass0 (pa_cons (pv 0) (pa_cons pe_int pa_nil))) pa_nil))))) pa_nil)))))
      (pss_cut (ps_if (PW.pt (pw_and (pt_cmpR (op_neD hr.units) (pv 3) (pe_lst pa_nil) (nomark _)) (pw_and1 (pt_cmpR op_eq (pe_call G_law_draw hr_law_draw (by rfl) g_law_draw F_law_draw.kp b_law_draw .nil pass0 (pa_cons (pv 0) (pa_cons pe_int pa_nil))) pe_int (nomark _)))))
      (pss_one (ps_set (i := 5) scReadings.nd rfl (.inl rfl) (pe_ix ix_tup (pe_call G_law_of hr_law_of (by rfl) g_law_of F_law_of.kp b_law_of .nil pass0 (pa_cons (pv 0) (pa_cons (pv 3) pa_nil))) pe_int (fun _ _ => rfl))))
      pss_nil)
      (pss_cons (ps_set (i := 6) scReadings.nd rfl (.inl rfl) (pe_call G_law_of hr_law_of (by rfl) g_law_of F_law_of.kp b_law_of .nil pass0 (pa_cons (pv 0) (pa_cons (pe_lst (pa_cons pe_int (pa_cons pe_int (pa_cons (pe_call G_law_draw hr_law_draw (by rfl) g_law_draw F_law_draw.kp b_law_draw .nil pass0 (pa_cons (pv 0) (pa_cons pe_int pa_nil))) (pa_cons (pe_call G_law_draw hr_law_draw (by rfl) g_law_draw F_law_draw.kp b_law_draw .nil pass0 (pa_cons (pv 0) (pa_cons pe_int pa_nil))) (pa_cons (pe_call G_law_draw hr_law_draw (by rfl) g_law_draw F_law_draw.kp b_law_draw .nil pass0 (pa_cons (pv 0) (pa_cons pe_int pa_nil))) pa_nil)))))) pa_nil))))
      (pss_one (ps_expr (pe_bm PySem.F.plainAttrs_list PySem.F.slot_list_append PySem.F.type_list_append mt_append (pv 3) (pa_cons (pe_tup (pa_cons (pv 5) (pa_cons (pe_ix ix_list (pe_lst (pa_cons pe_str (pa_cons pe_str pa_nil))) (pe_call G_law_draw hr_law_draw (by rfl) g_law_draw F_law_draw.kp b_law_draw .nil pass0 (pa_cons (pv 0) (pa_cons pe_int pa_nil))) (fun _ _ => rfl)) (pa_cons (pv 6) pa_nil)))) pa_nil))))))))
      (pss_one (ps_ret (pv 3)))))
      , ?_⟩
    -- base, found
    refine ⟨fun σ H1 => ∃ (b : Int) (fp : Addr), 0 ≤ b ∧ σ = [some (.ref a), some (.int many), some (.int b), some (.ref fp), none, none, none] ∧ H1 fp = some (.lst []) ∧ H fp = none ∧ fp ≠ a ∧ fp ≠ c ∧ Tape H1 a c (n + 3) ∧ Keep a H H1, ?_, ?_⟩
    · refine ⟨_, rfl, _, rfl, a, c, 3000, n, rfl, by omega, by omega, by omega, hT, fun d1 H1 d10 d11 T1 k1 => ?_⟩
      refine ⟨_, rfl, _, _, rfl, rfl, ⟨by decide, by decide, by decide⟩, a, c, 1000000, n + 1, rfl, by omega, by omega, by omega, T1, fun d2 H2 d20 d21 T2 k2 => ⟨by show 3 ≤ sizeLine; decide, fun l hl => ?_⟩⟩
      refine ⟨a, c, l, _, n + 2, rfl, upd_same, T2.ne hl, by show 0 < 3; decide, by show 3 < 1000000; decide, by omega, T2.new hl, fun j x H3 hx T3 k3 => ?_⟩
      obtain ⟨z, rfl, hz0, hz1⟩ := pickI (xs := [0, d1, d2]) (lo := 0) (hi := 1000000) (by simp; omega) hx
      refine ⟨Nat.zero_le _, fun fp hfp => ?_⟩
      have kk : Keep a H H3 := ((k1.trans k2).new hl).trans k3
      have hfp0 : H fp = none := by
        cases e : H fp with
        | none => rfl
        | some o => have := kk fp o (T3.ne hfp) e; rw [hfp] at this; cases this
      exact ⟨_, _, rfl, z, fp, hz0, rfl, upd_same, hfp0, T3.ne hfp, T3.nec hfp, T3.new hfp, kk.new hfp⟩
    rintro σ H1 ⟨b, fp, hb0, rfl, e1, hfp, nfa, nfc, T1, k1⟩
    refine ⟨_, rfl, _, rfl, a, c, many, n + 3, rfl, hm0, by omega, by omega, T1, fun dm H2 dm0 dm1 T2 k2 => ⟨_, rfl, by omega, by omega, ?_⟩⟩
    refine for_range (lo := 0) (n := dm.toNat) (fun i σ H' => ∃ (v4 v5 v6 : Option V) (xs : List V) (rs : List Rd), σ = [some (.ref a), some (.int many), some (.int b), some (.ref fp), v4, v5, v6] ∧ H' fp = some (.lst xs) ∧ Rds H' xs rs ∧ rs.length = i ∧ (∀ r ∈ rs, 0 ≤ r.m) ∧ Tape H' a c (n + 4 + 15 * i) ∧ Keep a H H')
      ⟨_, _, _, [], [], rfl, k2 _ _ nfa e1, .nil, rfl, fun r hr => (by cases hr), T2, k1.trans k2⟩ ?_ ?_
    · rintro i σ H3 hi ⟨v4, v5, v6, xs, rs, rfl, e3, hrs, hlen, hall, T3, k3⟩
      have hi2 : i < 1000 := by omega
      -- moment
      refine ⟨_, rfl, _, rfl, _, rfl, a, c, 12, n + 4 + 15 * i, rfl, by omega, by omega, by omega, T3, fun d1 H4 d10 d11 T4 k4 => ?_⟩
      refine ⟨_, rfl, a, c, 400, _, rfl, by omega, by omega, by omega, T4, fun d2 H5 d20 d21 T5 k5 => ?_⟩
      refine ⟨_, rfl, a, c, 3000, _, rfl, by omega, by omega, by omega, T5, fun d3 H6 d30 d31 T6 k6 => ⟨by show 4 ≤ sizeLine; decide, fun l hl => ?_⟩⟩
      refine ⟨a, c, l, _, _, rfl, upd_same, T6.ne hl, by show 0 < 4; decide, by show 4 < 1000000; decide, by omega, T6.new hl, fun j x H7 hx T7 k7 => ?_⟩
      obtain ⟨z, rfl, hz0, hz1⟩ := pickI (xs := [0, d1, d2, d3]) (lo := 0) (hi := 3000) (by simp; omega) hx
      refine ⟨_, _, rfl, rfl, ?_⟩
      have kk : Keep a H3 H7 := (((k4.trans k5).trans k6).new hl).trans k7
      have e7 := kk _ _ nfa e3
      obtain ⟨_, _, _, hTa, _⟩ := T3.ex
      have r7 : Rds H7 xs rs := hrs.mono fun x ts z => kk _ _ (ne_of z hTa (by intro z; cases z)) z
      -- if
      refine ⟨fun σ H8 => ∃ (mo : Int), 0 ≤ mo ∧ σ = [some (.ref a), some (.int many), some (.int b), some (.ref fp), some (.int (0 + (i : Int))), some (.int mo), v6] ∧ Tape H8 a c (n + 4 + 15 * i + 6) ∧ Keep a H3 H8, ?_, ?_⟩
      · refine ⟨_, rfl, Nat.zero_le _, fun l8 hl8 => ?_⟩
        have u7 := upd_at (o := .lst []) hl8 e7
        have ru : Rds (upd H7 l8 (.lst [])) xs rs := r7.mono fun x ts z => upd_at hl8 z
        have ku : Keep a H3 (upd H7 l8 (.lst [])) := kk.new hl8
        have Tu := T7.new (o := .lst []) hl8
        refine ⟨.list (rs.map rdD), .list [], .lst (SqL.of u7) (rds_dp ru), .lst (SqL.of upd_same) .nil, rds_shaped rs, rds_shaped [], _, rfl, ?_⟩
        cases hrs' : rs with
        | nil => exact iteF (iteF ⟨b + z, by omega, rfl, Tu.mono (by omega), ku⟩)
        | cons r0 rt =>
          refine iteT ⟨_, rfl, a, c, 4, _, rfl, by omega, by omega, by omega, Tu, fun d4 H9 d40 d41 T9 k9 => ⟨rfl, _, rfl, ite2 (fun _ => ?_) (fun _ => ⟨b + z, by omega, rfl, T9.mono (by omega), ku.trans k9⟩)⟩⟩
          have e9 := k9 _ _ nfa u7
          have hxl : xs.length = rs.length := hrs.len
          refine ⟨_, rfl, _, rfl, a, c, fp, xs, _, rfl, e9, nfa, by rw [hxl, hrs']; exact Nat.succ_pos _, by omega, by omega, T9, fun j x H10 hx T10 k10 => ?_⟩
          have k39 : Keep a H3 H10 := (ku.trans k9).trans k10
          have r10 : Rds H10 xs rs := hrs.mono fun x ts z => k39 _ _ (ne_of z hTa (by intro z; cases z)) z
          obtain ⟨ad, r, rfl, hrj, had⟩ := r10.at hx
          exact ⟨ad, _, 0, _, rfl, rfl, SqT.of had, atI_nat (j := 0) rfl, r.m, hall r (List.mem_of_getElem? hrj), rfl, T10.mono (by omega), k39⟩
      rintro σ H8 ⟨mo, hmo, rfl, T8, k8⟩
      -- number
      refine ⟨_, rfl, _, rfl, a, c, 30, _, rfl, by omega, by omega, by omega, T8, fun f1 H9 f10 f11 T9 k9 => ?_⟩
      refine ⟨_, rfl, a, c, 600, _, rfl, by omega, by omega, by omega, T9, fun f2 H10 f20 f21 T10 k10 => ?_⟩
      refine ⟨_, rfl, a, c, 4096, _, rfl, by omega, by omega, by omega, T10, fun f3 H11 f30 f31 T11 k11 => ⟨by show 5 ≤ sizeLine; decide, fun l2 hl2 => ?_⟩⟩
      refine ⟨a, c, l2, _, _, rfl, upd_same, T11.ne hl2, by show 0 < 5; decide, by show 5 < 1000000; decide, by omega, T11.new hl2, fun j2 x2 H12 hx2 T12 k12 => ?_⟩
      obtain ⟨nu, rfl, hnu0, hnu1⟩ := pickI (xs := [0, 4095, f1, f2, f3]) (lo := 0) (hi := 5000) (by simp; omega) hx2
      have kk2 : Keep a H3 H12 := k8.trans ((((k9.trans k10).trans k11).new hl2).trans k12)
      have e12 := kk2 _ _ nfa e3
      -- append
      refine ⟨_, rfl, .inl ⟨rfl, _, SqL.of e12⟩, _, rfl, by show 2 ≤ sizeLine; decide, fun l3 hl3 => ⟨_, rfl, a, c, 2, _, rfl, by omega, by omega, by omega, T12.new hl3, fun dk H13 dk0 dk1 T13 k13 => ?_⟩⟩
      have hd : ∃ (j : Nat) (wq : Bool), dk = (j : Int) ∧ ([.str "water", .str "ice"] : List V)[j]? = some (.str (kindS wq)) := by
        have : dk = 0 ∨ dk = 1 := by omega
        rcases this with rfl | rfl
        · exact ⟨0, true, rfl, rfl⟩
        · exact ⟨1, false, rfl, rfl⟩
      obtain ⟨j3, wq, rfl, hw⟩ := hd
      have l13 := k13 _ _ (T12.ne hl3) (upd_same (H := H12) (a := l3) (o := .lst [.str "water", .str "ice"]))
      refine ⟨l3, _, (j3 : Int), _, rfl, rfl, SqL.of l13, atI_nat hw, _, rfl, by show 3 ≤ sizeLine; decide, fun t ht => ?_⟩
      have k3t : Keep a H3 (upd H13 t (.tup [.int mo, .str (kindS wq), .int nu])) := ((kk2.new hl3).trans k13).new ht
      have et := k3t _ _ nfa e3
      have hxl : xs.length = i := by rw [hrs.len, hlen]
      refine ⟨fp, _, _, rfl, rfl, et, Nat.lt_of_lt_of_le (show xs.length < 1001 by omega) (Nat.le_trans (show 1001 ≤ 100000 by decide) (by decide)), ?_⟩
      have rt : Rds (upd H13 t (.tup [.int mo, .str (kindS wq), .int nu])) xs rs := hrs.mono fun x ts z => k3t _ _ (ne_of z hTa (by intro z; cases z)) z
      have ntf : t ≠ fp := (ne_of_none (((kk2.new hl3).trans k13) _ _ nfa e3) ht).symm
      refine ⟨_, _, _, xs ++ [.ref t], rs ++ [⟨mo, wq, nu⟩], rfl, upd_same, ?_, by rw [List.length_append, hlen]; rfl, ?_, ?_, ?_⟩
      · refine (rt.mono fun x ts z => ?_).app (.cons (r := ⟨mo, wq, nu⟩) (by rw [upd_ne ntf]; exact upd_same) .nil)
        rw [upd_ne (ne_of z et (by intro z; cases z))]; exact z
      · intro r hr
        rcases List.mem_append.mp hr with hr | hr
        · exact hall r hr
        · rw [List.mem_singleton.mp hr]; exact hmo
      · exact ((T13.new ht).upd nfa nfc).mono (by omega)
      · exact fun x o nx e => by rw [upd_ne (ne_of_none e hfp)]; exact k3t x o nx (k3 x o nx e)
    · rintro σ H3 ⟨v4, v5, v6, xs, rs, rfl, e3, hrs, hlen, hall, T3, k3⟩
      exact ⟨_, rfl, q fp rs H3 ⟨xs, e3, hrs⟩ (by omega) hall nfa hfp (T3.mono (by omega)) k3⟩
theorem ok_bounds {f fD fO : Addr} {fd fdD fdO : FuncData} {k : Nat} (F : Fun K "_law_bounds" "_law_bounds" sBounds f fd) (T0 : Txt0 mg) (T : TxtR mg)
    (F_law_draw : Fun K "_law_draw" "_law_draw" sDraw fD fdD) (g_law_draw : mg "_law_draw" = some (.ref fD)) (b_law_draw : Binds K fdD ["_law_feed_here", "_law_many"] [])
    (F_law_of : Fun K "_law_of" "_law_of" sOf fO fdO) (g_law_of : mg "_law_of" = some (.ref fO)) (b_law_of : Binds K fdO ["_law_feed_here", "_law_some"] []) :
    FnOk P w K mg base CX0 (k + 3) f fd ["_law_feed_here"] spBounds := by
  have G_law_draw : FnOk P w K mg base CX0 (k + 2) fD fdD ["_law_feed_here", "_law_many"] spDraw := ok_draw F_law_draw T0
  have G_law_of : FnOk P w K mg base CX0 (k + 2) fO fdO ["_law_feed_here", "_law_some"] spPick := ok_of F_law_of T0 F_law_draw g_law_draw b_law_draw
  refine F.ok scBounds (fun vs H Q E h => ?_) (fun cdv A outer s H vs Q E hr h => ?_)
  · obtain ⟨a, c, n, rfl, _⟩ := h
    rfl
  · obtain ⟨a, c, n, rfl, hn, hT, q⟩ := h
    have hr_law_draw := hr
    have hr_law_of := hr
    refine ⟨_,
      (pss_cons (ps_set (i := 1) scBounds.nd rfl (.inl rfl) (pe_call G_law_of hr_law_of (by rfl) g_law_of F_law_of.kp b_law_of .nil pass0 (pa_cons (pv 0) (pa_cons (pe_lst (pa_cons pe_int (pa_cons pe_int (pa_cons pe_int (pa_cons (pe_call G_law_draw hr_law_draw (by rfl) g_law_draw F_law_draw.kp b_law_draw .nil pass0 (pa_cons (pv 0) (pa_cons pe_int pa_nil))) pa_nil))))) pa_nil))))
      (pss_cut (ps_set (i := 2) scBounds.nd rfl (.inl rfl) (pe_callB cr_sorted (by rfl) T.msorted (by decide +kernel) (pa_cons (pe_lc (own := [("_law_k", 4)]) (g := gName 4) (tt := tYes) rfl scBounds.nd (pi_range1 (by rfl) T.mrange (pa_cons pe_int pa_nil)) (blkOk_by (N := NBounds) (own := [("_law_k", 4)]) (sc := defScope sBounds) (by decide +kernel)) (fun _ _ _ _ _ => pg_name (i := 4) scBounds.nd rfl (Or.inl rfl)) (fun _ _ _ _ _ => pts_nil) (fun _ _ _ _ _ => (pe_op op_add pe_int (pe_call G_law_draw hr_law_draw (by rfl) g_law_draw F_law_draw.kp b_law_draw .nil pass0 (pa_cons (pv 0) (pa_cons (pe_call G_law_of hr_law_of (by rfl) g_law_of F_law_of.kp b_law_of .nil pass0 (pa_cons (pv 0) (pa_cons (pe_lst (pa_cons pe_int (pa_cons pe_int (pa_cons pe_int pa_nil)))) pa_nil))) pa_nil)))))) pa_nil)))
      (pss_cut (ps_set (i := 3) scBounds.nd rfl (.inl rfl) (pe_callB cr_sorted (by rfl) T.msorted (by decide +kernel) (pa_cons (pe_lc (own := [("_law_k", 4)]) (g := gName 4) (tt := tYes) rfl scBounds.nd (pi_range1 (by rfl) T.mrange (pa_cons pe_int pa_nil)) (blkOk_by (N := NBounds) (own := [("_law_k", 4)]) (sc := defScope sBounds) (by decide +kernel)) (fun _ _ _ _ _ => pg_name (i := 4) scBounds.nd rfl (Or.inl rfl)) (fun _ _ _ _ _ => pts_nil) (fun _ _ _ _ _ => (pe_op op_add pe_int (pe_call G_law_draw hr_law_draw (by rfl) g_law_draw F_law_draw.kp b_law_draw .nil pass0 (pa_cons (pv 0) (pa_cons (pe_call G_law_of hr_law_of (by rfl) g_law_of F_law_of.kp b_law_of .nil pass0 (pa_cons (pv 0) (pa_cons (pe_lst (pa_cons pe_int (pa_cons pe_int (pa_cons pe_int pa_nil)))) pa_nil))) pa_nil)))))) pa_nil)))
      (pss_one (ps_ret (pe_op op_cat (pe_op op_cat (pe_lst (pa_cons (pv 1) pa_nil)) (pv 2)) (pv 3)))))))
      , ?_⟩
    refine ⟨_, rfl, _, rfl, a, c, 90, n, rfl, by omega, by omega, by omega, hT, fun d1 H1 d10 d11 T1 k1 => ⟨by show 4 ≤ sizeLine; decide, fun l hl => ?_⟩⟩
    refine ⟨a, c, l, _, n + 1, rfl, upd_same, T1.ne hl, by show 0 < 4; decide, by show 4 < 1000000; decide, by omega, T1.new hl, fun j x H2 hx T2 k2 => ?_⟩
    obtain ⟨lag, rfl, hl0, hl1⟩ := pickI (xs := [0, 60, 1440, d1]) (lo := 0) (hi := 1440) (by simp; omega) hx
    have k02 : Keep a H H2 := (k1.new hl).trans k2
    -- waters
    refine ⟨fun σ H3 => ∃ (p : Addr) (u v : Int), σ = [some (.ref a), some (.int lag), some (.ref p), none, none] ∧ H3 p = some (.lst [.int u, .int v]) ∧ 1 ≤ u ∧ 1 ≤ v ∧ p ≠ a ∧ Tape H3 a c (n + 6) ∧ Keep a H H3, ?_, ?_⟩
    · refine ⟨2, rfl, by decide, by decide, fun D hD => ?_⟩
      have nDa : D ≠ a := T2.ne hD
      have nDc : D ≠ c := T2.nec hD
      refine lc_range (lo := 0) (n := 2) (fun i H' => ∃ ys : List Int, ys.length = i ∧ (∀ y ∈ ys, 1 ≤ y) ∧ H' D = some (.lst (ys.map V.int)) ∧ Tape H' a c (n + 2 + 2 * i) ∧ Keep a H H')
        ⟨[], rfl, fun y hy => (by cases hy), upd_same, T2.new hD, k02.new hD⟩ ?_ ?_
      · rintro i H' hi ⟨ys, ly, lo, eD, Ti, ki⟩
        have hD0 : H D = none := by
          cases e : H D with
          | none => rfl
          | some o => have := k02 D o nDa e; rw [hD] at this; cases this
        refine ⟨rfl, _, rfl, _, rfl, by show 3 ≤ sizeLine; decide, fun l5 hl5 => ?_⟩
        refine ⟨a, c, l5, _, _, rfl, upd_same, Ti.ne hl5, by show 0 < 3; decide, by show 3 < 1000000; decide, by omega, Ti.new hl5, fun j x H5 hx T5 k5 => ?_⟩
        obtain ⟨z, rfl, hz0, hz1⟩ := pickI (xs := [30, 500, 4095]) (lo := 1) (hi := 4095) (by simp) hx
        refine ⟨a, c, z, _, rfl, by omega, by omega, by omega, T5, fun d H6 d0 d1 T6 k6 => ?_⟩
        have k36 : Keep a H' H6 := (Keep.refl.new hl5).trans (k5.trans k6)
        refine ⟨_, _, rfl, rfl, _, k36 _ _ nDa eD, by rw [List.length_map]; exact Nat.lt_of_lt_of_le (show ys.length < 100 by omega) (small_line (by decide)), ys ++ [1 + d], by rw [List.length_append, ly]; rfl, ?_, ?_, ?_, ?_⟩
        · intro y hy
          rcases List.mem_append.mp hy with hy | hy
          · exact lo y hy
          · rw [List.mem_singleton.mp hy]; omega
        · rw [upd_same, List.map_append]; rfl
        · exact (T6.upd nDa nDc).mono (by omega)
        · exact fun x o nx e => by rw [upd_ne (ne_of_none e hD0)]; exact k36 x o nx (ki x o nx e)
      · rintro H' ⟨ys, ly, lo, eD, Ti, ki⟩
        refine ⟨D, ys, rfl, SqL.of eD, by omega, fun zs p perm _ new => ?_⟩
        have lz : zs.length = 2 := by rw [perm.length_eq, ly]
        match zs, lz with
        | [u, v], _ =>
          exact ⟨p, u, v, rfl, upd_same, lo u (perm.mem_iff.mp (by simp)), lo v (perm.mem_iff.mp (by simp)), Ti.ne new, Ti.new new, ki.new new⟩
    rintro σ H3 ⟨pw, u, v, rfl, ew, hu, hv, nwa, T3, k3⟩
    refine ⟨fun σ H4 => ∃ (p : Addr) (u2 v2 : Int), σ = [some (.ref a), some (.int lag), some (.ref pw), some (.ref p), none] ∧ H4 p = some (.lst [.int u2, .int v2]) ∧ H4 pw = some (.lst [.int u, .int v]) ∧ 1 ≤ u2 ∧ 1 ≤ v2 ∧ p ≠ a ∧ Tape H4 a c (n + 10) ∧ Keep a H H4, ?_, ?_⟩
    · refine ⟨2, rfl, by decide, by decide, fun D hD => ?_⟩
      have nDa : D ≠ a := T3.ne hD
      have nDc : D ≠ c := T3.nec hD
      have nDw : pw ≠ D := ne_of_none ew hD
      refine lc_range (lo := 0) (n := 2) (fun i H' => ∃ ys : List Int, ys.length = i ∧ (∀ y ∈ ys, 1 ≤ y) ∧ H' D = some (.lst (ys.map V.int)) ∧ H' pw = some (.lst [.int u, .int v]) ∧ Tape H' a c (n + 6 + 2 * i) ∧ Keep a H H')
        ⟨[], rfl, fun y hy => (by cases hy), upd_same, upd_at hD ew, T3.new hD, k3.new hD⟩ ?_ ?_
      · rintro i H' hi ⟨ys, ly, lo, eD, eW, Ti, ki⟩
        have hD0 : H D = none := by
          cases e : H D with
          | none => rfl
          | some o => have := k3 D o nDa e; rw [hD] at this; cases this
        refine ⟨rfl, _, rfl, _, rfl, by show 3 ≤ sizeLine; decide, fun l5 hl5 => ?_⟩
        refine ⟨a, c, l5, _, _, rfl, upd_same, Ti.ne hl5, by show 0 < 3; decide, by show 3 < 1000000; decide, by omega, Ti.new hl5, fun j x H5 hx T5 k5 => ?_⟩
        obtain ⟨z, rfl, hz0, hz1⟩ := pickI (xs := [12, 30, 4095]) (lo := 1) (hi := 4095) (by simp) hx
        refine ⟨a, c, z, _, rfl, by omega, by omega, by omega, T5, fun d H6 d0 d1 T6 k6 => ?_⟩
        have k36 : Keep a H' H6 := (Keep.refl.new hl5).trans (k5.trans k6)
        refine ⟨_, _, rfl, rfl, _, k36 _ _ nDa eD, by rw [List.length_map]; exact Nat.lt_of_lt_of_le (show ys.length < 100 by omega) (small_line (by decide)), ys ++ [1 + d], by rw [List.length_append, ly]; rfl, ?_, ?_, ?_, ?_, ?_⟩
        · intro y hy
          rcases List.mem_append.mp hy with hy | hy
          · exact lo y hy
          · rw [List.mem_singleton.mp hy]; omega
        · rw [upd_same, List.map_append]; rfl
        · rw [upd_ne nDw]; exact k36 _ _ nwa eW
        · exact (T6.upd nDa nDc).mono (by omega)
        · exact fun x o nx e => by rw [upd_ne (ne_of_none e hD0)]; exact k36 x o nx (ki x o nx e)
      · rintro H' ⟨ys, ly, lo, eD, eW, Ti, ki⟩
        refine ⟨D, ys, rfl, SqL.of eD, by omega, fun zs p perm _ new => ?_⟩
        have lz : zs.length = 2 := by rw [perm.length_eq, ly]
        match zs, lz with
        | [u2, v2], _ =>
          exact ⟨p, u2, v2, rfl, upd_same, upd_at new eW, lo u2 (perm.mem_iff.mp (by simp)), lo v2 (perm.mem_iff.mp (by simp)), Ti.ne new, Ti.new new, ki.new new⟩
    rintro σ H4 ⟨pi, u2, v2, rfl, ei, ew4, hu2, hv2, nia, T4, k4⟩
    refine ⟨_, rfl, by show 1 ≤ sizeLine; decide, fun l1 n1 => ?_⟩
    refine ⟨_, rfl, _, _, _, _, rfl, rfl, upd_same, upd_at n1 ew4, by show 3 ≤ sizeLine; decide, fun l2 n2 => ?_⟩
    refine ⟨_, rfl, _, _, _, _, rfl, rfl, upd_same, upd_at n2 (upd_at n1 ei), by show 5 ≤ sizeLine; decide, fun l3 n3 => ?_⟩
    exact q l3 ⟨lag, u, v, u2, v2⟩ _ upd_same hl0 hu hv hu2 hv2 (((T4.new n1).new n2).ne n3) ((((T4.new n1).new n2).new n3).mono (by omega)) (((k4.new n1).new n2).new n3)
end
abbrev sLast : Stmt := topS 24
abbrev NLast : List Str := ["_law_rows", "_law_moment", "_law_best", "_law_when", "_law_number"]
theorem scLast : FnScope NLast ["_law_rows", "_law_moment"] (defScope sLast) := ⟨rfl, rfl, rfl, by decide +kernel, rfl, by decide +kernel, by decide +kernel⟩
abbrev sLStand : Stmt := topS 25
abbrev NLStand : List Str := ["_law_bounds_here", "_law_came", "_law_moment", "_law_water", "_law_ice", "_law_row"]
theorem scLStand : FnScope NLStand ["_law_bounds_here", "_law_came", "_law_moment"] (defScope sLStand) := ⟨rfl, rfl, rfl, by decide +kernel, rfl, by decide +kernel, by decide +kernel⟩
/-! ### the last pair of a minute, by the law's own walk -/
inductive Prs (H : Hp) : List V → List (Int × Int) → Prop
  | nil : Prs H [] []
  | cons {a : Addr} {x : Int × Int} {xs : List V} {qs : List (Int × Int)} : H a = some (.tup [.int x.1, .int x.2]) → Prs H xs qs → Prs H (.ref a :: xs) (x :: qs)
theorem Prs.len {H : Hp} {xs : List V} {qs : List (Int × Int)} (h : Prs H xs qs) : xs.length = qs.length := by
  induction h with
  | nil => rfl
  | cons _ _ ih => rw [List.length_cons, List.length_cons, ih]
theorem Prs.at {H : Hp} {xs : List V} {qs : List (Int × Int)} (h : Prs H xs qs) : ∀ {i : Nat} {y : V}, xs[i]? = some y → ∃ a x, y = .ref a ∧ qs[i]? = some x ∧ H a = some (.tup [.int x.1, .int x.2]) := by
  induction h with
  | nil => intro i y e; cases e
  | cons e _ ih =>
    intro i y z
    cases i with
    | zero => cases z; exact ⟨_, _, rfl, rfl, e⟩
    | succ i => exact ih z
theorem Prs.mono {H H' : Hp} {xs : List V} {qs : List (Int × Int)} (h : Prs H xs qs) (s : ∀ a ts, H a = some (.tup ts) → H' a = some (.tup ts)) : Prs H' xs qs := by
  induction h with
  | nil => exact .nil
  | cons e _ ih => exact .cons (s _ _ e) ih
theorem Prs.app {H : Hp} {xs ys : List V} {qs ss : List (Int × Int)} (h : Prs H xs qs) (h2 : Prs H ys ss) : Prs H (xs ++ ys) (qs ++ ss) := by
  induction h with
  | nil => exact h2
  | cons e _ ih => exact .cons e ih
def lStep (m : Int) (s : Option (Int × Int)) (x : Int × Int) : Option (Int × Int) := if x.1 ≤ m ∧ (s = none ∨ ∃ b, s = some b ∧ x.1 ≥ b.1) then some x else s
def lFold (m : Int) (qs : List (Int × Int)) : Option (Int × Int) := qs.foldl (lStep m) none
def lastOf (qs : List (Int × Int)) (m : Int) : Int := match lFold m qs with | none => 0 | some x => x.2
theorem lFold_succ {m : Int} {qs : List (Int × Int)} {i : Nat} {x : Int × Int} (h : qs[i]? = some x) : lFold m (qs.take (i + 1)) = lStep m (lFold m (qs.take i)) x := by
  unfold lFold
  rw [List.take_succ, h, List.foldl_append]
  rfl
def BestV (H : Hp) (v : V) (s : Option (Int × Int)) : Prop := (s = none ∧ v = .non) ∨ (∃ x t, s = some x ∧ v = .ref t ∧ H t = some (.tup [.int x.1, .int x.2]))
theorem BestV.same {H H' : Hp} {v : V} {s : Option (Int × Int)} (h : BestV H v s) (z : Same H H') : BestV H' v s := by
  rcases h with h | ⟨x, t, e1, e2, e3⟩
  · exact .inl h
  · exact .inr ⟨x, t, e1, e2, z _ _ e3⟩
def prOf (d : Int) (r : Rd) : Int × Int := (r.m + d, r.n)
/-- both walks come to the same number -/
theorem last_num (w : Bool) (d M : Int) : ∀ (rs : List Rd), (∀ r ∈ rs, 0 ≤ r.m) → ∀ (s : Option (Int × Int)) (p : Int × Int), ((s = none ∧ p = (0, 0)) ∨ s = some (p.1 + d, p.2)) →
    (match ((rs.filter fun r => r.w == w).map (prOf d)).foldl (lStep M) s with | none => (0 : Int) | some x => x.2) = (rs.foldl (nStep w (M - d)) p).2
  | [], _, s, p, h => by
    rcases h with ⟨rfl, rfl⟩ | rfl <;> rfl
  | r :: t, hall, s, p, h => by
    have h0 := hall r List.mem_cons_self
    have ht := fun z hz => hall z (List.mem_cons_of_mem _ hz)
    rw [List.foldl_cons]
    by_cases hw : r.w = w
    · have hf : (r :: t).filter (fun r => r.w == w) = r :: t.filter (fun r => r.w == w) := List.filter_cons_of_pos (by simp [hw])
      rw [hf, List.map_cons, List.foldl_cons]
      by_cases c : r.m + d ≤ M ∧ p.1 ≤ r.m
      · have e1 : nStep w (M - d) p r = (r.m, r.n) := if_pos ⟨hw, c.2, by omega⟩
        have e2 : lStep M s (prOf d r) = some (r.m + d, r.n) := by
          refine if_pos ⟨c.1, ?_⟩
          rcases h with ⟨rfl, rfl⟩ | rfl
          · exact .inl rfl
          · refine .inr ⟨_, rfl, ?_⟩
            show r.m + d ≥ p.1 + d
            omega
        rw [e1, e2]
        exact last_num w d M t ht _ _ (.inr rfl)
      · have e1 : nStep w (M - d) p r = p := if_neg fun z => c ⟨by have := z.2.2; omega, z.2.1⟩
        have e2 : lStep M s (prOf d r) = s := by
          refine if_neg fun z => c ⟨z.1, ?_⟩
          rcases h with ⟨rfl, rfl⟩ | rfl
          · exact h0
          · rcases z.2 with z2 | ⟨b, z2, z3⟩
            · cases z2
            · cases z2
              have : r.m + d ≥ p.1 + d := z3
              omega
        rw [e1, e2]
        exact last_num w d M t ht _ _ h
    · have hf : (r :: t).filter (fun r => r.w == w) = t.filter (fun r => r.w == w) := List.filter_cons_of_neg (by simp [hw])
      have e1 : nStep w (M - d) p r = p := if_neg fun z => hw z.1
      rw [hf, e1]
      exact last_num w d M t ht _ _ h
theorem lastOf_num {w : Bool} {d M : Int} {rs : List Rd} (h : ∀ r ∈ rs, 0 ≤ r.m) : lastOf ((rs.filter fun r => r.w == w).map (prOf d)) M = numAt rs w (M - d) :=
  last_num w d M rs h none (0, 0) (.inl ⟨rfl, rfl⟩)
theorem filt_succ {w : Bool} {rs : List Rd} {i : Nat} {r : Rd} (h : rs[i]? = some r) : (rs.take (i + 1)).filter (fun r => r.w == w) = (rs.take i).filter (fun r => r.w == w) ++ (if r.w = w then [r] else []) := by
  rw [List.take_succ, h, List.filter_append]
  by_cases c : r.w = w
  · rw [if_pos c]
    show _ ++ [r].filter _ = _
    rw [List.filter_cons_of_pos (by simp [c])]
    rfl
  · rw [if_neg c]
    show _ ++ [r].filter _ = _
    rw [List.filter_cons_of_neg (by simp [c])]
    rfl
def spLast : Sp := fun vs H Q _ => ∃ (p : Addr) (xs : List V) (qs : List (Int × Int)) (m : Int), vs = [.ref p, .int m] ∧ H p = some (.lst xs) ∧ Prs H xs qs ∧ ∀ H', Same H H' → Q (.int (lastOf qs m)) H'
def spLStand : Sp := fun vs H Q _ => ∃ (b p : Addr) (g : Gg) (rs : List Rd) (m : Int), vs = [.ref b, .ref p, .int m] ∧ H b = some (.lst [.int g.lag, .int g.high, .int g.top, .int g.thin, .int g.thick]) ∧ RdsAt H p rs ∧ rs.length ≤ 1000 ∧ (∀ r ∈ rs, 0 ≤ r.m) ∧
  ∀ H', Same H H' → Q (.str (standG g rs m)) H'
section
variable {P : Program} {w : World} {K : PySem.W.Frag} {mg : Str → Option Value} {base : Heap} {C : Addr}
theorem ok_last {f : Addr} {fd : FuncData} {k : Nat} (F : Fun K "_law_last" "_law_last" sLast f fd) : FnOk P w K mg base CX0 (k + 1) f fd ["_law_rows", "_law_moment"] spLast := by
  refine F.ok scLast (fun vs H Q E h => ?_) (fun cdv A outer s H vs Q E hr h => ?_)
  · obtain ⟨p, xs, qs, m, rfl, _⟩ := h
    rfl
  · obtain ⟨p, xs, qs, m, rfl, hp, hq, q⟩ := h
    refine ⟨_,
      (pss_cons (ps_set (i := 2) scLast.nd rfl (.inl rfl) pe_non)
      (pss_cons (ps_for PassesOwn.never rfl (pi_list (pv 0)) (pg_tup rfl (pgs_cons (pg_name (i := 3) scLast.nd rfl (.inl rfl)) (pgs_cons (pg_name (i := 4) scLast.nd rfl (.inl rfl)) pgs_nil)))
      (pss_one (ps_if (PW.pt (pw_and (pt_cmpR op_le (pv 3) (pv 1) (nomark _)) (pw_and1 (PW.pt (pw_or (pt_cmpR op_isN (pv 2) pe_non (nomark _)) (pw_or1 (pt_cmpR op_ge (pv 3) (pe_ix ix_tup (pv 2) pe_int (fun _ _ => rfl)) (nomark _))))))))
      (pss_one (ps_set (i := 2) scLast.nd rfl (.inl rfl) (pe_tup (pa_cons (pv 3) (pa_cons (pv 4) pa_nil)))))
      pss_nil)))
      (pss_one (ps_ret (pe_ifExp (pt_cmpR op_isN (pv 2) pe_non (nomark _)) pe_int (pe_ix ix_tup (pv 2) pe_int (fun _ _ => rfl)))))))
      , ?_⟩
    refine ⟨_, rfl, p, rfl, ⟨_, SqL.of hp⟩, for_list (K := K) (a := p) (xs := xs) (fun j σ H' => ∃ v v3 v4, σ = [some (.ref p), some (.int m), some v, v3, v4] ∧ BestV H' v (lFold m (qs.take j)) ∧ Same H H')
      ⟨_, _, _, rfl, .inl ⟨rfl, rfl⟩, same_refl⟩ (fun j σ H' _ ⟨_, _, _, _, _, z⟩ => SqL.of (z _ _ hp)) ?_ ?_⟩
    · rintro j y σ H' hj ⟨v, v3, v4, rfl, hb, s1⟩
      obtain ⟨a, x, rfl, hx, ha⟩ := hq.at hj
      have es := lFold_succ (m := m) hx
      have ha' := s1 _ _ ha
      refine ⟨a, _, rfl, SqT.of ha', rfl, _, _, rfl, _, _, rfl, rfl, ?_⟩
      have keep : ∀ (hn : ¬ (x.1 ≤ m ∧ (lFold m (qs.take j) = none ∨ ∃ b, lFold m (qs.take j) = some b ∧ x.1 ≥ b.1))), BestV H' v (lFold m (qs.take (j + 1))) := fun hn => by
        have e2 : lStep m (lFold m (qs.take j)) x = lFold m (qs.take j) := if_neg hn
        rw [es, e2]; exact hb
      have take : ∀ (hn : x.1 ≤ m ∧ (lFold m (qs.take j) = none ∨ ∃ b, lFold m (qs.take j) = some b ∧ x.1 ≥ b.1)), lFold m (qs.take (j + 1)) = some x := fun hn => by
        have e2 : lStep m (lFold m (qs.take j)) x = some x := if_pos hn
        rw [es, e2]
      refine ⟨_, rfl, _, rfl, _, _, rfl, rfl, _, rfl, ite2 (fun c1 => ?_) (fun c1 => iteF ⟨_, _, _, rfl, keep fun z => c1 (decide_eq_true z.1), s1⟩)⟩
      have c1' : x.1 ≤ m := of_decide_eq_true c1
      refine ⟨_, rfl, rfl, _, rfl, ite2 (fun c2 => iteT ?_) (fun c2 => ?_)⟩
      · have hn : lFold m (qs.take j) = none := by
          rcases hb with hb | ⟨_, _, _, e, _⟩
          · exact hb.1
          · rw [e] at c2; exact absurd (of_decide_eq_true c2) (by intro z; cases z)
        refine ⟨_, rfl, _, rfl, by show 2 ≤ sizeLine; decide, fun t ht => ?_⟩
        exact ⟨_, _, _, rfl, .inr ⟨x, t, take ⟨c1', .inl hn⟩, rfl, upd_same⟩, s1.trans (same_upd ht)⟩
      · rcases hb with hb | ⟨b, t0, e0, e1, e2⟩
        · exact absurd (decide_eq_true hb.2) c2
        · subst e1
          refine ⟨_, rfl, _, rfl, t0, _, 0, _, rfl, rfl, SqT.of e2, atI_nat (j := 0) rfl, _, _, rfl, rfl, _, rfl, ite2 (fun c3 => ?_) (fun c3 => ?_)⟩
          · refine ⟨_, rfl, _, rfl, by show 2 ≤ sizeLine; decide, fun t ht => ?_⟩
            exact ⟨_, _, _, rfl, .inr ⟨x, t, take ⟨c1', .inr ⟨b, e0, of_decide_eq_true c3⟩⟩, rfl, upd_same⟩, s1.trans (same_upd ht)⟩
          · refine ⟨_, _, _, rfl, keep fun z => ?_, s1⟩
            rcases z.2 with z2 | ⟨b', z2, z3⟩
            · rw [e0] at z2; cases z2
            · rw [e0] at z2; cases z2
              exact c3 (decide_eq_true z3)
    · rintro σ H' ⟨v, v3, v4, rfl, hb, s1⟩
      rw [hq.len, List.take_length] at hb
      refine ⟨_, rfl, rfl, _, rfl, ite2 (fun c => ?_) (fun c => ?_)⟩
      · have e : lastOf qs m = 0 := by
          rcases hb with hb | ⟨_, _, _, e, _⟩
          · unfold lastOf; rw [hb.1]
          · rw [e] at c; exact absurd (of_decide_eq_true c) (by intro z; cases z)
        rw [e] at q
        exact q _ s1
      · rcases hb with hb | ⟨b, t0, e0, e1, e2⟩
        · exact absurd (decide_eq_true hb.2) c
        · subst e1
          have e : lastOf qs m = b.2 := by unfold lastOf; rw [e0]
          rw [e] at q
          exact ⟨_, rfl, t0, _, 1, _, rfl, rfl, SqT.of e2, atI_nat (j := 1) rfl, q _ s1⟩
theorem ok_lstand {f fL : Addr} {fd fdL : FuncData} {k : Nat} (F : Fun K "_law_stand" "_law_stand" sLStand f fd)
    (F_law_last : Fun K "_law_last" "_law_last" sLast fL fdL) (g_law_last : mg "_law_last" = some (.ref fL)) (b_law_last : Binds K fdL ["_law_rows", "_law_moment"] []) :
    FnOk P w K mg base CX0 (k + 2) f fd ["_law_bounds_here", "_law_came", "_law_moment"] spLStand := by
  have G_law_last : FnOk P w K mg base CX0 (k + 1) fL fdL ["_law_rows", "_law_moment"] spLast := ok_last F_law_last
  refine F.ok scLStand (fun vs H Q E h => ?_) (fun cdv A outer s H vs Q E hr h => ?_)
  · obtain ⟨b, p, g, rs, m, rfl, _⟩ := h
    rfl
  · obtain ⟨b, p, g, rs, m, rfl, hb, ⟨xs, hp, hrs⟩, hlen, hall, q⟩ := h
    have hr_law_last := hr
    refine ⟨_,
      (pss_cut (ps_set (i := 3) scLStand.nd rfl (.inl rfl) (pe_call G_law_last hr_law_last (by rfl) g_law_last F_law_last.kp b_law_last .nil pass0 (pa_cons (pe_lc (own := [("_law_row", 5)]) (g := gName 5)  rfl scLStand.nd (pi_list (pv 1)) (blkOk_by (N := NLStand) (own := [("_law_row", 5)]) (sc := defScope sLStand) (by decide +kernel)) (fun _ _ _ _ _ => pg_name (i := 5) scLStand.nd rfl (Or.inl rfl)) (fun _ _ _ _ _ => pts_one (pt_cmpR op_eq (pe_ix (r := rIxT K) ix_tup (pv 5) pe_int (fun _ _ => rfl)) pe_str (nomark _))) (fun _ _ _ _ _ => (pe_tup (pa_cons (pe_op op_add (pe_ix (r := rIxT K) ix_tup (pv 5) pe_int (fun _ _ => rfl)) (pe_ix (r := rIxL K) ix_list (pv 0) pe_int (fun _ _ => rfl))) (pa_cons (pe_ix (r := rIxT K) ix_tup (pv 5) pe_int (fun _ _ => rfl)) pa_nil))))) (pa_cons (pv 2) pa_nil))))
      (pss_cut (ps_set (i := 4) scLStand.nd rfl (.inl rfl) (pe_call G_law_last hr_law_last (by rfl) g_law_last F_law_last.kp b_law_last .nil pass0 (pa_cons (pe_lc (own := [("_law_row", 5)]) (g := gName 5)  rfl scLStand.nd (pi_list (pv 1)) (blkOk_by (N := NLStand) (own := [("_law_row", 5)]) (sc := defScope sLStand) (by decide +kernel)) (fun _ _ _ _ _ => pg_name (i := 5) scLStand.nd rfl (Or.inl rfl)) (fun _ _ _ _ _ => pts_one (pt_cmpR op_eq (pe_ix (r := rIxT K) ix_tup (pv 5) pe_int (fun _ _ => rfl)) pe_str (nomark _))) (fun _ _ _ _ _ => (pe_tup (pa_cons (pe_ix (r := rIxT K) ix_tup (pv 5) pe_int (fun _ _ => rfl)) (pa_cons (pe_ix (r := rIxT K) ix_tup (pv 5) pe_int (fun _ _ => rfl)) pa_nil))))) (pa_cons (pv 2) pa_nil))))
      (pss_cons (ps_if (pt_cmpR op_ge (pv 3) (pe_ix ix_list (pv 0) pe_int (fun _ _ => rfl)) (nomark _))
      (pss_one (ps_ret pe_str))
      pss_nil)
      (pss_cons (ps_if (pt_cmpR op_ge (pv 4) (pe_ix ix_list (pv 0) pe_int (fun _ _ => rfl)) (nomark _))
      (pss_one (ps_ret pe_str))
      pss_nil)
      (pss_one (ps_ret (pe_ifExp (PW.pt (pw_or (pt_cmpR op_ge (pv 3) (pe_ix ix_list (pv 0) pe_int (fun _ _ => rfl)) (nomark _)) (pw_or1 (pt_cmpR op_ge (pv 4) (pe_ix ix_list (pv 0) pe_int (fun _ _ => rfl)) (nomark _))))) pe_str pe_str)))))))
      , ?_⟩
    have hxl := hrs.len
    refine ⟨fun σ H1 => σ = [some (.ref b), some (.ref p), some (.int m), some (.int (numAt rs true (m - g.lag))), none, none] ∧ Same H H1, ?_, ?_⟩
    · refine ⟨_, rfl, p, rfl, ⟨_, SqL.of hp⟩, fun D hD => ?_⟩
      refine lc_list (K := K) (a := p) (xs := xs) (fun i H' => ∃ ys, H' D = some (.lst ys) ∧ Prs H' ys (((rs.take i).filter fun r => r.w == true).map (prOf g.lag)) ∧ ys.length ≤ i ∧ Same H H')
        ⟨[], upd_same, .nil, Nat.le_refl _, same_upd hD⟩ (fun i H' _ ⟨_, _, _, _, z⟩ => SqL.of (z _ _ hp)) ?_ ?_
      · rintro i y H' hy ⟨ys, eD, hys, ly, si⟩
        obtain ⟨a, r, rfl, hr2, ha⟩ := hrs.at hy
        have ha' := si _ _ ha
        have hi : i < xs.length := (List.getElem?_eq_some_iff.mp hy).1
        refine ⟨rfl, _, rfl, a, _, 1, _, rfl, rfl, SqT.of ha', atI_nat (j := 1) rfl, rfl, _, rfl, ite2 (fun c => ?_) (fun c => ?_)⟩
        · have ew : r.w = true := kindS_inj.mp (V.str.inj (of_decide_eq_true c))
          refine ⟨_, rfl, a, _, 0, _, rfl, rfl, SqT.of ha', atI_nat (j := 0) rfl, _, rfl, b, _, 0, _, rfl, rfl, SqL.of (si _ _ hb), atI_nat (j := 0) rfl, _, _, rfl, rfl, _, rfl, a, _, 2, _, rfl, rfl, SqT.of ha', atI_nat (j := 2) rfl, by show 2 ≤ sizeLine; decide, fun t ht => ?_⟩
          have eD' := upd_at (o := .tup [.int (r.m + g.lag), .int r.n]) ht eD
          have ntD : t ≠ D := (ne_of_none eD ht).symm
          refine ⟨_, eD', Nat.lt_of_lt_of_le (show ys.length < 1001 by omega) (Nat.le_trans (show 1001 ≤ 100000 by decide) (by decide)), ys ++ [.ref t], upd_same, ?_, by rw [List.length_append]; exact Nat.succ_le_succ ly, fun x o e => ?_⟩
          · rw [filt_succ hr2, if_pos ew, List.map_append]
            refine (hys.mono fun x ts z => ?_).app (.cons (by rw [upd_ne ntD]; exact upd_same) .nil)
            rw [upd_ne (ne_of z eD (by intro z; cases z))]; exact upd_at ht z
          · rw [upd_ne (ne_of_none e hD)]
            exact upd_at ht (si _ _ e)
        · have ew : ¬ r.w = true := fun z => c (decide_eq_true (congrArg V.str (kindS_inj.mpr z)))
          refine ⟨ys, eD, ?_, by omega, si⟩
          rw [filt_succ hr2, if_neg ew, List.append_nil]
          exact hys
      · rintro H' ⟨ys, eD, hys, ly, si⟩
        rw [hxl, List.take_length] at hys
        refine ⟨_, rfl, D, ys, _, m, rfl, eD, hys, fun H2 s2 => ?_⟩
        rw [lastOf_num hall]
        exact ⟨rfl, si.trans s2⟩
    rintro σ H1 ⟨rfl, s1⟩
    refine ⟨fun σ H2 => σ = [some (.ref b), some (.ref p), some (.int m), some (.int (numAt rs true (m - g.lag))), some (.int (numAt rs false m)), none] ∧ Same H H2, ?_, ?_⟩
    · refine ⟨_, rfl, p, rfl, ⟨_, SqL.of (s1 _ _ hp)⟩, fun D hD => ?_⟩
      refine lc_list (K := K) (a := p) (xs := xs) (fun i H' => ∃ ys, H' D = some (.lst ys) ∧ Prs H' ys (((rs.take i).filter fun r => r.w == false).map (prOf 0)) ∧ ys.length ≤ i ∧ Same H H')
        ⟨[], upd_same, .nil, Nat.le_refl _, s1.trans (same_upd hD)⟩ (fun i H' _ ⟨_, _, _, _, z⟩ => SqL.of (z _ _ hp)) ?_ ?_
      · rintro i y H' hy ⟨ys, eD, hys, ly, si⟩
        obtain ⟨a, r, rfl, hr2, ha⟩ := hrs.at hy
        have ha' := si _ _ ha
        have hi : i < xs.length := (List.getElem?_eq_some_iff.mp hy).1
        refine ⟨rfl, _, rfl, a, _, 1, _, rfl, rfl, SqT.of ha', atI_nat (j := 1) rfl, rfl, _, rfl, ite2 (fun c => ?_) (fun c => ?_)⟩
        · have ew : r.w = false := kindS_inj.mp (V.str.inj (of_decide_eq_true c))
          refine ⟨_, rfl, a, _, 0, _, rfl, rfl, SqT.of ha', atI_nat (j := 0) rfl, _, rfl, a, _, 2, _, rfl, rfl, SqT.of ha', atI_nat (j := 2) rfl, by show 2 ≤ sizeLine; decide, fun t ht => ?_⟩
          have eD' := upd_at (o := .tup [.int r.m, .int r.n]) ht eD
          have ntD : t ≠ D := (ne_of_none eD ht).symm
          refine ⟨_, eD', Nat.lt_of_lt_of_le (show ys.length < 1001 by omega) (Nat.le_trans (show 1001 ≤ 100000 by decide) (by decide)), ys ++ [.ref t], upd_same, ?_, by rw [List.length_append]; exact Nat.succ_le_succ ly, fun x o e => ?_⟩
          · rw [filt_succ hr2, if_pos ew, List.map_append]
            refine (hys.mono fun x ts z => ?_).app (.cons (by rw [upd_ne ntD, upd_same]; show some (HO.tup [.int r.m, .int r.n]) = some (.tup [.int (r.m + 0), .int r.n]); rw [Int.add_zero]) .nil)
            rw [upd_ne (ne_of z eD (by intro z; cases z))]; exact upd_at ht z
          · by_cases exD : x = D
            · subst exD
              exact absurd (s1 _ _ e) (by rw [hD]; intro z; cases z)
            · rw [upd_ne exD]
              exact upd_at ht (si _ _ e)
        · have ew : ¬ r.w = false := fun z => c (decide_eq_true (congrArg V.str (kindS_inj.mpr z)))
          refine ⟨ys, eD, ?_, by omega, si⟩
          rw [filt_succ hr2, if_neg ew, List.append_nil]
          exact hys
      · rintro H' ⟨ys, eD, hys, ly, si⟩
        rw [hxl, List.take_length] at hys
        refine ⟨_, rfl, D, ys, _, m, rfl, eD, hys, fun H2 s2 => ?_⟩
        rw [lastOf_num hall, Int.sub_zero]
        exact ⟨rfl, si.trans s2⟩
    rintro σ H2 ⟨rfl, s2⟩
    have hb2 := s2 _ _ hb
    have q2 := q _ s2
    refine ⟨_, rfl, _, rfl, b, _, 2, _, rfl, rfl, SqL.of hb2, atI_nat (j := 2) rfl, _, _, rfl, rfl, _, rfl, ite2 (fun c1 => ?_) (fun c1 => ?_)⟩
    · have e : standG g rs m = "lost" := if_pos (of_decide_eq_true c1)
      rw [e] at q2
      exact q2
    refine ⟨_, rfl, _, rfl, b, _, 4, _, rfl, rfl, SqL.of hb2, atI_nat (j := 4) rfl, _, _, rfl, rfl, _, rfl, ite2 (fun c2 => ?_) (fun c2 => ?_)⟩
    · have e : standG g rs m = "shut" := (if_neg fun z => c1 (decide_eq_true z)).trans (if_pos (of_decide_eq_true c2))
      rw [e] at q2
      exact q2
    have e0 : standG g rs m = (if numAt rs true (m - g.lag) ≥ g.high ∨ numAt rs false m ≥ g.thin then ("slow" : Str) else ("free" : Str)) := (if_neg fun z => c1 (decide_eq_true z)).trans (if_neg fun z => c2 (decide_eq_true z))
    rw [e0] at q2
    refine ⟨_, rfl, _, rfl, b, _, 1, _, rfl, rfl, SqL.of hb2, atI_nat (j := 1) rfl, _, _, rfl, rfl, _, rfl, ite2 (fun c3 => iteT ?_) (fun c3 => ?_)⟩
    · rw [if_pos (Or.inl (of_decide_eq_true c3))] at q2
      exact q2
    refine ⟨_, rfl, _, rfl, b, _, 3, _, rfl, rfl, SqL.of hb2, atI_nat (j := 3) rfl, _, _, rfl, rfl, _, rfl, ite2 (fun c4 => ?_) (fun c4 => ?_)⟩
    · rw [if_pos (Or.inr (of_decide_eq_true c4))] at q2
      exact q2
    · rw [if_neg (fun z => z.elim (fun z => c3 (decide_eq_true z)) (fun z => c4 (decide_eq_true z)))] at q2
      exact q2
end
abbrev sLaw : Stmt := topS 26
abbrev NLaw : List Str := ["_law_script", "_law_feed_here", "_law_k", "_law_bounds_here", "_law_gauge", "_law_other", "_law_some", "_law_handed", "_law_moments", "_law_row", "_law_edge", "_law_moment", "_law_due", "_law_turns"]
theorem scLaw : FnScope NLaw ["_law_script"] (defScope sLaw) := ⟨rfl, rfl, rfl, by decide +kernel, rfl, by decide +kernel, by decide +kernel⟩
theorem Tape.keep {H H' : Hp} {T c m : Addr} {n : Nat} (h : Tape H T c n) (k : Keep m H H') (n1 : T ≠ m) (n2 : c ≠ m) : Tape H' T c n := by
  obtain ⟨t, r, ns, h1, h2, h3, h4, h5, h6⟩ := h.ex
  exact ⟨t, r, ns, k _ _ n1 h1, k _ _ n2 h2, h3, h4, h5, h6⟩
theorem free_nil {g : Gg} {m : Int} (h2 : 1 ≤ g.high) (h3 : 1 ≤ g.top) (h4 : 1 ≤ g.thin) (h5 : 1 ≤ g.thick) : standG g [] m = "free" := by
  have e1 : ¬ ((0 : Int) ≥ g.top) := by omega
  have e2 : ¬ ((0 : Int) ≥ g.thick) := by omega
  have e3 : ¬ ((0 : Int) ≥ g.high ∨ (0 : Int) ≥ g.thin) := by omega
  exact (if_neg e1).trans ((if_neg e2).trans (if_neg e3))
def spLaw (K : PySem.W.Frag) : Sp := fun vs H Q _ => ∃ (a : Addr) (ns : List Int), vs = [.ref a] ∧ SqL K H a (ns.map V.int) ∧ ns.length ≤ 63 ∧ ∀ H', Q (.bl true) H'
structure TxtL (mg : Str → Option Value) : Prop where
  mlen : mg "len" = none
  mmax : mg "max" = none
  mint : mg "int" = none
  mlist : mg "list" = none
  mrange : mg "range" = none
section
variable {P : Program} {w : World} {K : PySem.W.Frag} {mg : Str → Option Value} {base : Heap} {C : Addr}
theorem ok_law {f fI fS fN fF fD fO fR fB fLa fLS : Addr} {fd fdI fdS fdN fdF fdD fdO fdR fdB fdLa fdLS : FuncData} (F : Fun K "law" "law" sLaw f fd) (T0 : Txt0 mg) (TF : TxtF mg) (TR : TxtR mg) (TW : TxtW mg) (T : TxtL mg) (TC : GCl K mg C)
    (MGauge : Mk K C fI) (FI : FunDf_Gauge___init__ K fI fdI)
    (mstand : Meth K C "stand" fS) (FS : Fun K "stand" "Gauge.stand" sGStand fS fdS) (bstand : Binds K fdS ["self", "readings", "minute"] []) (kbstand : KBinds K fdS ["self", "readings", "minute"] ["minute", "readings"] (kwN 1 2) (kwN 1 2))
    (F_number_at : Fun K "_number_at" "_number_at" sNumAt fN fdN) (g_number_at : mg "_number_at" = some (.ref fN)) (b_number_at : Binds K fdN ["readings", "kind", "until"] [])
    (F_law_feed : Fun K "_law_feed" "_law_feed" sFeed fF fdF) (g_law_feed : mg "_law_feed" = some (.ref fF)) (b_law_feed : Binds K fdF ["_law_script"] [])
    (F_law_draw : Fun K "_law_draw" "_law_draw" sDraw fD fdD) (g_law_draw : mg "_law_draw" = some (.ref fD)) (b_law_draw : Binds K fdD ["_law_feed_here", "_law_many"] [])
    (F_law_of : Fun K "_law_of" "_law_of" sOf fO fdO) (g_law_of : mg "_law_of" = some (.ref fO)) (b_law_of : Binds K fdO ["_law_feed_here", "_law_some"] [])
    (F_law_readings : Fun K "_law_readings" "_law_readings" sReadings fR fdR) (g_law_readings : mg "_law_readings" = some (.ref fR)) (b_law_readings : Binds K fdR ["_law_feed_here", "_law_many"] [])
    (F_law_bounds : Fun K "_law_bounds" "_law_bounds" sBounds fB fdB) (g_law_bounds : mg "_law_bounds" = some (.ref fB)) (b_law_bounds : Binds K fdB ["_law_feed_here"] [])
    (F_law_last : Fun K "_law_last" "_law_last" sLast fLa fdLa) (g_law_last : mg "_law_last" = some (.ref fLa)) (b_law_last : Binds K fdLa ["_law_rows", "_law_moment"] [])
    (F_law_stand : Fun K "_law_stand" "_law_stand" sLStand fLS fdLS) (g_law_stand : mg "_law_stand" = some (.ref fLS)) (b_law_stand : Binds K fdLS ["_law_bounds_here", "_law_came", "_law_moment"] []) :
    FnOk P w K mg base CX0 4 f fd ["_law_script"] (spLaw K) := by
  have GGauge : FnOk P w K mg base CX0 1 fI fdI ["self", "lag", "high", "top", "thin", "thick"] (spGInit C) := ok_ginit FI TC
  have Gstand : FnOk P w K mg base CX0 3 fS fdS ["self", "readings", "minute"] (spStand C) := ok_stand FS TC TW F_number_at g_number_at b_number_at
  have G_law_feed : FnOk P w K mg base CX0 3 fF fdF ["_law_script"] (spTape K) := ok_feed F_law_feed TF
  have G_law_of : FnOk P w K mg base CX0 3 fO fdO ["_law_feed_here", "_law_some"] spPick := ok_of F_law_of T0 F_law_draw g_law_draw b_law_draw
  have G_law_readings : FnOk P w K mg base CX0 3 fR fdR ["_law_feed_here", "_law_many"] spReadings := ok_readings F_law_readings T0 TR F_law_draw g_law_draw b_law_draw F_law_of g_law_of b_law_of
  have G_law_bounds : FnOk P w K mg base CX0 3 fB fdB ["_law_feed_here"] spBounds := ok_bounds F_law_bounds T0 TR F_law_draw g_law_draw b_law_draw F_law_of g_law_of b_law_of
  have G_law_stand : FnOk P w K mg base CX0 3 fLS fdLS ["_law_bounds_here", "_law_came", "_law_moment"] spLStand := ok_lstand F_law_stand F_law_last g_law_last b_law_last
  have bGauge := gi_b5 FI
  obtain ⟨ds0, rGauge0, bGauge0⟩ := gi_b0 FI
  obtain ⟨its, kbGauge⟩ := gi_kb FI
  refine F.ok scLaw (fun vs H Q E h => ?_) (fun cdv A outer s H vs Q E hr h => ?_)
  · obtain ⟨a, n, rfl, _⟩ := h
    rfl
  · obtain ⟨a, ns, rfl, hS, hlen, q⟩ := h
    have gC := TC.gC
    have cstand := TC.cl
    have hrGauge : Room 2 _ := hr.mono (by decide)
    have hrstand := hr
    have hr_law_feed := hr
    have hr_law_of := hr
    have hr_law_readings := hr
    have hr_law_bounds := hr
    have hr_law_stand := hr
    refine ⟨_,
      (pss_cons (ps_set (i := 1) scLaw.nd rfl (.inr rfl) (pe_call G_law_feed hr_law_feed (by rfl) g_law_feed F_law_feed.kp b_law_feed .nil pass0 (pa_cons (pv 0) pa_nil)))
      (pss_cons (ps_for PassesOwn.never rfl (pi_range1 (by rfl) T.mrange (pa_cons pe_int pa_nil)) (pg_name (i := 2) scLaw.nd rfl (.inl rfl))
      (pss_cons (ps_set (i := 3) scLaw.nd rfl (.inl rfl) (pe_call G_law_bounds hr_law_bounds (by rfl) g_law_bounds F_law_bounds.kp b_law_bounds .nil pass0 (pa_cons (pv 1) pa_nil)))
      (pss_cons (ps_set (i := 4) scLaw.nd rfl (.inl rfl) (pe_make MGauge GGauge hrGauge (by rfl) gC bGauge .nil pass0 (pa_cons (pe_ix ix_list (pv 3) pe_int (fun _ _ => rfl)) (pa_cons (pe_ix ix_list (pv 3) pe_int (fun _ _ => rfl)) (pa_cons (pe_ix ix_list (pv 3) pe_int (fun _ _ => rfl)) (pa_cons (pe_ix ix_list (pv 3) pe_int (fun _ _ => rfl)) (pa_cons (pe_ix ix_list (pv 3) pe_int (fun _ _ => rfl)) pa_nil)))))))
      (pss_cut (ps_set (i := 5) scLaw.nd rfl (.inl rfl) (pe_makeK0 MGauge GGauge hrGauge (by rfl) gC kbGauge pass0 (pk_cons (pe_ix ix_list (pv 3) pe_int (fun _ _ => rfl)) (pk_cons (pe_ix ix_list (pv 3) pe_int (fun _ _ => rfl)) (pk_cons (pe_ix ix_list (pv 3) pe_int (fun _ _ => rfl)) (pk_cons (pe_ix ix_list (pv 3) pe_int (fun _ _ => rfl)) (pk_cons (pe_ix ix_list (pv 3) pe_int (fun _ _ => rfl)) pk_nil)))))))
      (pss_cons (ps_set (i := 6) scLaw.nd rfl (.inl rfl) (pe_call G_law_readings hr_law_readings (by rfl) g_law_readings F_law_readings.kp b_law_readings .nil pass0 (pa_cons (pv 1) (pa_cons (pe_call G_law_of hr_law_of (by rfl) g_law_of F_law_of.kp b_law_of .nil pass0 (pa_cons (pv 1) (pa_cons (pe_lst (pa_cons pe_int (pa_cons pe_int (pa_cons pe_int (pa_cons pe_int pa_nil))))) pa_nil))) pa_nil))))
      (pss_cut (ps_set (i := 7) scLaw.nd rfl (.inl rfl) (pe_callTy call_list_of (by rfl) T.mlist (by decide +kernel) (pa_cons (pv 6) pa_nil)))
      (pss_cons (ps_set (i := 8) scLaw.nd rfl (.inr rfl) (pe_lst (pa_cons pe_int (pa_cons (pe_op op_pow pe_int pe_int) pa_nil))))
      (pss_cut (ps_for PassesOwn.never rfl (pi_list (pv 6)) (pg_name (i := 9) scLaw.nd rfl (.inl rfl))
      (pss_cons (ps_set (i := 10) scLaw.nd rfl (.inl rfl) (pe_op op_add (pe_ix ix_tup (pv 9) pe_int (fun _ _ => rfl)) (pe_ix ix_list (pe_lst (pa_cons pe_int (pa_cons (pe_ix ix_list (pv 3) pe_int (fun _ _ => rfl)) pa_nil))) (pe_callTy call_int1 (by rfl) T.mint (by decide +kernel) (pa_cons (pe_cmpR op_eq (pe_ix ix_tup (pv 9) pe_int (fun _ _ => rfl)) pe_str (nomark _)) pa_nil)) (fun _ _ => rfl))))
      (pss_one (ps_expr (pe_bm PySem.F.plainAttrs_list PySem.F.slot_list_extend PySem.F.type_list_extend mt_extend (pv 8) (pa_cons (pe_lst (pa_cons (pv 10) (pa_cons (pe_op op_add (pv 10) pe_int) (pa_cons (pe_callB (call_max2 rfl) (by rfl) T.mmax (by decide +kernel) (pa_cons pe_int (pa_cons (pe_op op_sub (pv 10) pe_int) pa_nil))) (pa_cons (pe_ix ix_tup (pv 9) pe_int (fun _ _ => rfl)) pa_nil))))) pa_nil))))))
      (pss_cut (ps_if (pt_cmpR op_gt (pe_callB call_len_seq (by rfl) T.mlen PySem.boot_len (pa_cons (pv 8) pa_nil)) pe_int (nomark _))
      (pss_one (ps_set (i := 8) scLaw.nd rfl (.inr rfl) (pe_lc (own := [("_law_turns", 13)]) (g := gName 13) (tt := tYes) rfl scLaw.nd (pi_range1 (by rfl) T.mrange (pa_cons pe_int pa_nil)) (blkOk_by (N := NLaw) (own := [("_law_turns", 13)]) (sc := defScope sLaw) (by decide +kernel)) (fun _ _ _ _ _ => pg_name (i := 13) scLaw.nd rfl (Or.inl rfl)) (fun _ _ _ _ _ => pts_nil) (fun _ _ _ _ _ => (pe_call G_law_of hr_law_of (by rfl) g_law_of F_law_of.kp b_law_of .nil pass0 (pa_cons (pv 1) (pa_cons (pv 8) pa_nil)))))))
      pss_nil)
      (pss_cut (ps_for PassesOwn.never rfl (pi_list (pv 8)) (pg_name (i := 11) scLaw.nd rfl (.inl rfl))
      (pss_cons (ps_set (i := 12) scLaw.nd rfl (.inl rfl) (pe_call G_law_stand hr_law_stand (by rfl) g_law_stand F_law_stand.kp b_law_stand .nil pass0 (pa_cons (pv 3) (pa_cons (pv 6) (pa_cons (pv 11) pa_nil)))))
      (pss_one (ps_if (PW.pt (pw_or (pt_cmpR op_ne (pe_meth (pv 4) cstand mstand Gstand hrstand bstand .nil pass0 (pa_cons (pv 7) (pa_cons (pv 11) pa_nil))) (pv 12) (nomark _)) (pw_or1 (pt_cmpR op_ne (pe_methK0 (pv 5) cstand mstand Gstand hrstand kbstand pass0 (pk_cons (pv 11) (pk_cons (pv 7) pk_nil))) (pv 12) (nomark _)))))
      (pss_one (ps_ret pe_bl))
      pss_nil))))
      (pss_one (ps_if (PW.pt (pw_or (pt_cmpR (op_neD hr.units) (pv 7) (pv 6) (nomark _)) (pw_or1 (pt_cmpR op_ne (pe_meth (pv 4) cstand mstand Gstand hrstand bstand .nil pass0 (pa_cons (pe_lst pa_nil) (pa_cons (pe_ix ix_list (pv 8) (pe_un un_neg pe_int) (fun _ _ => rfl)) pa_nil))) pe_str (nomark _)))))
      (pss_one (ps_ret pe_bl))
      pss_nil))))))))))))
      (pss_one (ps_ret (pe_and (pe_cmpR op_eq (pe_meth (pe_make0 MGauge GGauge hrGauge (by rfl) gC bGauge0 rGauge0 pass0) cstand mstand Gstand hrstand bstand .nil pass0 (pa_cons (pe_lst (pa_cons (pe_tup (pa_cons pe_int (pa_cons pe_str (pa_cons pe_int pa_nil)))) pa_nil)) (pa_cons pe_int pa_nil))) pe_str (nomark _)) (pe_one (pe_cmpR op_eq (pe_meth (pe_make0 MGauge GGauge hrGauge (by rfl) gC bGauge0 rGauge0 pass0) cstand mstand Gstand hrstand bstand .nil pass0 (pa_cons (pe_lst (pa_cons (pe_tup (pa_cons pe_int (pa_cons pe_str (pa_cons pe_int pa_nil)))) pa_nil)) (pa_cons pe_int pa_nil))) pe_str (nomark _))))))))
      , ?_⟩
    refine ⟨_, rfl, a, ns, rfl, hS, hlen, fun tp c H1 ntp ntc s1 T1 => ?_⟩
    refine ⟨3, rfl, by decide, by decide, ?_⟩
    refine for_range (lo := 0) (n := 3) (fun i σ H2 => ∃ (v2 v3 v4 v5 v6 v7 v8 v9 v10 v11 v12 v13 : Option V), σ = [some (.ref a), some (.ref tp), v2, v3, v4, v5, v6, v7, v8, v9, v10, v11, v12, v13] ∧ Tape H2 tp c (100000 * i))
      ⟨_, _, _, _, _, _, _, _, _, _, _, _, rfl, T1⟩ ?_ ?_
    · rintro i σ H2 hi ⟨v2, v3, v4, v5, v6, v7, v8, v9, v10, v11, v12, v13, rfl, T2⟩
      -- bounds, both gauges
      refine ⟨_, rfl, tp, c, 100000 * i, rfl, by omega, T2, fun b g H3 eb g0 g1 g2 g3 g4 nbt T3 k3 => ?_⟩
      refine ⟨_, rfl, b, _, 0, _, rfl, rfl, SqL.of eb, atI_nat (j := 0) rfl, _, rfl, b, _, 1, _, rfl, rfl, SqL.of eb, atI_nat (j := 1) rfl, _, rfl, b, _, 2, _, rfl, rfl, SqL.of eb, atI_nat (j := 2) rfl, _, rfl, b, _, 3, _, rfl, rfl, SqL.of eb, atI_nat (j := 3) rfl, _, rfl, b, _, 4, _, rfl, rfl, SqL.of eb, atI_nat (j := 4) rfl, ?_⟩
      intro x1 dx1 hx1 hdx1 ne1
      refine ⟨x1, dx1, g, rfl, upd_same, fun H4 hg1 k4 => ⟨rfl, ?_⟩⟩
      have s4 := made_same hx1 hdx1 k4
      have eb4 := s4 _ _ eb
      refine ⟨fun σ H5 => ∃ (x2 : Addr), σ = [some (.ref a), some (.ref tp), some (.int (0 + (i : Int))), some (.ref b), some (.ref x1), some (.ref x2), v6, v7, v8, v9, v10, v11, v12, v13] ∧ GgAt C H5 x2 g ∧ Same H4 H5, ?_, ?_⟩
      · refine ⟨_, rfl, b, _, 4, _, rfl, rfl, SqL.of eb4, atI_nat (j := 4) rfl, _, rfl, b, _, 3, _, rfl, rfl, SqL.of eb4, atI_nat (j := 3) rfl, _, rfl, b, _, 2, _, rfl, rfl, SqL.of eb4, atI_nat (j := 2) rfl, _, rfl, b, _, 1, _, rfl, rfl, SqL.of eb4, atI_nat (j := 1) rfl, _, rfl, b, _, 0, _, rfl, rfl, SqL.of eb4, atI_nat (j := 0) rfl, rfl, rfl, ?_⟩
        intro x2 dx2 hx2 hdx2 ne2
        exact ⟨x2, dx2, g, rfl, upd_same, fun H5 hg2 k5 => ⟨rfl, x2, rfl, hg2, made_same hx2 hdx2 k5⟩⟩
      rintro σ H5 ⟨x2, rfl, hg2, s5⟩
      have T5 := (T3.same s4).same s5
      have eb5 := s5 _ _ eb4
      have hg15 := hg1.same s5
      -- the readings, handed in as a list of its own
      refine ⟨_, rfl, _, rfl, by show 4 ≤ sizeLine; decide, fun l hl => ?_⟩
      refine ⟨tp, c, l, _, _, rfl, upd_same, T5.ne hl, by show 0 < 4; decide, by show 4 < 1000000; decide, by omega, T5.new hl, fun j x H6 hx T6 k6 => ?_⟩
      obtain ⟨z, rfl, hz0, hz1⟩ := pickI (xs := [16, 16, 16, 151]) (lo := 16) (hi := 151) (by simp) hx
      refine ⟨tp, c, z, _, rfl, by omega, by omega, by omega, T6, fun p rs H7 hp hl5 hall npt hpn T7 k7 => ?_⟩
      have k57 : Keep tp H5 H7 := ((Keep.refl.new hl).trans k6).trans k7
      obtain ⟨_, _, _, hTp, _⟩ := T5.ex
      obtain ⟨xs, ep, rx⟩ := id hp
      have hxl := rx.len
      refine ⟨fun σ H8 => ∃ (r : Addr), σ = [some (.ref a), some (.ref tp), some (.int (0 + (i : Int))), some (.ref b), some (.ref x1), some (.ref x2), some (.ref p), some (.ref r), v8, v9, v10, v11, v12, v13] ∧ H8 r = some (.lst xs) ∧ r ≠ tp ∧ Same H7 H8, ?_, ?_⟩
      · exact ⟨_, rfl, p, _, rfl, .inl (SqL.of ep), fun r hr => ⟨r, rfl, upd_same, T7.ne hr, same_upd hr⟩⟩
      rintro σ H4 ⟨r, rfl, er4, nrt, s8⟩
      have eb4 := s8 _ _ (k57 _ _ nbt eb5)
      have hg14 := (hg15.keep hTp k57).same s8
      have hg24 := (hg2.keep hTp k57).same s8
      have ep4 := s8 _ _ ep
      have rx4 : Rds H4 xs rs := rx.mono fun x ts z => s8 _ _ z
      have T4 := (T7.same s8).mono (m := 100000 * i + 30000) (by omega)
      -- the moments
      refine ⟨_, _, rfl, rfl, ⟨by decide, by decide, by decide⟩, by show 2 ≤ sizeLine; decide, fun m hm => ?_⟩
      refine ⟨fun σ H5 => ∃ (ms : List Int) (w9 w10 : Option V), σ = [some (.ref a), some (.ref tp), some (.int (0 + (i : Int))), some (.ref b), some (.ref x1), some (.ref x2), some (.ref p), some (.ref r), some (.ref m), w9, w10, v11, v12, v13] ∧ H5 m = some (.lst (ms.map V.int)) ∧ 0 < ms.length ∧ ms.length ≤ 5000 ∧ Same H4 H5, ?_, ?_⟩
      · refine ⟨_, rfl, p, rfl, ⟨_, SqL.of (upd_at hm ep4)⟩, for_list (K := K) (a := p) (xs := xs) (fun j σ H' => ∃ (ms : List Int) (w9 w10 : Option V), σ = [some (.ref a), some (.ref tp), some (.int (0 + (i : Int))), some (.ref b), some (.ref x1), some (.ref x2), some (.ref p), some (.ref r), some (.ref m), w9, w10, v11, v12, v13] ∧ H' m = some (.lst (ms.map V.int)) ∧ ms.length = 2 + 4 * j ∧ Same H4 H')
          ⟨[0, 10 ^ 9], _, _, rfl, upd_same, rfl, same_upd hm⟩ (fun j σ H' _ ⟨_, _, _, _, _, _, z⟩ => SqL.of (z _ _ ep4)) ?_ ?_⟩
        · rintro j y σ H' hj ⟨ms, w9, w10, rfl, em, lm, sm⟩
          obtain ⟨ad, x, rfl, hx, had⟩ := rx4.at hj
          have hjl : j < xs.length := (List.getElem?_eq_some_iff.mp hj).1
          have ha := sm _ _ had
          have ebm := sm _ _ eb4
          refine ⟨_, rfl, ad, _, 0, _, rfl, rfl, SqT.of ha, atI_nat (j := 0) rfl, _, rfl, b, _, 0, _, rfl, rfl, SqL.of ebm, atI_nat (j := 0) rfl, by show 2 ≤ sizeLine; decide, fun l hl => ?_⟩
          have sl := same_upd (o := .lst [.int 0, .int g.lag]) hl
          have ha2 := sl _ _ ha
          refine ⟨_, rfl, ad, _, 1, _, rfl, rfl, SqT.of ha2, atI_nat (j := 1) rfl, rfl, .inr ⟨_, rfl, ?_⟩⟩
          have hk : ∃ (e : Int) (jj : Nat), b2i (decide (V.str (kindS x.w) = V.str "water")) = (jj : Int) ∧ ([.int 0, .int g.lag] : List V)[jj]? = some (.int e) := by
            cases decide (V.str (kindS x.w) = V.str "water")
            · exact ⟨0, 0, rfl, rfl⟩
            · exact ⟨g.lag, 1, rfl, rfl⟩
          obtain ⟨e, jj, hj1, hj2⟩ := hk
          refine ⟨l, _, (jj : Int), _, rfl, congrArg V.int hj1, SqL.of upd_same, atI_nat hj2, _, _, rfl, rfl, ?_⟩
          have em2 := sl _ _ em
          refine ⟨_, rfl, .inl ⟨rfl, _, SqL.of em2⟩, _, rfl, _, rfl, _, _, rfl, rfl, _, rfl, _, _, rfl, rfl, _, _, rfl, _, rfl, ad, _, 0, _, rfl, rfl, SqT.of ha2, atI_nat (j := 0) rfl, by show 4 ≤ sizeLine; decide, fun l2 hl2 => ?_⟩
          have sl2 := same_upd (H := upd H' l (.lst [.int 0, .int g.lag])) (o := .lst [.int (x.m + e), .int (x.m + e + 1), .int (if x.m + e - 1 > 0 then x.m + e - 1 else 0), .int x.m]) hl2
          refine ⟨m, l2, _, _, rfl, rfl, sl2 _ _ em2, upd_same, Nat.le_trans (show (ms.map V.int).length + 4 ≤ 10000 by rw [List.length_map]; omega) (by decide), ?_⟩
          refine ⟨ms ++ [x.m + e, x.m + e + 1, if x.m + e - 1 > 0 then x.m + e - 1 else 0, x.m], _, _, rfl, ?_, by rw [List.length_append, lm]; show 2 + 4 * j + 4 = _; omega, fun y o z => ?_⟩
          · rw [upd_same, List.map_append]; rfl
          · rw [upd_ne (ne_of_none z hm)]
            exact sl2 _ _ (sl _ _ (sm _ _ z))
        · rintro σ H' ⟨ms, w9, w10, rfl, em, lm, sm⟩
          exact ⟨ms, w9, w10, rfl, em, by omega, by omega, sm⟩
      have nmt := T4.ne hm
      rintro σ H5 ⟨ms, w9, w10, rfl, em, lm0, lm1, s45⟩
      have T5 := T4.same s45
      -- a few of them, if they are many
      refine ⟨fun σ H6 => ∃ (m : Addr) (ms : List Int) (w13 : Option V), σ = [some (.ref a), some (.ref tp), some (.int (0 + (i : Int))), some (.ref b), some (.ref x1), some (.ref x2), some (.ref p), some (.ref r), some (.ref m), w9, w10, v11, v12, w13] ∧ H6 m = some (.lst (ms.map V.int)) ∧ 0 < ms.length ∧ ms.length ≤ 5000 ∧ Tape H6 tp c (100000 * i + 30100) ∧ Keep tp H4 H6, ?_, ?_⟩
      · refine ⟨_, rfl, m, _, rfl, .inl (SqL.of em), _, _, rfl, rfl, _, rfl, ite2 (fun _ => ?_) (fun _ => ⟨m, ms, v13, rfl, em, lm0, lm1, T5.mono (by omega), fun y o _ z => s45 _ _ z⟩)⟩
        refine ⟨60, rfl, by decide, by decide, fun D hD => ?_⟩
        have nDa : D ≠ tp := T5.ne hD
        have nDc : D ≠ c := T5.nec hD
        have nDm : m ≠ D := ne_of_none em hD
        refine lc_range (lo := 0) (n := 60) (fun i2 H' => ∃ ys : List Int, ys.length = i2 ∧ H' D = some (.lst (ys.map V.int)) ∧ H' m = some (.lst (ms.map V.int)) ∧ Tape H' tp c (100000 * i + 30000 + i2) ∧ Keep tp H5 H')
          ⟨[], rfl, upd_same, upd_at hD em, T5.new hD, Keep.refl.new hD⟩ ?_ ?_
        · rintro i2 H' hi2 ⟨ys, ly, eD, eM, Ti, ki⟩
          refine ⟨rfl, _, rfl, _, rfl, tp, c, m, _, _, rfl, eM, nmt, by rw [List.length_map]; exact lm0, by rw [List.length_map]; omega, by omega, Ti, fun j x H6 hx T6 k6 => ?_⟩
          rw [List.getElem?_map] at hx
          cases hx2 : ms[j]? with
          | none => rw [hx2] at hx; cases hx
          | some z =>
            rw [hx2] at hx
            cases hx
            refine ⟨_, k6 _ _ nDa eD, by rw [List.length_map]; exact Nat.lt_of_lt_of_le (show ys.length < 100 by omega) (small_line (by decide)), ys ++ [z], by rw [List.length_append, ly]; rfl, ?_, ?_, ?_, ?_⟩
            · rw [upd_same, List.map_append]; rfl
            · rw [upd_ne nDm]; exact k6 _ _ nmt eM
            · exact (T6.upd nDa nDc).mono (by omega)
            · exact fun x o nx e => by rw [upd_ne (ne_of_none e hD)]; exact k6 x o nx (ki x o nx e)
        · rintro H' ⟨ys, ly, eD, eM, Ti, ki⟩
          exact ⟨D, ys, _, rfl, eD, by omega, by omega, Ti.mono (by omega), fun y o ny z => ki y o ny (s45 _ _ z)⟩
      rintro σ H6 ⟨m, ms, w13, rfl, em6, lm60, lm61, T6, k46⟩
      obtain ⟨_, _, _, hTp4, _⟩ := T4.ex
      have eb6 := k46 _ _ nbt eb4
      have hg16 := hg14.keep hTp4 k46
      have hg26 := hg24.keep hTp4 k46
      have ep6 := k46 _ _ npt ep4
      have er6 := k46 _ _ nrt er4
      have rx6 : Rds H6 xs rs := rx4.mono fun x ts z => k46 _ _ (ne_of z hTp4 (by intro z; cases z)) z
      -- each moment
      refine ⟨fun σ H7 => ∃ (w11 w12 : Option V), σ = [some (.ref a), some (.ref tp), some (.int (0 + (i : Int))), some (.ref b), some (.ref x1), some (.ref x2), some (.ref p), some (.ref r), some (.ref m), w9, w10, w11, w12, w13] ∧ Same H6 H7, ?_, ?_⟩
      · refine ⟨_, rfl, m, rfl, ⟨_, SqL.of em6⟩, for_list (K := K) (a := m) (xs := ms.map V.int) (fun j σ H' => ∃ (w11 w12 : Option V), σ = [some (.ref a), some (.ref tp), some (.int (0 + (i : Int))), some (.ref b), some (.ref x1), some (.ref x2), some (.ref p), some (.ref r), some (.ref m), w9, w10, w11, w12, w13] ∧ Same H6 H')
          ⟨_, _, rfl, same_refl⟩ (fun j σ H' _ ⟨_, _, _, z⟩ => SqL.of (z _ _ em6)) ?_ ?_⟩
        · rintro j y σ H' hj ⟨w11, w12, rfl, s7⟩
          rw [List.getElem?_map] at hj
          cases hx2 : ms[j]? with
          | none => rw [hx2] at hj; cases hj
          | some z =>
            rw [hx2] at hj
            cases hj
            have rp : ∀ H9, Same H6 H9 → RdsAt H9 p rs := fun H9 s9 => ⟨xs, s9 _ _ ep6, rx6.mono fun x ts z => s9 _ _ z⟩
            have rr : ∀ H9, Same H6 H9 → RdsAt H9 r rs := fun H9 s9 => ⟨xs, s9 _ _ er6, rx6.mono fun x ts z => s9 _ _ z⟩
            refine ⟨_, rfl, _, rfl, _, rfl, b, p, g, rs, z, rfl, s7 _ _ eb6, rp _ s7, hl5, hall, fun H9 s9 => ?_⟩
            have s69 := s7.trans s9
            obtain ⟨dx1', ex1⟩ := hg16.same s69
            obtain ⟨dx2', ex2⟩ := hg26.same s69
            refine ⟨_, rfl, x1, dx1', _, rfl, ex1, ggF_stand g, _, rfl, _, rfl, x1, r, g, rs, z, rfl, ⟨dx1', ex1⟩, rr _ s69, _, rfl, rfl, _, rfl, ?_⟩
            have e0 : (!decide (V.str (standG g rs z) = V.str (standG g rs z))) = false := by rw [decide_eq_true rfl]; rfl
            rw [e0]
            refine iteF ⟨_, rfl, x2, dx2', _, rfl, ex2, ggF_stand g, _, rfl, _, rfl, x2, r, g, rs, z, rfl, ⟨dx2', ex2⟩, rr _ s69, _, rfl, rfl, _, rfl, ?_⟩
            rw [e0]
            exact iteF ⟨_, _, rfl, s69⟩
        · rintro σ H' ⟨w11, w12, rfl, s7⟩
          exact ⟨w11, w12, rfl, s7⟩
      rintro σ H7 ⟨w11, w12, rfl, s7⟩
      have rx7 : Rds H7 xs rs := rx6.mono fun x ts z => s7 _ _ z
      refine ⟨_, rfl, _, rfl, .list (rs.map rdD), .list (rs.map rdD), .lst (SqL.of (s7 _ _ er6)) (rds_dp rx7), .lst (SqL.of (s7 _ _ ep6)) (rds_dp rx7), rds_shaped rs, rds_shaped rs, _, rfl, ?_⟩
      rw [rds_refl]
      obtain ⟨dx1', ex1⟩ := hg16.same s7
      refine iteF ⟨_, rfl, x1, dx1', _, rfl, ex1, ggF_stand g, Nat.zero_le _, fun l hl => ?_⟩
      have em7 := upd_at (o := .lst []) hl (s7 _ _ em6)
      have hlast : ∃ z : Int, atI (ms.map V.int) (-1) = some (.int z) := by
        rcases List.eq_nil_or_concat ms with rfl | ⟨ms', z, rfl⟩
        · exact absurd lm60 (by simp)
        · exact ⟨z, by rw [List.concat_eq_append, List.map_append]; exact atI_last _ _⟩
      obtain ⟨z, hz⟩ := hlast
      refine ⟨_, rfl, _, rfl, m, _, -1, _, rfl, rfl, SqL.of em7, hz, x1, l, g, [], z, rfl, ⟨dx1', upd_at hl ex1⟩, ⟨[], upd_same, .nil⟩, rfl, _, rfl, ?_⟩
      rw [free_nil g1 g2 g3 g4]
      exact iteF ⟨_, _, _, _, _, _, _, _, _, _, _, _, rfl, ((T6.same s7).new hl).mono (by omega)⟩
    · rintro σ H2 ⟨v2, v3, v4, v5, v6, v7, v8, v9, v10, v11, v12, v13, rfl, T2⟩
      intro x1 dx1 hx1 hdx1 ne1
      refine ⟨x1, dx1, ⟨60, 200, 400, 5, 20⟩, rfl, upd_same, fun H3 hg1 k3 => ⟨rfl, ?_⟩⟩
      obtain ⟨dx1', ex1⟩ := id hg1
      have e60 : standG ⟨60, 200, 400, 5, 20⟩ [⟨0, true, 400⟩] 60 = "lost" := by decide +kernel
      have e59 : standG ⟨60, 200, 400, 5, 20⟩ [⟨0, true, 400⟩] 59 = "free" := by decide +kernel
      refine ⟨x1, dx1', _, rfl, ex1, ggF_stand _, by show 3 ≤ sizeLine; decide, fun t ht => ⟨by show 1 ≤ sizeLine; decide, fun l hl => ?_⟩⟩
      have ntl : t ≠ l := ne_of_none (upd_same (H := H3) (a := t) (o := .tup [.int 0, .str "water", .int 400])) hl
      refine ⟨x1, l, _, [⟨0, true, 400⟩], 60, rfl, ⟨dx1', upd_at hl (upd_at ht ex1)⟩, ⟨[.ref t], upd_same, .cons (r := ⟨0, true, 400⟩) (by rw [upd_ne ntl]; exact upd_same) .nil⟩, rfl, _, rfl, ?_⟩
      rw [e60, decide_eq_true rfl]
      refine iteT ?_
      intro x2 dx2 hx2 hdx2 ne2
      refine ⟨x2, dx2, ⟨60, 200, 400, 5, 20⟩, rfl, upd_same, fun H4 hg2 k4 => ⟨rfl, ?_⟩⟩
      obtain ⟨dx2', ex2⟩ := id hg2
      refine ⟨x2, dx2', _, rfl, ex2, ggF_stand _, by show 3 ≤ sizeLine; decide, fun t2 ht2 => ⟨by show 1 ≤ sizeLine; decide, fun l2 hl2 => ?_⟩⟩
      have ntl2 : t2 ≠ l2 := ne_of_none (upd_same (H := H4) (a := t2) (o := .tup [.int 0, .str "water", .int 400])) hl2
      refine ⟨x2, l2, _, [⟨0, true, 400⟩], 59, rfl, ⟨dx2', upd_at hl2 (upd_at ht2 ex2)⟩, ⟨[.ref t2], upd_same, .cons (r := ⟨0, true, 400⟩) (by rw [upd_ne ntl2]; exact upd_same) .nil⟩, rfl, ?_⟩
      rw [e59, decide_eq_true rfl]
      exact q _
end
theorem all_mk {l : PySem.W.OpenLaw} {w : World} {K : PySem.W.Frag} {h : Heap} {mg : Str → Option Value} {fa f_number_at f_law_feed f_law_draw f_law_of f_law_readings f_law_bounds f_law_last f_law_stand flaw fGauge___init__ fGauge_stand CGauge TGauge___init__ : Addr} (X : K.In h) (G : h.Ns mainGlobals mg) (hfa : mg "law" = some (.ref fa))
    {od_number_at an_number_at od_law_feed an_law_feed od_law_draw an_law_draw od_law_of an_law_of od_law_readings an_law_readings od_law_bounds an_law_bounds od_law_last an_law_last od_law_stand an_law_stand odlaw anlaw odGauge___init__ anGauge___init__ odGauge_stand anGauge_stand odTGauge___init__ : Option Addr} {sl_number_at sl_law_feed sl_law_draw sl_law_of sl_law_readings sl_law_bounds sl_law_last sl_law_stand sllaw slGauge___init__ slGauge_stand slTGauge___init__ : Array (Option Value)} {oc_number_at kV_number_at dc_number_at pm_number_at cd_number_at ct_number_at oc_law_feed kV_law_feed dc_law_feed pm_law_feed cd_law_feed ct_law_feed oc_law_draw kV_law_draw dc_law_draw pm_law_draw cd_law_draw ct_law_draw oc_law_of kV_law_of dc_law_of pm_law_of cd_law_of ct_law_of oc_law_readings kV_law_readings dc_law_readings pm_law_readings cd_law_readings ct_law_readings oc_law_bounds kV_law_bounds dc_law_bounds pm_law_bounds cd_law_bounds ct_law_bounds oc_law_last kV_law_last dc_law_last pm_law_last cd_law_last ct_law_last oc_law_stand kV_law_stand dc_law_stand pm_law_stand cd_law_stand ct_law_stand oclaw kVlaw dclaw pmlaw cdlaw ctlaw ocGauge___init__ kVGauge___init__ dcGauge___init__ pmGauge___init__ cdGauge___init__ ctGauge___init__ ocGauge_stand kVGauge_stand dcGauge_stand pmGauge_stand cdGauge_stand ctGauge_stand ocTGauge___init__ : Value} {nTGauge___init__ : Nat} {tdGauge___init___0 tdGauge___init___1 tdGauge___init___2 tdGauge___init___3 tdGauge___init___4 : Tok} {tWATER tICE tLOST tSHUT tSLOW tFREE : Tok}
    (aGauge : PySem.W.nsIn K mainGlobals "Gauge" = some (some (.ref CGauge))) (pgGauge : PySem.W.plainGet K CGauge Str.empty = true) (hdGauge : PySem.W.hasDictIn K CGauge = true) (poGauge : PySem.W.plainOver K CGauge = true) (saGauge : PySem.W.findIn K (.ref CGauge) "__setattr__" = some (some (.builtin "object.__setattr__"))) (mkGauge : PySem.W.makesIn K CGauge = true) (kcGauge : PySem.W.keepIn K (.ref CGauge) = true)
    (haGauge : PySem.W.findIn K (.ref CGauge) "__class__" = some (some (.builtin "object.__class__"))) (hnGauge : PySem.W.specialIn K (.builtin "object.__class__") "__get__" = some (some (.builtin "getset_descriptor.__get__"))) (htGauge : PySem.W.takesIn K (.builtin "object.__class__") = some true) (hmGauge : PySem.W.mroIn K CGauge (.type "object") = some true) (nfGauge : PySem.W.notFirst K CGauge (.ref CGauge) = true)
    (nGauge_lag : PySem.W.findIn K (.ref CGauge) "lag" = some none)
    (nGauge_high : PySem.W.findIn K (.ref CGauge) "high" = some none)
    (nGauge_top : PySem.W.findIn K (.ref CGauge) "top" = some none)
    (nGauge_thin : PySem.W.findIn K (.ref CGauge) "thin" = some none)
    (nGauge_thick : PySem.W.findIn K (.ref CGauge) "thick" = some none)
    (aGauge___init__ : PySem.W.findIn K (.ref CGauge) "__init__" = some (some (.ref fGauge___init__))) (iGauge___init__ : PySem.W.isFn K (.ref fGauge___init__) = true) (lGauge___init__ : K.lookup fGauge___init__ = some ⟨ocGauge___init__, odGauge___init__, .func (PySem.W.fnOf "__init__" "Gauge.__init__" (defArgs sGInit) (defBody sGInit) (defScope sGInit) (.ref TGauge___init__) kVGauge___init__ dcGauge___init__ pmGauge___init__ anGauge___init__ cdGauge___init__ ctGauge___init__), slGauge___init__⟩) (cGauge___init__ : PySem.W.codeIn K cdGauge___init__ "Gauge.__init__" = true) (kGauge___init__ : PySem.W.keepIn K (.ref fGauge___init__) = true)
    (dGauge___init__ : K.lookup TGauge___init__ = some ⟨ocTGauge___init__, odTGauge___init__, .seq #[.int 60 tdGauge___init___0, .int 200 tdGauge___init___1, .int 400 tdGauge___init___2, .int 5 tdGauge___init___3, .int 20 tdGauge___init___4] nTGauge___init__, slTGauge___init__⟩)
    (aGauge_stand : PySem.W.findIn K (.ref CGauge) "stand" = some (some (.ref fGauge_stand))) (iGauge_stand : PySem.W.isFn K (.ref fGauge_stand) = true) (lGauge_stand : K.lookup fGauge_stand = some ⟨ocGauge_stand, odGauge_stand, .func (PySem.W.fnOf "stand" "Gauge.stand" (defArgs sGStand) (defBody sGStand) (defScope sGStand) .none kVGauge_stand dcGauge_stand pmGauge_stand anGauge_stand cdGauge_stand ctGauge_stand), slGauge_stand⟩) (cGauge_stand : PySem.W.codeIn K cdGauge_stand "Gauge.stand" = true) (kGauge_stand : PySem.W.keepIn K (.ref fGauge_stand) = true)
    (a_number_at : PySem.W.nsIn K mainGlobals "_number_at" = some (some (.ref f_number_at))) (l_number_at : K.lookup f_number_at = some ⟨oc_number_at, od_number_at, .func (PySem.W.fnOf "_number_at" "_number_at" (defArgs sNumAt) (defBody sNumAt) (defScope sNumAt) .none kV_number_at dc_number_at pm_number_at an_number_at cd_number_at ct_number_at), sl_number_at⟩) (c_number_at : PySem.W.codeIn K cd_number_at "_number_at" = true) (k_number_at : PySem.W.keepIn K (.ref f_number_at) = true)
    (a_law_feed : PySem.W.nsIn K mainGlobals "_law_feed" = some (some (.ref f_law_feed))) (l_law_feed : K.lookup f_law_feed = some ⟨oc_law_feed, od_law_feed, .func (PySem.W.fnOf "_law_feed" "_law_feed" (defArgs sFeed) (defBody sFeed) (defScope sFeed) .none kV_law_feed dc_law_feed pm_law_feed an_law_feed cd_law_feed ct_law_feed), sl_law_feed⟩) (c_law_feed : PySem.W.codeIn K cd_law_feed "_law_feed" = true) (k_law_feed : PySem.W.keepIn K (.ref f_law_feed) = true)
    (a_law_draw : PySem.W.nsIn K mainGlobals "_law_draw" = some (some (.ref f_law_draw))) (l_law_draw : K.lookup f_law_draw = some ⟨oc_law_draw, od_law_draw, .func (PySem.W.fnOf "_law_draw" "_law_draw" (defArgs sDraw) (defBody sDraw) (defScope sDraw) .none kV_law_draw dc_law_draw pm_law_draw an_law_draw cd_law_draw ct_law_draw), sl_law_draw⟩) (c_law_draw : PySem.W.codeIn K cd_law_draw "_law_draw" = true) (k_law_draw : PySem.W.keepIn K (.ref f_law_draw) = true)
    (a_law_of : PySem.W.nsIn K mainGlobals "_law_of" = some (some (.ref f_law_of))) (l_law_of : K.lookup f_law_of = some ⟨oc_law_of, od_law_of, .func (PySem.W.fnOf "_law_of" "_law_of" (defArgs sOf) (defBody sOf) (defScope sOf) .none kV_law_of dc_law_of pm_law_of an_law_of cd_law_of ct_law_of), sl_law_of⟩) (c_law_of : PySem.W.codeIn K cd_law_of "_law_of" = true) (k_law_of : PySem.W.keepIn K (.ref f_law_of) = true)
    (a_law_readings : PySem.W.nsIn K mainGlobals "_law_readings" = some (some (.ref f_law_readings))) (l_law_readings : K.lookup f_law_readings = some ⟨oc_law_readings, od_law_readings, .func (PySem.W.fnOf "_law_readings" "_law_readings" (defArgs sReadings) (defBody sReadings) (defScope sReadings) .none kV_law_readings dc_law_readings pm_law_readings an_law_readings cd_law_readings ct_law_readings), sl_law_readings⟩) (c_law_readings : PySem.W.codeIn K cd_law_readings "_law_readings" = true) (k_law_readings : PySem.W.keepIn K (.ref f_law_readings) = true)
    (a_law_bounds : PySem.W.nsIn K mainGlobals "_law_bounds" = some (some (.ref f_law_bounds))) (l_law_bounds : K.lookup f_law_bounds = some ⟨oc_law_bounds, od_law_bounds, .func (PySem.W.fnOf "_law_bounds" "_law_bounds" (defArgs sBounds) (defBody sBounds) (defScope sBounds) .none kV_law_bounds dc_law_bounds pm_law_bounds an_law_bounds cd_law_bounds ct_law_bounds), sl_law_bounds⟩) (c_law_bounds : PySem.W.codeIn K cd_law_bounds "_law_bounds" = true) (k_law_bounds : PySem.W.keepIn K (.ref f_law_bounds) = true)
    (a_law_last : PySem.W.nsIn K mainGlobals "_law_last" = some (some (.ref f_law_last))) (l_law_last : K.lookup f_law_last = some ⟨oc_law_last, od_law_last, .func (PySem.W.fnOf "_law_last" "_law_last" (defArgs sLast) (defBody sLast) (defScope sLast) .none kV_law_last dc_law_last pm_law_last an_law_last cd_law_last ct_law_last), sl_law_last⟩) (c_law_last : PySem.W.codeIn K cd_law_last "_law_last" = true) (k_law_last : PySem.W.keepIn K (.ref f_law_last) = true)
    (a_law_stand : PySem.W.nsIn K mainGlobals "_law_stand" = some (some (.ref f_law_stand))) (l_law_stand : K.lookup f_law_stand = some ⟨oc_law_stand, od_law_stand, .func (PySem.W.fnOf "_law_stand" "_law_stand" (defArgs sLStand) (defBody sLStand) (defScope sLStand) .none kV_law_stand dc_law_stand pm_law_stand an_law_stand cd_law_stand ct_law_stand), sl_law_stand⟩) (c_law_stand : PySem.W.codeIn K cd_law_stand "_law_stand" = true) (k_law_stand : PySem.W.keepIn K (.ref f_law_stand) = true)
    (alaw : PySem.W.nsIn K mainGlobals "law" = some (some (.ref flaw))) (llaw : K.lookup flaw = some ⟨oclaw, odlaw, .func (PySem.W.fnOf "law" "law" (defArgs sLaw) (defBody sLaw) (defScope sLaw) .none kVlaw dclaw pmlaw anlaw cdlaw ctlaw), sllaw⟩) (claw : PySem.W.codeIn K cdlaw "law" = true) (klaw : PySem.W.keepIn K (.ref flaw) = true)
    (aWATER : PySem.W.nsIn K mainGlobals "WATER" = some (some (.str "water" tWATER)))
    (aICE : PySem.W.nsIn K mainGlobals "ICE" = some (some (.str "ice" tICE)))
    (aLOST : PySem.W.nsIn K mainGlobals "LOST" = some (some (.str "lost" tLOST)))
    (aSHUT : PySem.W.nsIn K mainGlobals "SHUT" = some (some (.str "shut" tSHUT)))
    (aSLOW : PySem.W.nsIn K mainGlobals "SLOW" = some (some (.str "slow" tSLOW)))
    (aFREE : PySem.W.nsIn K mainGlobals "FREE" = some (some (.str "free" tFREE)))
    (zlen : PySem.W.nsIn K mainGlobals "len" = some none)
    (zmax : PySem.W.nsIn K mainGlobals "max" = some none)
    (zint : PySem.W.nsIn K mainGlobals "int" = some none)
    (zlist : PySem.W.nsIn K mainGlobals "list" = some none)
    (zrange : PySem.W.nsIn K mainGlobals "range" = some none)
    (zsorted : PySem.W.nsIn K mainGlobals "sorted" = some none)
    : ∃ fd : FuncData, (∀ (s : Shared) (v : Value), BindsTo s fd ⟨[v], []⟩ [("_law_script", v)]) ∧ ∀ base : Heap, K.In base → base.Ns mainGlobals mg → FnOk l.prog w K mg base CX0 4 fa fd ["_law_script"] (spLaw K) := by
  have e := hfa.symm.trans (PySem.W.mg_of X G alaw)
  cases e
  have F_number_at := fun_mk (st := sNumAt) l_number_at c_number_at k_number_at
  have g_number_at := PySem.W.mg_of X G a_number_at
  have b_number_at := F_number_at.binds (ps := ["readings", "kind", "until"]) fun _ _ _ _ _ _ us hl => match us, hl with | [_, _, _], _ => rfl
  have F_law_feed := fun_mk (st := sFeed) l_law_feed c_law_feed k_law_feed
  have g_law_feed := PySem.W.mg_of X G a_law_feed
  have b_law_feed := F_law_feed.binds (ps := ["_law_script"]) fun _ _ _ _ _ _ us hl => match us, hl with | [_], _ => rfl
  have F_law_draw := fun_mk (st := sDraw) l_law_draw c_law_draw k_law_draw
  have g_law_draw := PySem.W.mg_of X G a_law_draw
  have b_law_draw := F_law_draw.binds (ps := ["_law_feed_here", "_law_many"]) fun _ _ _ _ _ _ us hl => match us, hl with | [_, _], _ => rfl
  have F_law_of := fun_mk (st := sOf) l_law_of c_law_of k_law_of
  have g_law_of := PySem.W.mg_of X G a_law_of
  have b_law_of := F_law_of.binds (ps := ["_law_feed_here", "_law_some"]) fun _ _ _ _ _ _ us hl => match us, hl with | [_, _], _ => rfl
  have F_law_readings := fun_mk (st := sReadings) l_law_readings c_law_readings k_law_readings
  have g_law_readings := PySem.W.mg_of X G a_law_readings
  have b_law_readings := F_law_readings.binds (ps := ["_law_feed_here", "_law_many"]) fun _ _ _ _ _ _ us hl => match us, hl with | [_, _], _ => rfl
  have F_law_bounds := fun_mk (st := sBounds) l_law_bounds c_law_bounds k_law_bounds
  have g_law_bounds := PySem.W.mg_of X G a_law_bounds
  have b_law_bounds := F_law_bounds.binds (ps := ["_law_feed_here"]) fun _ _ _ _ _ _ us hl => match us, hl with | [_], _ => rfl
  have F_law_last := fun_mk (st := sLast) l_law_last c_law_last k_law_last
  have g_law_last := PySem.W.mg_of X G a_law_last
  have b_law_last := F_law_last.binds (ps := ["_law_rows", "_law_moment"]) fun _ _ _ _ _ _ us hl => match us, hl with | [_, _], _ => rfl
  have F_law_stand := fun_mk (st := sLStand) l_law_stand c_law_stand k_law_stand
  have g_law_stand := PySem.W.mg_of X G a_law_stand
  have b_law_stand := F_law_stand.binds (ps := ["_law_bounds_here", "_law_came", "_law_moment"]) fun _ _ _ _ _ _ us hl => match us, hl with | [_, _, _], _ => rfl
  have Flaw := fun_mk (st := sLaw) llaw claw klaw
  have glaw := PySem.W.mg_of X G alaw
  have blaw := Flaw.binds (ps := ["_law_script"]) fun _ _ _ _ _ _ us hl => match us, hl with | [_], _ => rfl
  have gCGauge := PySem.W.mg_of X G aGauge
  have FGauge___init__ : FunDf_Gauge___init__ K fGauge___init__ _ := ⟨⟨_, _, _, _, _, _, _, _, _, _, rfl, lGauge___init__, cGauge___init__, .inr ⟨by simp, TGauge___init__, _, [.int 60 tdGauge___init___0, .int 200 tdGauge___init___1, .int 400 tdGauge___init___2, .int 5 tdGauge___init___3, .int 20 tdGauge___init___4], _, rfl, dGauge___init__, rfl, .cons ⟨_, rfl⟩ (.cons ⟨_, rfl⟩ (.cons ⟨_, rfl⟩ (.cons ⟨_, rfl⟩ (.cons ⟨_, rfl⟩ (.nil)))))⟩, .inl rfl⟩, kGauge___init__⟩
  have FGauge_stand := fun_mk (st := sGStand) lGauge_stand cGauge_stand kGauge_stand
  have bGauge_stand := FGauge_stand.binds (ps := ["self", "readings", "minute"]) fun _ _ _ _ _ _ us hl => match us, hl with | [_, _, _], _ => rfl
  have mWATER := PySem.W.mg_of X G aWATER
  have mICE := PySem.W.mg_of X G aICE
  have mLOST := PySem.W.mg_of X G aLOST
  have mSHUT := PySem.W.mg_of X G aSHUT
  have mSLOW := PySem.W.mg_of X G aSLOW
  have mFREE := PySem.W.mg_of X G aFREE
  have mlen := PySem.W.mg_none_of X G zlen
  have mmax := PySem.W.mg_none_of X G zmax
  have mint := PySem.W.mg_none_of X G zint
  have mlist := PySem.W.mg_none_of X G zlist
  have mrange := PySem.W.mg_none_of X G zrange
  have msorted := PySem.W.mg_none_of X G zsorted
  have kbstand := fun_kbindsN 1 FGauge_stand (ps := ["self", "readings", "minute"]) (ks := ["minute", "readings"]) (by intro z; cases z) fun _ _ _ _ _ _ us ws h1 h2 => match us, ws, h1, h2 with | [_], [_, _], _, _ => rfl
  exact ⟨_, fun s v => .of_eq rfl, fun base _ _ => ok_law Flaw ⟨mlen⟩ ⟨mlist⟩ ⟨mlen, mrange, msorted⟩ ⟨⟨_, mWATER⟩, ⟨_, mICE⟩, ⟨_, mLOST⟩, ⟨_, mSHUT⟩, ⟨_, mSLOW⟩, ⟨_, mFREE⟩⟩ ⟨mlen, mmax, mint, mlist, mrange⟩
    ⟨⟨pgGauge, hdGauge, poGauge, saGauge⟩, nGauge_lag, nGauge_high, nGauge_top, nGauge_thin, nGauge_thick, gCGauge⟩
    ⟨mkGauge, aGauge___init__, iGauge___init__, kcGauge⟩ FGauge___init__ ⟨aGauge_stand, iGauge_stand, kGauge_stand⟩ FGauge_stand bGauge_stand kbstand
    F_number_at g_number_at b_number_at F_law_feed g_law_feed b_law_feed F_law_draw g_law_draw b_law_draw F_law_of g_law_of b_law_of F_law_readings g_law_readings b_law_readings F_law_bounds g_law_bounds b_law_bounds F_law_last g_law_last b_law_last F_law_stand g_law_stand b_law_stand⟩
end Bb
open PySem PySem.W PyProof.Rows
set_option maxHeartbeats 0 in
theorem PySem.Challenge.cw_boatbridge_k42_stands_at_minutes_holds : PySem.Challenge.rw_boatbridge_k42_stands_at_minutes.Holds := by
  w_on; o_law; k_head; (case hw => w_witness2)
  k_fill
  refine L2.walk_of (l := PySem.Challenge.rw_boatbridge_k42_stands_at_minutes) (n := 63) (k := 4) (x := "_law_script") (CX := fun _ => L2.CX0) (sp := fun w => Bb.spLaw _) rfl (by decide) rfl ⟨rfl, by decide, by decide⟩ (fun w h Y => PySem.W.kIn_of Y) ?F (fun _ _ a ns hl _ hS => ⟨a, ns, rfl, hS, hl, fun _ => rfl⟩) (fun _ _ _ _ _ h => h)
  case F =>
    intro w mg fa h KX G hmg
    refine' Bb.all_mk KX G hmg ?aGauge ?pgGauge ?hdGauge ?poGauge ?saGauge ?mkGauge ?kcGauge ?haGauge ?hnGauge ?htGauge ?hmGauge ?nfGauge ?nGauge_lag ?nGauge_high ?nGauge_top ?nGauge_thin ?nGauge_thick ?aGauge___init__ ?iGauge___init__ ?lGauge___init__ ?cGauge___init__ ?kGauge___init__ ?dGauge___init__ ?aGauge_stand ?iGauge_stand ?lGauge_stand ?cGauge_stand ?kGauge_stand ?a_number_at ?l_number_at ?c_number_at ?k_number_at ?a_law_feed ?l_law_feed ?c_law_feed ?k_law_feed ?a_law_draw ?l_law_draw ?c_law_draw ?k_law_draw ?a_law_of ?l_law_of ?c_law_of ?k_law_of ?a_law_readings ?l_law_readings ?c_law_readings ?k_law_readings ?a_law_bounds ?l_law_bounds ?c_law_bounds ?k_law_bounds ?a_law_last ?l_law_last ?c_law_last ?k_law_last ?a_law_stand ?l_law_stand ?c_law_stand ?k_law_stand ?alaw ?llaw ?claw ?klaw ?aWATER ?aICE ?aLOST ?aSHUT ?aSLOW ?aFREE ?zlen ?zmax ?zint ?zlist ?zrange ?zsorted
    (case aGauge => k_is)
    (case pgGauge => k_is)
    (case hdGauge => k_is)
    (case poGauge => k_is)
    (case saGauge => k_is)
    (case mkGauge => k_is)
    (case kcGauge => k_is)
    (case haGauge => k_is)
    (case hnGauge => k_is)
    (case htGauge => k_is)
    (case hmGauge => k_is)
    (case nfGauge => k_is)
    (case nGauge_lag => k_is)
    (case nGauge_high => k_is)
    (case nGauge_top => k_is)
    (case nGauge_thin => k_is)
    (case nGauge_thick => k_is)
    (case aGauge___init__ => k_is)
    (case iGauge___init__ => k_is)
    (case lGauge___init__ => k_is)
    (case cGauge___init__ => k_is)
    (case kGauge___init__ => k_is)
    (case dGauge___init__ => k_is)
    (case aGauge_stand => k_is)
    (case iGauge_stand => k_is)
    (case lGauge_stand => k_is)
    (case cGauge_stand => k_is)
    (case kGauge_stand => k_is)
    (case a_number_at => k_is)
    (case l_number_at => k_is)
    (case c_number_at => k_is)
    (case k_number_at => k_is)
    (case a_law_feed => k_is)
    (case l_law_feed => k_is)
    (case c_law_feed => k_is)
    (case k_law_feed => k_is)
    (case a_law_draw => k_is)
    (case l_law_draw => k_is)
    (case c_law_draw => k_is)
    (case k_law_draw => k_is)
    (case a_law_of => k_is)
    (case l_law_of => k_is)
    (case c_law_of => k_is)
    (case k_law_of => k_is)
    (case a_law_readings => k_is)
    (case l_law_readings => k_is)
    (case c_law_readings => k_is)
    (case k_law_readings => k_is)
    (case a_law_bounds => k_is)
    (case l_law_bounds => k_is)
    (case c_law_bounds => k_is)
    (case k_law_bounds => k_is)
    (case a_law_last => k_is)
    (case l_law_last => k_is)
    (case c_law_last => k_is)
    (case k_law_last => k_is)
    (case a_law_stand => k_is)
    (case l_law_stand => k_is)
    (case c_law_stand => k_is)
    (case k_law_stand => k_is)
    (case alaw => k_is)
    (case llaw => k_is)
    (case claw => k_is)
    (case klaw => k_is)
    (case aWATER => k_is)
    (case aICE => k_is)
    (case aLOST => k_is)
    (case aSHUT => k_is)
    (case aSLOW => k_is)
    (case aFREE => k_is)
    (case zlen => k_is)
    (case zmax => k_is)
    (case zint => k_is)
    (case zlist => k_is)
    (case zrange => k_is)
    (case zsorted => k_is)
