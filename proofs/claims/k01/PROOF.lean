import PyProof.Rows.All
import Wide.All
import OpenK.AllK
import Wide.FinOn
import PyProof.FString3
import HandS.ForMost
import HandS.FStr
import HandS.StrMore
import HandS.IsInst
import HandS.Codes
import HandS.TryOnly
import PySem.Challenge.RW_boatbridge_k01_minutes_written
set_option Elab.async false
set_option linter.all false
set_option maxRecDepth 100000
namespace Bb
open PySem PySem.Spec PyProof.Rows L2 PySem.W
open C8 (pss_cut)
open TL (tl ext_tl partition_app partition_none)
def topS (i : Nat) : Stmt := PySem.Challenge.pw_boatbridge_k01_minutes_written.main.body.getD i (.Pass ⟨0, 0, 0, 0⟩)
abbrev sTape : Stmt := topS 11
abbrev NTape : List Str := ["_law_script"]
theorem scTape : FnScope NTape ["_law_script"] (defScope sTape) := ⟨rfl, rfl, rfl, by decide +kernel, rfl, by decide +kernel, by decide +kernel⟩
abbrev sDraw : Stmt := topS 12
abbrev NDraw : List Str := ["_law_tape_here", "_law_many", "_law_digit", "_law_turn", "_law_cell", "_law_primes", "_law_prime", "_law_mixed"]
theorem scDraw : FnScope NDraw ["_law_tape_here", "_law_many"] (defScope sDraw) := ⟨rfl, rfl, rfl, by decide +kernel, rfl, by decide +kernel, by decide +kernel⟩
abbrev sPick : Stmt := topS 13
abbrev NPick : List Str := ["_law_tape_here", "_law_some"]
theorem scPick : FnScope NPick ["_law_tape_here", "_law_some"] (defScope sPick) := ⟨rfl, rfl, rfl, by decide +kernel, rfl, by decide +kernel, by decide +kernel⟩

/-- the tape at T: the cells' list, the draws done (at most n), the rest of a great cell -/
structure Tape (H : Hp) (T : Addr) (n : Nat) : Prop where
  ex : ∃ (c : Addr) (t r : Int) (ns : List Int), H T = some (.lst [.ref c, .int t, .int r]) ∧ H c = some (.lst (ns.map V.int)) ∧ c ≠ T ∧ 0 ≤ t ∧ t ≤ n ∧ ns.length ≤ 63
/-- all but the tape stands as it stood -/
def Keep (T : Addr) (H H' : Hp) : Prop := ∀ a o, a ≠ T → H a = some o → H' a = some o
theorem Keep.refl {T : Addr} {H : Hp} : Keep T H H := fun _ _ _ e => e
theorem Keep.trans {T : Addr} {H H1 H2 : Hp} (a : Keep T H H1) (b : Keep T H1 H2) : Keep T H H2 := fun x o n e => b x o n (a x o n e)
theorem Keep.updT {T : Addr} {H H1 : Hp} {o : HO} (a : Keep T H H1) : Keep T H (upd H1 T o) := fun x o n e => by
  rw [upd_ne n]; exact a x o n e
theorem Keep.new {T : Addr} {H H1 : Hp} {p : Addr} {o : HO} (a : Keep T H H1) (h : H1 p = none) : Keep T H (upd H1 p o) := fun x o n e => by
  have z := a x o n e
  rw [upd_ne (ne_of_none z h)]; exact z
theorem Tape.mono {H : Hp} {T : Addr} {n m : Nat} (h : Tape H T n) (l : n ≤ m) : Tape H T m := by
  obtain ⟨c, t, r, ns, h1, h2, h3, h4, h5, h6⟩ := h.ex
  exact ⟨c, t, r, ns, h1, h2, h3, h4, by omega, h6⟩
theorem Tape.new {H : Hp} {T : Addr} {n : Nat} {p : Addr} {o : HO} (h : Tape H T n) (hp : H p = none) : Tape (upd H p o) T n := by
  obtain ⟨c, t, r, ns, h1, h2, h3, h4, h5, h6⟩ := h.ex
  exact ⟨c, t, r, ns, by rw [upd_ne (ne_of_none h1 hp)]; exact h1, by rw [upd_ne (ne_of_none h2 hp)]; exact h2, h3, h4, h5, h6⟩
theorem Tape.ne {H : Hp} {T : Addr} {n : Nat} {p : Addr} (h : Tape H T n) (hp : H p = none) : p ≠ T := by
  obtain ⟨c, t, r, ns, h1, _⟩ := h.ex
  exact (ne_of_none h1 hp).symm
theorem upd_at {H : Hp} {p a : Addr} {o z : HO} (hp : H p = none) (h : H a = some z) : (upd H p o) a = some z := by
  rw [upd_ne (ne_of_none h hp)]; exact h
def spTape (K : PySem.W.Frag) : Sp := fun vs H Q _ => ∃ (a : Addr) (ns : List Int), vs = [.ref a] ∧ SqL K H a (ns.map V.int) ∧ ns.length ≤ 63 ∧
  ∀ T H', H T = none → Same H H' → Tape H' T 0 → Q (.ref T) H'
def spDraw : Sp := fun vs H Q _ => ∃ (T : Addr) (b : Int) (n : Nat), vs = [.ref T, .int b] ∧ 0 < b ∧ b < 1073741824 ∧ n < 1000000 ∧ Tape H T n ∧
  ∀ d H', 0 ≤ d → d < b → Tape H' T (n + 1) → Keep T H H' → Q (.int d) H'
/-- an item of a list, any one -/
def spPick : Sp := fun vs H Q _ => ∃ (T p : Addr) (xs : List V) (n : Nat), vs = [.ref T, .ref p] ∧ H p = some (.lst xs) ∧ p ≠ T ∧ 0 < xs.length ∧ xs.length < 1000000 ∧ n < 1000000 ∧ Tape H T n ∧
  ∀ (j : Nat) (x : V) H', xs[j]? = some x → Tape H' T (n + 1) → Keep T H H' → Q x H'
theorem dp_ints {K : PySem.W.Frag} {H : Hp} : ∀ ns : List Int, DpAll K H (ns.map V.int) (ns.map PyData.int)
  | [] => .nil
  | _ :: r => .cons (.int _) (dp_ints r)
theorem cut63 {ns : List Int} (h : ns.length ≤ 63) : cutV (ns.map V.int) none (some 63) = ns.map V.int := by
  unfold cutV
  rw [HT.sIx_none, show HT.sIx (ns.map V.int).length (ns.map V.int).length (some 63) = min 63 (ns.map V.int).length from HT.sIx_nat _ _ 63, List.length_map, Nat.min_eq_right h]
  show ((ns.map V.int).take (ns.length - 0)) = _
  rw [Nat.sub_zero]
  exact List.take_of_length_le (by rw [List.length_map]; exact Nat.le_refl _)
theorem fmod_in {a b : Int} (h : 0 < b) : 0 ≤ a.fmod b ∧ a.fmod b < b := by
  rw [Int.fmod_eq_emod_of_nonneg a (Int.le_of_lt h)]; exact ⟨Int.emod_nonneg a (by omega), Int.emod_lt_of_pos a h⟩
theorem prime_at (t : Int) : ∃ (j : Nat) (p : Int), t.fmod 5 = (j : Int) ∧ ([.int 2147483647, .int 2147483629, .int 2147483587, .int 2147483579, .int 2147483563] : List V)[j]? = some (.int p) ∧ 0 < p ∧ p < 2147483648 := by
  obtain ⟨h1, h2⟩ := fmod_in (a := t) (b := 5) (by decide)
  generalize t.fmod 5 = z at h1 h2
  have : z = 0 ∨ z = 1 ∨ z = 2 ∨ z = 3 ∨ z = 4 := by omega
  rcases this with rfl | rfl | rfl | rfl | rfl
  · exact ⟨0, _, rfl, rfl, by decide, by decide⟩
  · exact ⟨1, _, rfl, rfl, by decide, by decide⟩
  · exact ⟨2, _, rfl, rfl, by decide, by decide⟩
  · exact ⟨3, _, rfl, rfl, by decide, by decide⟩
  · exact ⟨4, _, rfl, rfl, by decide, by decide⟩
/-- what the law's helpers ask of the module's names -/
structure Txt0 (mg : Str → Option Value) : Prop where
  mlen : mg "len" = none
section
variable {P : Program} {w : World} {K : PySem.W.Frag} {mg : Str → Option Value} {base : Heap}
theorem ok_draw {f : Addr} {fd : FuncData} {k : Nat} (F : Fun K "_law_draw" "_law_draw" sDraw f fd) (T : Txt0 mg) : FnOk P w K mg base CX0 (k + 1) f fd ["_law_tape_here", "_law_many"] spDraw := by
  refine F.ok scDraw (fun vs H Q E h => ?_) (fun cdv A outer s H vs Q E hr h => ?_)
  · obtain ⟨T, b, n, rfl, _⟩ := h
    rfl
  · obtain ⟨a, b, n, rfl, hb0, hb1, hn, hT, q⟩ := h
    obtain ⟨c, t, r, ns, h1, h2, h3, h4, h5, h6⟩ := hT.ex
    refine ⟨_,
      (pss_cons (ps_if (pt_cmpR op_gt (pe_ix ix_list (pv 0) pe_int (fun _ _ => rfl)) pe_int (nomark _))
      (pss_cons (ps_set (i := 2) scDraw.nd rfl (.inl rfl) (pe_op op_modN (pe_ix ix_list (pv 0) pe_int (fun _ _ => rfl)) (pv 1)))
      (pss_cons (ps_asg (pe_op op_fdivN (pe_ix ix_list (pv 0) pe_int (fun _ _ => rfl)) (pv 1)) (pg_sub (pv 0) pe_int set_list))
      (pss_one (ps_ret (pv 2)))))
      pss_nil)
      (pss_cons (ps_set (i := 3) scDraw.nd rfl (.inl rfl) (pe_ix ix_list (pv 0) pe_int (fun _ _ => rfl)))
      (pss_cut (ps_asg (pe_op op_add (pv 3) pe_int) (pg_sub (pv 0) pe_int set_list))
      (pss_cons (ps_set (i := 4) scDraw.nd rfl (.inl rfl) pe_int)
      (pss_cut (ps_if (pt_cmpR (op_neD hr.units) (pe_ix ix_list (pv 0) pe_int (fun _ _ => rfl)) (pe_lst pa_nil) (nomark _))
      (pss_one (ps_set (i := 4) scDraw.nd rfl (.inl rfl) (pe_ix ix_list (pe_ix ix_list (pv 0) pe_int (fun _ _ => rfl)) (pe_op op_modN (pv 3) (pe_callB call_len_seq (by rfl) T.mlen PySem.boot_len (pa_cons (pe_ix ix_list (pv 0) pe_int (fun _ _ => rfl)) pa_nil))) (fun _ _ => rfl))))
      pss_nil)
      (pss_cut (ps_if (PW.pt (pw_and (pt_cmpR op_ge (pv 4) (pe_op op_pow pe_int pe_int) (nomark _)) (pw_and1 (pt_cmpR op_lt (pv 3) (pe_callB call_len_seq (by rfl) T.mlen PySem.boot_len (pa_cons (pe_ix ix_list (pv 0) pe_int (fun _ _ => rfl)) pa_nil)) (nomark _)))))
      (pss_cons (ps_asg (pe_op op_fdivN (pe_op op_sub (pv 4) (pe_op op_pow pe_int pe_int)) (pv 1)) (pg_sub (pv 0) pe_int set_list))
      (pss_one (ps_ret (pe_op op_modN (pe_op op_sub (pv 4) (pe_op op_pow pe_int pe_int)) (pv 1)))))
      pss_nil)
      (pss_cons (ps_set (i := 5) scDraw.nd rfl (.inl rfl) (pe_lst (pa_cons pe_int (pa_cons pe_int (pa_cons pe_int (pa_cons pe_int (pa_cons pe_int pa_nil)))))))
      (pss_cons (ps_set (i := 6) scDraw.nd rfl (.inl rfl) (pe_ix ix_list (pv 5) (pe_op op_modN (pv 3) pe_int) (fun _ _ => rfl)))
      (pss_cut (ps_set (i := 7) scDraw.nd rfl (.inl rfl) (pe_op op_modN (pe_op op_add (pe_op op_add (pe_op op_add (pe_op op_mul (pe_op op_modN (pv 4) (pv 6)) pe_int) (pe_op op_mul (pe_op op_mul pe_int (pv 3)) (pv 3))) (pe_op op_mul pe_int (pv 3))) pe_int) (pv 6)))
      (pss_cut (ps_set (i := 7) scDraw.nd rfl (.inl rfl) (pe_op op_modN (pe_op op_mul (pv 7) (pe_op op_add (pv 7) pe_int)) (pe_ix ix_list (pv 5) (pe_op op_modN (pe_op op_add (pv 3) pe_int) pe_int) (fun _ _ => rfl))))
      (pss_one (ps_ret (pe_op op_modN (pe_op op_fdivN (pe_op op_modN (pe_op op_mul (pv 7) (pv 7)) pe_int) pe_int) (pv 1))))))))))))))
      , ?_⟩
    -- if tape[2] > 0
    refine ⟨_, rfl, a, _, 2, _, rfl, rfl, SqL.of h1, atI_nat (j := 2) rfl, _, _, rfl, rfl, _, rfl, ite2 (fun _ => ?_) (fun _ => ?_)⟩
    · obtain ⟨e1, e2⟩ := fmod_in (a := r) hb0
      refine ⟨_, rfl, a, _, 2, _, rfl, rfl, SqL.of h1, atI_nat (j := 2) rfl, _, rfl, _, _, rfl, rfl, by omega, ?_⟩
      refine ⟨_, rfl, a, _, 2, _, rfl, rfl, SqL.of h1, atI_nat (j := 2) rfl, _, rfl, _, _, rfl, rfl, ⟨by omega, by omega⟩, ?_⟩
      refine ⟨_, rfl, a, _, 2, 2, rfl, rfl, h1, rfl, ?_⟩
      refine ⟨_, rfl, q _ _ e1 e2 ⟨c, t, _, ns, upd_same, ?_, h3, h4, by omega, h6⟩ Keep.refl.updT⟩
      rw [upd_ne h3]; exact h2
    · refine ⟨_, rfl, a, _, 1, _, rfl, rfl, SqL.of h1, atI_nat (j := 1) rfl, ?_⟩
      refine ⟨fun σ H2 => σ = [some (.ref a), some (.int b), none, some (.int t), none, none, none, none] ∧ H2 a = some (.lst [.ref c, .int (t + 1), .int r]) ∧ H2 c = some (.lst (ns.map V.int)) ∧ Keep a H H2, ?_, ?_⟩
      · refine ⟨_, rfl, _, _, rfl, rfl, _, rfl, a, _, 1, 1, rfl, rfl, h1, rfl, rfl, upd_same, ?_, Keep.refl.updT⟩
        rw [upd_ne h3]; exact h2
      rintro σ H1 ⟨rfl, g1, g2, k0⟩
      -- if tape[0] != []: the two ways meet at a cell, any one
      refine ⟨fun σ H2 => ∃ cell : Int, σ = [some (.ref a), some (.int b), none, some (.int t), some (.int cell), none, none, none] ∧ H2 a = some (.lst [.ref c, .int (t + 1), .int r]) ∧ H2 c = some (.lst (ns.map V.int)) ∧ Keep a H H2, ?_, ?_⟩
      · refine ⟨_, rfl, a, _, 0, _, rfl, rfl, SqL.of g1, atI_nat (j := 0) rfl, Nat.zero_le _, fun l hl => ?_⟩
        have u1 := upd_at (o := .lst []) hl g1
        have u2 := upd_at (o := .lst []) hl g2
        refine ⟨_, .list [], .lst (SqL.of u2) (dp_ints _), .lst (SqL.of upd_same) .nil, ke_shaped_ints ns, ke_shaped_ints [], _, rfl, ?_⟩
        cases hns : ns with
        | nil => exact iteF ⟨0, rfl, u1, by rw [← hns]; exact u2, k0.new hl⟩
        | cons z zs =>
          refine iteT ?_
          rw [← hns]
          have hpos : 0 < (ns.length : Int) := by rw [hns]; simp
          refine ⟨_, rfl, a, _, 0, _, rfl, rfl, SqL.of u1, atI_nat (j := 0) rfl, _, rfl, _, rfl, a, _, 0, _, rfl, rfl, SqL.of u1, atI_nat (j := 0) rfl, c, _, rfl, .inl (SqL.of u2), _, _, rfl, rfl, ?_, ?_⟩
          · rw [List.length_map]; omega
          · obtain ⟨e1, e2⟩ := fmod_in (a := t) hpos
            obtain ⟨j, hj⟩ := Int.eq_ofNat_of_zero_le e1
            have hj2 : j < ns.length := by omega
            refine ⟨c, _, (j : Int), .int ns[j], rfl, ?_, SqL.of u2, atI_nat ?_, _, rfl, u1, u2, k0.new hl⟩
            · exact congrArg V.int (by rw [List.length_map]; exact hj)
            · rw [List.getElem?_map, List.getElem?_eq_getElem hj2]; rfl
      · rintro σ H2 ⟨cell, rfl, u1, u2, k2⟩
        -- if cell >= 10 ** 18 and turn < len(tape[0])
        have tp : ∀ (r' : Int) (H3 : Hp), H3 a = some (.lst [.ref c, .int (t + 1), .int r']) → H3 c = some (.lst (ns.map V.int)) → Tape H3 a (n + 1) := fun r' H3 x1 x2 => ⟨c, t + 1, r', ns, x1, x2, h3, by omega, by omega, h6⟩
        refine ⟨fun σ H3 => σ = [some (.ref a), some (.int b), none, some (.int t), some (.int cell), none, none, none] ∧ H3 = H2, ?_, ?_⟩
        · refine ⟨_, rfl, _, _, rfl, rfl, ⟨by decide, by decide, by decide⟩, _, _, rfl, rfl, _, rfl, ite2 (fun _ => ?_) (fun _ => iteF ⟨rfl, rfl⟩)⟩
          refine ⟨_, rfl, _, rfl, a, _, 0, _, rfl, rfl, SqL.of u1, atI_nat (j := 0) rfl, c, _, rfl, .inl (SqL.of u2), _, _, rfl, rfl, _, rfl, ite2 (fun _ => ?_) (fun _ => ⟨rfl, rfl⟩)⟩
          refine ⟨_, rfl, _, _, rfl, rfl, ⟨by decide, by decide, by decide⟩, _, _, rfl, rfl, _, rfl, _, _, rfl, rfl, ⟨by omega, by omega⟩, _, rfl, a, _, 2, 2, rfl, rfl, u1, rfl, ?_⟩
          refine ⟨_, rfl, _, _, rfl, rfl, ⟨by decide, by decide, by decide⟩, _, _, rfl, rfl, _, rfl, _, _, rfl, rfl, by omega, ?_⟩
          exact q _ _ (fmod_in hb0).1 (fmod_in hb0).2 (tp _ _ upd_same (by rw [upd_ne h3]; exact u2)) k2.updT
        · rintro σ H3 ⟨rfl, rfl⟩
          -- the five primes, the mixing
          refine ⟨by show 5 ≤ sizeLine; decide, fun l hl => ?_⟩
          have w1 := upd_at (o := .lst [.int 2147483647, .int 2147483629, .int 2147483587, .int 2147483579, .int 2147483563]) hl u1
          have w2 := upd_at (o := .lst [.int 2147483647, .int 2147483629, .int 2147483587, .int 2147483579, .int 2147483563]) hl u2
          have w3 := upd_same (H := H3) (a := l) (o := .lst [.int 2147483647, .int 2147483629, .int 2147483587, .int 2147483579, .int 2147483563])
          obtain ⟨j1, p1, ej1, ep1, hp1, hq1⟩ := prime_at t
          obtain ⟨j2, p2, ej2, ep2, hp2, hq2⟩ := prime_at (t + 2)
          refine ⟨_, rfl, _, rfl, _, _, rfl, rfl, (by show (5 : Int) ≠ 0; decide), l, _, (j1 : Int), _, rfl, congrArg V.int ej1, SqL.of w3, atI_nat ep1, ?_⟩
          have late : ∀ {A B : Prop}, A → A := fun h => h
          refine ⟨fun σ H4 => ∃ m1 : Int, 0 ≤ m1 ∧ m1 < p1 ∧ σ = [some (.ref a), some (.int b), none, some (.int t), some (.int cell), some (.ref l), some (.int p1), some (.int m1)] ∧ H4 = upd H3 l (.lst [.int 2147483647, .int 2147483629, .int 2147483587, .int 2147483579, .int 2147483563]), ?_, ?_⟩
          · refine ⟨_, rfl, _, rfl, _, _, rfl, rfl, by omega, _, _, rfl, rfl, .inr ⟨by decide, by decide⟩, _, rfl, _, _, rfl, rfl, .inl ⟨by decide, by decide⟩, _, rfl, _, _, rfl, rfl, .inr ⟨by omega, by omega⟩, _, _, rfl, rfl, _, rfl, _, _, rfl, rfl, .inl ⟨by decide, by decide⟩, _, _, rfl, rfl, _, _, rfl, rfl, _, rfl, _, _, rfl, rfl, by omega, ?_⟩
            exact ⟨_, (fmod_in hp1).1, (fmod_in hp1).2, rfl, rfl⟩
          rintro σ H4 ⟨m1, m10, m11, rfl, rfl⟩
          refine ⟨fun σ H4 => ∃ m2 : Int, 0 ≤ m2 ∧ m2 < p2 ∧ σ = [some (.ref a), some (.int b), none, some (.int t), some (.int cell), some (.ref l), some (.int p1), some (.int m2)] ∧ H4 = upd H3 l (.lst [.int 2147483647, .int 2147483629, .int 2147483587, .int 2147483579, .int 2147483563]), ?_, ?_⟩
          · refine ⟨_, rfl, _, rfl, _, _, rfl, rfl, _, _, rfl, rfl, .inl ⟨by omega, by omega⟩, _, rfl, _, rfl, _, _, rfl, rfl, _, _, rfl, rfl, (by show (5 : Int) ≠ 0; decide), l, _, (j2 : Int), _, rfl, congrArg V.int ej2, SqL.of w3, atI_nat ep2, _, _, rfl, rfl, by omega, ?_⟩
            exact ⟨_, (fmod_in hp2).1, (fmod_in hp2).2, rfl, rfl⟩
          rintro σ H4 ⟨m2, m20, m21, rfl, rfl⟩
          refine ⟨_, rfl, _, rfl, _, _, rfl, rfl, .inl ⟨by omega, by omega⟩, _, _, rfl, rfl, (by show (2147483549 : Int) ≠ 0; decide), _, _, rfl, rfl, ⟨by decide, by decide⟩, _, rfl, _, _, rfl, rfl, by omega, ?_⟩
          exact q _ _ (fmod_in hb0).1 (fmod_in hb0).2 (tp _ _ w1 w2) (k2.new hl)
/-- an item of a list by a draw -/
theorem ok_pick {f fD : Addr} {fd fdD : FuncData} {k : Nat} (F : Fun K "_law_pick" "_law_pick" sPick f fd) (T : Txt0 mg) (F_law_draw : Fun K "_law_draw" "_law_draw" sDraw fD fdD) (g_law_draw : mg "_law_draw" = some (.ref fD)) (b_law_draw : Binds K fdD ["_law_tape_here", "_law_many"] []) :
    FnOk P w K mg base CX0 (k + 2) f fd ["_law_tape_here", "_law_some"] spPick := by
  have G_law_draw : FnOk P w K mg base CX0 (k + 1) fD fdD ["_law_tape_here", "_law_many"] spDraw := ok_draw F_law_draw T
  refine F.ok scPick (fun vs H Q E h => ?_) (fun cdv A outer s H vs Q E hr h => ?_)
  · obtain ⟨T, p, xs, n, rfl, _⟩ := h
    rfl
  · obtain ⟨a, p, xs, n, rfl, hS, hpa, hx0, hx1, hn, hT, q⟩ := h
    have hr_law_draw := hr
    refine ⟨_,
      (pss_one (ps_ret (pe_ix ix_list (pv 1) (pe_call G_law_draw hr_law_draw (by rfl) g_law_draw F_law_draw.kp b_law_draw .nil pass0 (pa_cons (pv 0) (pa_cons (pe_callB call_len_seq (by rfl) T.mlen PySem.boot_len (pa_cons (pv 1) pa_nil)) pa_nil))) (fun _ _ => rfl))))
      , ?_⟩
    refine ⟨_, rfl, _, rfl, _, rfl, p, xs, rfl, .inl (SqL.of hS), a, xs.length, n, rfl, by omega, by omega, hn, hT, fun d H' d0 d1 T' k' => ?_⟩
    obtain ⟨j, rfl⟩ := Int.eq_ofNat_of_zero_le d0
    have hj : j < xs.length := by omega
    exact ⟨p, xs, (j : Int), xs[j], rfl, rfl, SqL.of (k' p _ hpa hS), atI_nat (List.getElem?_eq_getElem hj), q j _ _ (List.getElem?_eq_getElem hj) T' k'⟩
/-- the tape's making: the cells in a list of their own -/
theorem ok_tape {f : Addr} {fd : FuncData} {k : Nat} (F : Fun K "_law_tape" "_law_tape" sTape f fd) (T : Txt0 mg) : FnOk P w K mg base CX0 (k + 1) f fd ["_law_script"] (spTape K) := by
  refine F.ok scTape (fun vs H Q E h => ?_) (fun cdv A outer s H vs Q E hr h => ?_)
  · obtain ⟨a, ns, rfl, _⟩ := h
    rfl
  · obtain ⟨a, ns, rfl, hS, hlen, q⟩ := h
    refine ⟨_,
      (pss_one (ps_ret (pe_lst (pa_cons (pe_slice sl_list (pv 0) po_none (po_some pe_int)) (pa_cons pe_int (pa_cons pe_int pa_nil))))))
      , ?_⟩
    refine ⟨_, rfl, _, rfl, a, _, rfl, hS, fun p hp => ?_⟩
    refine ⟨by show 3 ≤ sizeLine; decide, fun l hl => ?_⟩
    have nlp : p ≠ l := fun e => by rw [e, upd_same] at hl; cases hl
    have hl0 : H l = none := by rw [upd_ne nlp.symm] at hl; exact hl
    refine q l _ hl0 (fun b o e => upd_at hl (upd_at hp e)) ⟨p, 0, 0, ns, upd_same, ?_, nlp, by omega, by omega, hlen⟩
    rw [upd_ne nlp, upd_same, cut63 hlen]
end
section
open PySem.Builtin PySem.Builtin.Str PySem.Builtin.Int
/-- two figures -/
def two (n : Nat) : Str := ⟨#[48 + n / 10, 48 + n % 10]⟩
theorem gives_cut {v : Value} {T : String} {k : String → Sem PySem.Fin} {m : Made} (hT : ∀ s : Shared, s.TypeIs v T)
    (hn : (Value.type T == Value.type "builtin_function_or_method") = false) (g : ∀ n, Gives (k n) m) : Gives (do let n ← typeNameOfCut 200 v; k n) m := by
  intro prog w A R s hq
  refine wpAny_bind ?_
  unfold typeNameOfCut shownTypeOf
  refine wpAny_bind (wpAny_bind (wpAny_typeOf (hT s) ?_))
  simp only [hn, Bool.false_eq_true, if_false]
  exact wpAny_pure (wpAny_pure (g _ prog w A R s hq))
set_option maxHeartbeats 4000000 in
theorem eq_02d (t u : Tok) : ∀ n : Nat, n < 60 → «int.__format__» ⟨[.int (n : Int) t, .str "02d" u], []⟩ = (do let _ ← typeNameOf (.str "02d" u); let _ ← typeNameOfCut 200 (.int (n : Int) t); retStr (two n))
  | 0, _ => by kernel_rfl
  | 1, _ => by kernel_rfl
  | 2, _ => by kernel_rfl
  | 3, _ => by kernel_rfl
  | 4, _ => by kernel_rfl
  | 5, _ => by kernel_rfl
  | 6, _ => by kernel_rfl
  | 7, _ => by kernel_rfl
  | 8, _ => by kernel_rfl
  | 9, _ => by kernel_rfl
  | 10, _ => by kernel_rfl
  | 11, _ => by kernel_rfl
  | 12, _ => by kernel_rfl
  | 13, _ => by kernel_rfl
  | 14, _ => by kernel_rfl
  | 15, _ => by kernel_rfl
  | 16, _ => by kernel_rfl
  | 17, _ => by kernel_rfl
  | 18, _ => by kernel_rfl
  | 19, _ => by kernel_rfl
  | 20, _ => by kernel_rfl
  | 21, _ => by kernel_rfl
  | 22, _ => by kernel_rfl
  | 23, _ => by kernel_rfl
  | 24, _ => by kernel_rfl
  | 25, _ => by kernel_rfl
  | 26, _ => by kernel_rfl
  | 27, _ => by kernel_rfl
  | 28, _ => by kernel_rfl
  | 29, _ => by kernel_rfl
  | 30, _ => by kernel_rfl
  | 31, _ => by kernel_rfl
  | 32, _ => by kernel_rfl
  | 33, _ => by kernel_rfl
  | 34, _ => by kernel_rfl
  | 35, _ => by kernel_rfl
  | 36, _ => by kernel_rfl
  | 37, _ => by kernel_rfl
  | 38, _ => by kernel_rfl
  | 39, _ => by kernel_rfl
  | 40, _ => by kernel_rfl
  | 41, _ => by kernel_rfl
  | 42, _ => by kernel_rfl
  | 43, _ => by kernel_rfl
  | 44, _ => by kernel_rfl
  | 45, _ => by kernel_rfl
  | 46, _ => by kernel_rfl
  | 47, _ => by kernel_rfl
  | 48, _ => by kernel_rfl
  | 49, _ => by kernel_rfl
  | 50, _ => by kernel_rfl
  | 51, _ => by kernel_rfl
  | 52, _ => by kernel_rfl
  | 53, _ => by kernel_rfl
  | 54, _ => by kernel_rfl
  | 55, _ => by kernel_rfl
  | 56, _ => by kernel_rfl
  | 57, _ => by kernel_rfl
  | 58, _ => by kernel_rfl
  | 59, _ => by kernel_rfl
  | n + 60, h => absurd h (by omega)
theorem gives_02d (n : Nat) (hn : n < 60) (t u : Tok) : Gives («int.__format__» ⟨[.int n t, .str "02d" u], []⟩) (.str (two n)) := by
  rw [eq_02d t u n hn]
  refine gives_after_typeNameOf (T := "str") (fun s => typeIs_str s _ _) (by decide) fun _ => ?_
  refine gives_cut (T := "int") (fun s => typeIs_int s _ _) (by decide) fun _ => ?_
  exact .of_eq rfl
section
variable {X : Cx}
/-- {x:02d}, x of at most two figures -/
def tFmt02 (te : TE) : TE := fun σ H Q => te σ H fun x H1 => ∃ n : Nat, x = .int n ∧ n < 60 ∧ Q (.str (two n)) H1
theorem two_len (n : Nat) : (two n).length ≤ sizeLine := by show 2 ≤ sizeLine; decide
theorem pe_fmt02 {e : Expr} {te : TE} {j : Nat} {pos p1 p2 : Pos} (he : PE X e te) : PE X (.FormattedValue e (-1) (some (.JoinedStr [.Constant (.str "02d") j p1] p2)) pos) (tFmt02 te) := by
  refine ⟨fun pins s σ H Q I h => ?_⟩
  refine wpAny_FormattedValue_spec (thn (he.run pins s σ H _ I h) fun v s1 hv => ?_)
  obtain ⟨x, H1, I1, r1, n, rfl, hn, q⟩ := hv
  obtain ⟨t, rfl⟩ := r1
  refine wpAny_JoinedStr_one (wpAny_Constant_str ⟨"02d", _, rfl, ?_⟩)
  exact wpAny_formatField_spec (by decide) (fun s' => typeIs_int s' n t) F.slot_int_format F.entry_int_format F.args_int_format_2 (fun u => gives_02d n hn t u)
    ⟨.str (two n), H1, I1.tok _, ⟨_, rfl⟩, q⟩ (by decide) (two_len n)
end
end
abbrev sShow : Stmt := topS 7
abbrev NShow : List Str := ["minute", "day", "clock", "hours", "minutes", "text"]
theorem scShow : FnScope NShow ["minute"] (defScope sShow) := ⟨rfl, rfl, rfl, by decide +kernel, rfl, by decide +kernel, by decide +kernel⟩
abbrev sRead : Stmt := topS 8
abbrev NRead : List Str := ["word", "parts", "hours", "minutes", "day", "minute", "part"]
theorem scRead : FnScope NRead ["word"] (defScope sRead) := ⟨rfl, rfl, rfl, by decide +kernel, rfl, by decide +kernel, by decide +kernel⟩
abbrev sParts : Stmt := topS 9
abbrev NParts : List Str := ["word", "clock", "plus", "day", "hours", "_", "minutes"]
theorem scParts : FnScope NParts ["word"] (defScope sParts) := ⟨rfl, rfl, rfl, by decide +kernel, rfl, by decide +kernel, by decide +kernel⟩
/-! ### minutes as texts -/
theorem Tape.same {H H' : Hp} {T : Addr} {n : Nat} (h : Tape H T n) (s : Same H H') : Tape H' T n := by
  obtain ⟨c, t, r, ns, h1, h2, h3, h4, h5, h6⟩ := h.ex
  exact ⟨c, t, r, ns, s _ _ h1, s _ _ h2, h3, h4, h5, h6⟩
theorem Keep.same {T : Addr} {H H1 H2 : Hp} (a : Keep T H H1) (b : Same H1 H2) : Keep T H H2 := fun x o n e => b x o (a x o n e)
theorem same_upd {H : Hp} {p : Addr} {o : HO} (h : H p = none) : Same H (upd H p o) := fun b x e => by
  rw [upd_ne (ne_of_none e h)]; exact e
theorem log_small {i : Int} (h : i.natAbs < 2 ^ 64) : i.natAbs.log2 < 1920 := by
  by_cases z : i.natAbs = 0
  · rw [z]; decide
  · have := (Nat.log2_lt z).mpr (Nat.lt_of_lt_of_le h (Nat.pow_le_pow_right (by decide) (by decide : 64 ≤ 1920)))
    exact this
def clockS (m : Nat) : Str := ((Str.empty ++ two (m % 1440 / 60)) ++ ":") ++ two (m % 1440 % 60)
def dayT (m : Nat) : Str := Str.ofString (toString ((m / 1440 : Nat) : Int))
def showS (m : Nat) : Str := if m / 1440 > 0 then ((Str.empty ++ clockS m) ++ "+") ++ dayT m else clockS m
theorem clock_len (m : Nat) : (clockS m).length = 5 := by
  unfold clockS
  rw [Str.length_append, Str.length_append, Str.length_append]; rfl
theorem day_len {m : Nat} (h : m < 14400000000) : (dayT m).length ≤ 8 := toString_length_le (by omega) (by decide) (by omega)
theorem small_line {n : Nat} (h : n ≤ 100) : n ≤ sizeLine := Nat.le_trans h (by decide)
theorem show_len {m : Nat} (h : m < 14400000000) : (showS m).length ≤ 14 := by
  unfold showS
  have := day_len h
  have e := clock_len m
  split
  · rw [Str.length_append, Str.length_append, Str.length_append, e]
    show 0 + 5 + 1 + (dayT m).length ≤ 14
    omega
  · omega
theorem div_nat (m n : Nat) : (m : Int) / (n : Int) = ((m / n : Nat) : Int) := rfl
theorem mod_nat (m n : Nat) : (m : Int) % (n : Int) = ((m % n : Nat) : Int) := rfl
def spShow : Sp := fun vs H Q _ => ∃ m : Nat, vs = [.int (m : Int)] ∧ m < 14400000000 ∧ ∀ H', Same H H' → Q (.str (showS m)) H'
/-- what the minutes' functions ask of the module's names -/
structure Txt1 (mg : Str → Option Value) : Prop where
  mlen : mg "len" = none
  mdivmod : mg "divmod" = none
  mstr : mg "str" = none
  mint : mg "int" = none
  misinstance : mg "isinstance" = none
  mall : mg "all" = none
  mDAY : ∃ t, mg "DAY" = some (.int 1440 t)
  mHOUR : ∃ t, mg "HOUR" = some (.int 60 t)
  mMOST_READ : ∃ t, mg "MOST_READ" = some (.int 1000000 t)
  mLONGEST_READ : ∃ t, mg "LONGEST_READ" = some (.int 9 t)
section
variable {P : Program} {w : World} {K : PySem.W.Frag} {mg : Str → Option Value} {base : Heap}
theorem ok_show {f : Addr} {fd : FuncData} {k : Nat} (F : Fun K "show_time" "show_time" sShow f fd) (T : Txt1 mg) : FnOk P w K mg base CX0 (k + 1) f fd ["minute"] spShow := by
  obtain ⟨tDAY, mDAY⟩ := T.mDAY
  obtain ⟨tHOUR, mHOUR⟩ := T.mHOUR
  refine F.ok scShow (fun vs H Q E h => ?_) (fun cdv A outer s H vs Q E hr h => ?_)
  · obtain ⟨m, rfl, _⟩ := h
    rfl
  · obtain ⟨m, rfl, hm, q⟩ := h
    refine ⟨_,
      (pss_cons (ps_asg (pe_callB call_divmod (by rfl) T.mdivmod (by decide +kernel) (pa_cons (pv 0) (pa_cons (pe_glob (v := .int 1440) (by rfl) mDAY ⟨_, rfl⟩) pa_nil))) (pg_tup rfl (pgs_cons (pg_name (i := 1) scShow.nd rfl (.inl rfl)) (pgs_cons (pg_name (i := 2) scShow.nd rfl (.inl rfl)) pgs_nil))))
      (pss_cons (ps_asg (pe_callB call_divmod (by rfl) T.mdivmod (by decide +kernel) (pa_cons (pv 2) (pa_cons (pe_glob (v := .int 60) (by rfl) mHOUR ⟨_, rfl⟩) pa_nil))) (pg_tup rfl (pgs_cons (pg_name (i := 3) scShow.nd rfl (.inl rfl)) (pgs_cons (pg_name (i := 4) scShow.nd rfl (.inl rfl)) pgs_nil))))
      (pss_cons (ps_set (i := 5) scShow.nd rfl (.inl rfl) (pe_joined (.cons (pe_fmt02 (pv 3)) (.cons pe_str (.cons (pe_fmt02 (pv 4)) .nil)))))
      (pss_cons (ps_if (pt_cmpR op_gt (pv 1) pe_int (nomark _))
      (pss_one (ps_ret (pe_joined (.cons (pe_fmt (pv 5)) (.cons pe_str (.cons (pe_fmt (pv 1)) .nil))))))
      pss_nil)
      (pss_one (ps_ret (pv 5)))))))
      , ?_⟩
    refine ⟨_, rfl, _, _, rfl, ⟨by decide, by decide⟩, fun p hp => ?_⟩
    refine ⟨p, _, rfl, .inl (.inl upd_same), rfl, _, _, rfl, _, _, rfl, rfl, ?_⟩
    refine ⟨_, rfl, _, _, rfl, ⟨by decide, by decide⟩, fun p2 hp2 => ?_⟩
    refine ⟨p2, _, rfl, .inl (.inl upd_same), rfl, _, _, rfl, _, _, rfl, rfl, ?_⟩
    have sm : Same H (upd (upd H p (.tup [.int ((m / 1440 : Nat) : Int), .int ((m % 1440 : Nat) : Int)])) p2 (.tup [.int ((m % 1440 / 60 : Nat) : Int), .int ((m % 1440 % 60 : Nat) : Int)])) := (same_upd hp).trans (same_upd hp2)
    refine ⟨_, rfl, m % 1440 / 60, rfl, by omega, _, rfl, small_line (by rw [Str.length_append]; show 0 + 2 ≤ 100; omega), _, rfl, small_line (by rw [Str.length_append, Str.length_append]; show 0 + 2 + 1 ≤ 100; omega), _, rfl, m % 1440 % 60, rfl, by omega, _, rfl, small_line (by rw [Str.length_append, Str.length_append, Str.length_append]; show 0 + 2 + 1 + 2 ≤ 100; omega), ?_⟩
    refine ⟨_, rfl, _, _, rfl, rfl, _, rfl, ite2 (fun c => ?_) (fun c => ?_)⟩
    · have c1 : m / 1440 > 0 := by
        have : (0 : Int) < ((m / 1440 : Nat) : Int) := of_decide_eq_true c
        omega
      have dl := day_len hm
      refine ⟨_, rfl, .inl ⟨clockS m, rfl, small_line (by rw [clock_len]; decide), _, rfl, small_line (by rw [Str.length_append, clock_len]; show 0 + 5 ≤ 100; omega), _, rfl, small_line (by rw [Str.length_append, Str.length_append, clock_len]; show 0 + 5 + 1 ≤ 100; omega), _, rfl, .inr ⟨_, rfl, ?_, _, rfl, small_line ?_, ?_⟩⟩⟩
      · exact log_small (show (m / 1440) < 2 ^ 64 by omega)
      · rw [Str.length_append, Str.length_append, Str.length_append, clock_len]
        show 0 + 5 + 1 + (dayT m).length ≤ 100
        omega
      · have e : showS m = ((Str.empty ++ clockS m) ++ "+") ++ dayT m := if_pos c1
        have z := q _ sm
        rw [e] at z
        exact z
    · have c1 : ¬ m / 1440 > 0 := fun z => c (decide_eq_true (show (0 : Int) < ((m / 1440 : Nat) : Int) by omega))
      have e : showS m = clockS m := if_neg c1
      have z := q _ sm
      rw [e] at z
      exact ⟨_, rfl, z⟩
end
/-! ### texts read -/
theorem emp (x : Str) : Str.empty ++ x = x := ext_tl (by show (Str.empty ++ x).cps.toList = _; rw [Str.cps_append]; simp [Str.empty])
theorem tl_app (x y : Str) : tl (x ++ y) = tl x ++ tl y := by unfold tl; rw [Str.cps_append]; simp
theorem two_free {c n : Nat} (h : n < 100) (hc : c < 48 ∨ 57 < c) : c ∉ tl (two n) := by
  intro z
  have z' : c = 48 + n / 10 ∨ c = 48 + n % 10 := by simpa [two, tl] using z
  omega
def dayS (m : Nat) : Str := if m / 1440 > 0 then dayT m else "0"
def plusS (m : Nat) : Str := if m / 1440 > 0 then "+" else ""
def restS (m : Nat) : Str := if m / 1440 > 0 then dayT m else ""
theorem tl_clock (m : Nat) : tl (clockS m) = tl (two (m % 1440 / 60)) ++ [58] ++ tl (two (m % 1440 % 60)) := by
  unfold clockS
  rw [tl_app, tl_app, emp]; rfl
theorem clock_free {m : Nat} : 43 ∉ tl (clockS m) := by
  rw [tl_clock]
  intro z
  have h1 := two_free (c := 43) (n := m % 1440 / 60) (by omega) (by omega)
  have h2 := two_free (c := 43) (n := m % 1440 % 60) (by omega) (by omega)
  simp only [List.mem_append, List.mem_singleton] at z
  rcases z with (z | z) | z
  · exact h1 z
  · exact absurd z (by decide)
  · exact h2 z
theorem part_plus (m : Nat) : Txt.partition (showS m) "+" = (clockS m, plusS m, restS m) := by
  unfold showS plusS restS
  split
  · rw [emp]
    exact partition_app (s := 43) (S := []) rfl clock_free
  · exact partition_none (s := 43) (S := []) rfl clock_free
theorem part_colon (m : Nat) : Txt.partition (clockS m) ":" = (two (m % 1440 / 60), (":" : Str), two (m % 1440 % 60)) := by
  unfold clockS
  rw [emp]
  exact partition_app (s := 58) (S := []) rfl (two_free (by omega) (by omega))
def spParts : Sp := fun vs H Q _ => ∃ m : Nat, vs = [.str (showS m)] ∧ m < 14400000000 ∧ ∀ H' p, Same H H' → H p = none → H' p = some (.lst [.str (two (m % 1440 / 60)), .str (two (m % 1440 % 60)), .str (dayS m)]) → Q (.ref p) H'
theorem nl {α : Type} {P Q : α → Prop} : True := trivial
section
variable {P : Program} {w : World} {K : PySem.W.Frag} {mg : Str → Option Value} {base : Heap}
theorem ok_parts {f : Addr} {fd : FuncData} {k : Nat} (F : Fun K "_parts" "_parts" sParts f fd) : FnOk P w K mg base CX0 (k + 1) f fd ["word"] spParts := by
  refine F.ok scParts (fun vs H Q E h => ?_) (fun cdv A outer s H vs Q E hr h => ?_)
  · obtain ⟨m, rfl, _⟩ := h
    rfl
  · obtain ⟨m, rfl, hm, q⟩ := h
    refine ⟨_,
      (pss_cons (ps_asg (pe_partition (pv 0) pe_str) (pg_tup rfl (pgs_cons (pg_name (i := 1) scParts.nd rfl (.inl rfl)) (pgs_cons (pg_name (i := 2) scParts.nd rfl (.inl rfl)) (pgs_cons (pg_name (i := 3) scParts.nd rfl (.inl rfl)) pgs_nil)))))
      (pss_cons (ps_asg (pe_partition (pv 1) pe_str) (pg_tup rfl (pgs_cons (pg_name (i := 4) scParts.nd rfl (.inl rfl)) (pgs_cons (pg_name (i := 5) scParts.nd rfl (.inl rfl)) (pgs_cons (pg_name (i := 6) scParts.nd rfl (.inl rfl)) pgs_nil)))))
      (pss_one (ps_ret (pe_lst (pa_cons (pv 4) (pa_cons (pv 6) (pa_cons (pe_ifExp (pt_cmpR op_eq (pv 2) pe_str (nomark _)) (pv 3) pe_str) pa_nil))))))))
      , ?_⟩
    refine ⟨_, rfl, ⟨_, rfl⟩, _, _, rfl, rfl, rfl, small_line (by have := show_len hm; omega), fun p hp => ?_⟩
    rw [part_plus]
    refine ⟨p, _, rfl, .inl (.inl upd_same), rfl, _, _, rfl, _, _, rfl, _, _, rfl, rfl, ?_⟩
    refine ⟨_, rfl, ⟨_, rfl⟩, _, _, rfl, rfl, rfl, small_line (by rw [clock_len]; decide), fun p2 hp2 => ?_⟩
    rw [part_colon]
    refine ⟨p2, _, rfl, .inl (.inl upd_same), rfl, _, _, rfl, _, _, rfl, _, _, rfl, rfl, ?_⟩
    have s2 := (same_upd (o := .tup [.str (clockS m), .str (plusS m), .str (restS m)]) hp).trans (same_upd (o := .tup [.str (two (m % 1440 / 60)), .str ":", .str (two (m % 1440 % 60))]) hp2)
    refine ⟨_, rfl, _, rfl, _, rfl, rfl, _, rfl, ?_⟩
    have three : ∀ x : Str, ([V.str (two (m % 1440 / 60)), .str (two (m % 1440 % 60)), .str x] : List V).length ≤ sizeLine := fun _ => small_line (by show 3 ≤ 100; decide)
    refine ite2 (fun d => ?_) (fun d => ?_)
    · have d1 : plusS m = "+" := V.str.inj (of_decide_eq_true d)
      have c : m / 1440 > 0 := by
        by_cases c : m / 1440 > 0
        · exact c
        · exact absurd ((show plusS m = "" from if_neg c).symm.trans d1) (by decide)
      have e : restS m = dayS m := (show restS m = dayT m from if_pos c).trans (show dayS m = dayT m from if_pos c).symm
      refine ⟨_, rfl, three _, fun l hl => q _ l (s2.trans (same_upd hl)) (s2.free hl) ?_⟩
      rw [← e]; exact upd_same
    · have c : ¬ m / 1440 > 0 := fun c => d (decide_eq_true (congrArg V.str (show plusS m = "+" from if_pos c)))
      have e : (("0" : Str)) = dayS m := (show dayS m = "0" from if_neg c).symm
      refine ⟨three _, fun l hl => q _ l (s2.trans (same_upd hl)) (s2.free hl) ?_⟩
      rw [← e]; exact upd_same
/-! read_time -/
theorem dec_two : ∀ n : Nat, n < 60 → Txt.isdecimal (two n) = true ∧ PySem.intText? (two n) = some (n : Int) ∧ (two n).length = 2 := by decide +kernel
theorem dec_day : ∀ n : Nat, n < 695 → Txt.isdecimal (Str.ofString (toString (n : Int))) = true ∧ PySem.intText? (Str.ofString (toString (n : Int))) = some (n : Int) := by decide +kernel
end
/-! ### read_time of what show_time tells -/
def spRead : Sp := fun vs H Q _ => ∃ m : Nat, vs = [.str (showS m)] ∧ m ≤ 1000000 ∧ ∀ H', Same H H' → Q (.int (m : Int)) H'
theorem dayS_dec {m : Nat} (h : m ≤ 1000000) : Txt.isdecimal (dayS m) = true ∧ PySem.intText? (dayS m) = some ((m / 1440 : Nat) : Int) ∧ (dayS m).length ≤ 8 := by
  by_cases c : m / 1440 > 0
  · have e : dayS m = dayT m := if_pos c
    rw [e]
    obtain ⟨a, b⟩ := dec_day (m / 1440) (by omega)
    exact ⟨a, b, day_len (by omega)⟩
  · have e : dayS m = "0" := if_neg c
    have z : m / 1440 = 0 := by omega
    rw [e, z]
    exact ⟨by decide +kernel, by decide +kernel, by decide⟩
theorem show_len9 {m : Nat} (h : m ≤ 1000000) : (showS m).length ≤ 9 := by
  unfold showS
  split
  · have := toString_length_le (v := ((m / 1440 : Nat) : Int)) (by omega) (k := 3) (by decide) (by omega)
    rw [Str.length_append, Str.length_append, Str.length_append, clock_len]
    show 0 + 5 + 1 + (dayT m).length ≤ 9
    unfold dayT
    omega
  · rw [clock_len]; decide
section
variable {P : Program} {w : World} {K : PySem.W.Frag} {mg : Str → Option Value} {base : Heap}
theorem ok_read {f fS fP : Addr} {fd fdS fdP : FuncData} {k : Nat} (F : Fun K "read_time" "read_time" sRead f fd) (T : Txt1 mg)
    (Fshow_time : Fun K "show_time" "show_time" sShow fS fdS) (gshow_time : mg "show_time" = some (.ref fS)) (bshow_time : Binds K fdS ["minute"] [])
    (F_parts : Fun K "_parts" "_parts" sParts fP fdP) (g_parts : mg "_parts" = some (.ref fP)) (b_parts : Binds K fdP ["word"] []) :
    FnOk P w K mg base CX0 (k + 2) f fd ["word"] spRead := by
  have Gshow_time : FnOk P w K mg base CX0 (k + 1) fS fdS ["minute"] spShow := ok_show Fshow_time T
  have G_parts : FnOk P w K mg base CX0 (k + 1) fP fdP ["word"] spParts := ok_parts F_parts
  obtain ⟨tDAY, mDAY⟩ := T.mDAY
  obtain ⟨tHOUR, mHOUR⟩ := T.mHOUR
  obtain ⟨tMOST_READ, mMOST_READ⟩ := T.mMOST_READ
  obtain ⟨tLONGEST_READ, mLONGEST_READ⟩ := T.mLONGEST_READ
  refine F.ok scRead (fun vs H Q E h => ?_) (fun cdv A outer s H vs Q E hr h => ?_)
  · obtain ⟨m, rfl, _⟩ := h
    rfl
  · obtain ⟨m, rfl, hm, q⟩ := h
    have hrshow_time := hr
    have hr_parts := hr
    refine ⟨_,
      (pss_cons (ps_if (PW.pt (pw_or (pt_not (pt_val (pe_callB call_isi (by rfl) T.misinstance (by decide +kernel) (pa_cons (pv 0) (pa_cons (pe_bltn (v := .ty "str") (u := .type "str") (by rfl) T.mstr (by decide +kernel) rfl) pa_nil))))) (pw_or1 (pt_cmpR op_gt (pe_callB call_len_str (by rfl) T.mlen PySem.boot_len (pa_cons (pv 0) pa_nil)) (pe_glob (v := .int 9) (by rfl) mLONGEST_READ ⟨_, rfl⟩) (nomark _)))))
      (pss_one ps_never)
      pss_nil)
      (pss_cons (ps_set (i := 1) scRead.nd rfl (.inl rfl) (pe_call G_parts hr_parts (by rfl) g_parts F_parts.kp b_parts .nil pass0 (pa_cons (pv 0) pa_nil)))
      (pss_cons (ps_if (pt_not (pt_val (pe_callB (cr_all rfl) (by rfl) T.mall (by decide +kernel) (pa_cons (pe_lc (own := [("part", 6)]) (g := gName 6) (tt := tYes) rfl scRead.nd (pi_list (pv 1)) (blkOk_by (N := NRead) (own := [("part", 6)]) (sc := defScope sRead) (by decide +kernel)) (fun _ _ _ _ _ => pg_name (i := 6) scRead.nd rfl (Or.inl rfl)) (fun _ _ _ _ _ => pts_nil) (fun _ _ _ _ _ => (pe_m0 PySem.F.slot_str_isdecimal PySem.F.type_str_isdecimal mt_isdecimal (pv 6)))) pa_nil))))
      (pss_one ps_never)
      pss_nil)
      (pss_cons (ps_asg (pe_lc (own := [("part", 6)]) (g := gName 6) (tt := tYes) rfl scRead.nd (pi_list (pv 1)) (blkOk_by (N := NRead) (own := [("part", 6)]) (sc := defScope sRead) (by decide +kernel)) (fun _ _ _ _ _ => pg_name (i := 6) scRead.nd rfl (Or.inl rfl)) (fun _ _ _ _ _ => pts_nil) (fun _ _ _ _ _ => (pe_callTy call_int_str (by rfl) T.mint (by decide +kernel) (pa_cons (pv 6) pa_nil)))) (pg_lst rfl (pgs_cons (pg_name (i := 2) scRead.nd rfl (.inl rfl)) (pgs_cons (pg_name (i := 3) scRead.nd rfl (.inl rfl)) (pgs_cons (pg_name (i := 4) scRead.nd rfl (.inl rfl)) pgs_nil)))))
      (pss_cons (ps_set (i := 5) scRead.nd rfl (.inl rfl) (pe_op op_add (pe_op op_add (pe_op op_mul (pv 4) (pe_glob (v := .int 1440) (by rfl) mDAY ⟨_, rfl⟩)) (pe_op op_mul (pv 2) (pe_glob (v := .int 60) (by rfl) mHOUR ⟨_, rfl⟩))) (pv 3)))
      (pss_cons (ps_if (PW.pt (pw_or (pt_cmpR op_gt (pv 5) (pe_glob (v := .int 1000000) (by rfl) mMOST_READ ⟨_, rfl⟩) (nomark _)) (pw_or1 (pt_cmpR op_ne (pe_call Gshow_time hrshow_time (by rfl) gshow_time Fshow_time.kp bshow_time .nil pass0 (pa_cons (pv 5) pa_nil)) (pv 0) (nomark _)))))
      (pss_one ps_never)
      pss_nil)
      (pss_one (ps_ret (pv 5)))))))))
      , ?_⟩
    refine ⟨_, rfl, _, _, _, _, true, rfl, .ty "str", .base (.str _), kit_ty (by decide +kernel), _, rfl, ?_⟩
    have l9 := show_len9 hm
    refine ⟨_, rfl, _, rfl, small_line (by omega), _, _, rfl, rfl, _, rfl, ?_⟩
    refine ite2 (fun d => absurd (of_decide_eq_true d) (by omega)) (fun _ => ?_)
    -- parts = _parts(word)
    refine ⟨_, rfl, m, rfl, by omega, fun H1 p s1 np ep => ?_⟩
    obtain ⟨i1, n1, l1⟩ := dec_two (m % 1440 / 60) (by omega)
    obtain ⟨i2, n2, l2⟩ := dec_two (m % 1440 % 60) (by omega)
    obtain ⟨i3, n3, l3⟩ := dayS_dec hm
    -- all([..])
    refine ⟨_, rfl, p, rfl, ⟨_, SqL.of ep⟩, fun D nD => ?_⟩
    refine lc_list (K := K) (a := p) (xs := [.str (two (m % 1440 / 60)), .str (two (m % 1440 % 60)), .str (dayS m)])
      (fun i H2 => Same H1 H2 ∧ H2 D = some (.lst (List.replicate i (V.bl true)))) ⟨same_upd nD, upd_same⟩ (fun i H2 _ z => SqL.of (z.1 _ _ ep)) ?_ ?_
    · rintro i x H2 hx ⟨s2, e2⟩
      have hy : ∃ y : Str, x = .str y ∧ Txt.isdecimal y = true := by
        rcases i with _ | _ | _ | i
        · exact ⟨_, (Option.some.inj hx).symm, i1⟩
        · exact ⟨_, (Option.some.inj hx).symm, i2⟩
        · exact ⟨_, (Option.some.inj hx).symm, i3⟩
        · exact absurd hx (by simp)
      obtain ⟨y, rfl, dy⟩ := hy
      have hi : i < 3 := by
        have := (List.getElem?_eq_some_iff.mp hx).1
        exact this
      refine ⟨rfl, ?_⟩
      refine ⟨_, rfl, ⟨_, rfl⟩, y, rfl, rfl, trivial, _, e2, by rw [List.length_replicate]; exact Nat.lt_of_lt_of_le hi (small_line (by decide)), fun b o e => ?_, ?_⟩
      · rw [upd_ne (ne_of_none e nD)]; exact s2 b o e
      · rw [upd_same, dy, List.replicate_succ']
    · rintro H2 ⟨s2, e2⟩
      refine ⟨D, [true, true, true], rfl, SqL.of e2, _, rfl, ?_⟩
      -- hours, minutes, day
      refine ⟨_, rfl, p, rfl, ⟨_, SqL.of (s2 _ _ ep)⟩, fun D2 nD2 => ?_⟩
      refine lc_list (K := K) (a := p) (xs := [.str (two (m % 1440 / 60)), .str (two (m % 1440 % 60)), .str (dayS m)])
        (fun i H3 => Same H2 H3 ∧ H3 D2 = some (.lst (([.int ((m % 1440 / 60 : Nat) : Int), .int ((m % 1440 % 60 : Nat) : Int), .int ((m / 1440 : Nat) : Int)] : List V).take i))) ⟨same_upd nD2, upd_same⟩ (fun i H3 _ z => SqL.of (z.1 _ _ (s2 _ _ ep))) ?_ ?_
      · rintro i x H3 hx ⟨s3, e3⟩
        have hy : ∃ (y : Str) (n : Nat), x = .str y ∧ PySem.intText? y = some (n : Int) ∧ y.length ≤ 640 ∧ ([.int ((m % 1440 / 60 : Nat) : Int), .int ((m % 1440 % 60 : Nat) : Int), .int ((m / 1440 : Nat) : Int)] : List V)[i]? = some (.int (n : Int)) := by
          rcases i with _ | _ | _ | i
          · exact ⟨_, _, (Option.some.inj hx).symm, n1, by omega, rfl⟩
          · exact ⟨_, _, (Option.some.inj hx).symm, n2, by omega, rfl⟩
          · exact ⟨_, _, (Option.some.inj hx).symm, n3, by omega, rfl⟩
          · exact absurd hx (by simp)
        obtain ⟨y, n, rfl, dy, ly, ey⟩ := hy
        have hi : i < 3 := (List.getElem?_eq_some_iff.mp ey).1
        refine ⟨rfl, ?_⟩
        refine ⟨_, rfl, y, _, rfl, dy, ly, _, e3, ?_, fun b o e => ?_, ?_⟩
        · exact Nat.lt_of_le_of_lt (List.length_take_le _ _) (Nat.lt_of_lt_of_le hi (small_line (by decide)))
        · rw [upd_ne (ne_of_none e nD2)]; exact s3 b o e
        · rw [upd_same, List.take_add_one, ey]; rfl
      · rintro H3 ⟨s3, e3⟩
        refine ⟨D2, _, rfl, SqL.of e3, rfl, _, _, rfl, _, _, rfl, _, _, rfl, rfl, ?_⟩
        refine ⟨_, rfl, _, _, rfl, rfl, .inr ⟨by decide, by decide⟩, _, rfl, _, _, rfl, rfl, .inr ⟨by decide, by decide⟩, _, _, rfl, rfl, _, rfl, _, _, rfl, rfl, ?_⟩
        have em : (((m / 1440 : Nat) : Int) * 1440 + ((m % 1440 / 60 : Nat) : Int) * 60 + ((m % 1440 % 60 : Nat) : Int)) = (m : Int) := by omega
        refine ⟨_, rfl, _, _, rfl, rfl, _, rfl, ite2 (fun d => absurd (of_decide_eq_true d) ?_) (fun _ => ?_)⟩
        · show ¬ ((1000000 : Int) < (((m / 1440 : Nat) : Int) * 1440 + ((m % 1440 / 60 : Nat) : Int) * 60 + ((m % 1440 % 60 : Nat) : Int)))
          omega
        refine ⟨_, rfl, m, congrArg (fun z => [V.int z]) em, by omega, fun H4 s4 => ⟨_, rfl, rfl, _, rfl, iteNS rfl ⟨_, rfl, ?_⟩⟩⟩
        have z := q H4 (((s1.trans s2).trans s3).trans s4)
        rw [← em] at z
        exact z
end
/-! ### a call with keywords alone -/
section
variable {X : Cx} {CX : CXT} {k : Nat} {f : Addr} {fd : FuncData} {ps ks : List Str} {sp : Sp} {E : XK} {x : Str} {p pos : Pos} {kws : List Keyword} {tk : TA} {g : List Value → List Value → List Value} {gV : List V → List V → List V}
theorem pe_callK0 (F : FnOk X.prog X.w X.K X.mg X.base CX k f fd ps sp) (hr : Room k X.A) (hg : Gl X x) (hm : X.mg x = some (.ref f)) (hk : PySem.W.keepIn X.K (.ref f) = true) (hb : KBinds X.K fd ps ks g gV) (hx : Passes CX X E)
    (hkw : PK X kws tk) (hall : (backToKw pos (keywordEach kws X.env)).all (·.1.isSome) = true := by rfl) (hks : (backToKw pos (keywordEach kws X.env)).filterMap (·.1) = ks := by rfl)
    (hdb : (x == ("__debug__" : Str)) = false := by decide)
    (hpl : ((backTo pos (starEach [] X.env)).any (·.1) || (backToKw pos (keywordEach kws X.env)).any (·.1.isNone)) = false := by rfl) :
    PE X (.Call (.Name x p) [] kws pos) (tCallK sp gV E tNil tk) := by
  refine ⟨fun pins s σ H Q I h => ?_⟩
  refine wpAny_Call_Name_kw (ld_glob I hg hm ?_ hdb)
  refine PySem.W.callWith_KW0 (h₀ := X.base) I.ok.mod.kin hk hall ?_ hpl
  refine thn (hkw.run pos pins s σ H _ I h) fun ws s2 ⟨zs, H2, I2, rz, q2⟩ => ⟨I2.kIn, ?_⟩
  rw [hks]
  exact run_fnk F hr hb hx I2 .nil rz q2
/-- keywords in the parameters' own order -/
theorem fun_kbinds {K : Frag} {x qual : Str} {st : Stmt} {f : Addr} {fd : FuncData} {ps ks : List Str} (F : Fun K x qual st f fd)
    (h : ∀ (kV doc pm : Value) (an : Option Addr) (cdv ct : Value) (us ws : List Value), (us ++ ws).length = ps.length → bindArgs (PySem.W.fnOf x qual (defArgs st) (defBody st) (defScope st) .none kV doc pm an cdv ct) ⟨us, ks.zip ws⟩ = pure (ps.zip (us ++ ws))) :
    KBinds K fd ps ks (· ++ ·) (· ++ ·) := by
  obtain ⟨oc, od, kV, doc, pm, an, cdv, ct, osl, rfl, lk, hcd⟩ := F.ex
  exact ⟨fun s us ws _ hl => .of_eq (h kV doc pm an cdv ct us ws hl), fun a b => a.append b⟩
theorem vals_rev : ∀ {zs : List V} {ws : List Value}, Vals zs ws → Vals zs.reverse ws.reverse
  | _, _, .nil => .nil
  | _, _, .cons r t => by
    rw [List.reverse_cons, List.reverse_cons]
    exact (vals_rev t).append (.cons r .nil)
/-- all by keywords -/
def kwAll {α : Type} (n : Nat) (us ws : List α) : List α := if us.length = 0 ∧ ws.length = n then ws else []
theorem kwAll_vals {n : Nat} {vs zs : List V} {us ws : List Value} (a : Vals vs us) (b : Vals zs ws) : Vals (kwAll n vs zs) (kwAll n us ws) := by
  unfold kwAll
  rw [a.length, b.length]
  split
  · exact b
  · exact .nil
theorem fun_kbindsA {K : Frag} {x qual : Str} {st : Stmt} {f : Addr} {fd : FuncData} {ps ks : List Str} (F : Fun K x qual st f fd) (hn : ps ≠ [])
    (h : ∀ (kV doc pm : Value) (an : Option Addr) (cdv ct : Value) (ws : List Value), ws.length = ps.length → bindArgs (PySem.W.fnOf x qual (defArgs st) (defBody st) (defScope st) .none kV doc pm an cdv ct) ⟨[], ks.zip ws⟩ = pure (ps.zip ws)) :
    KBinds K fd ps ks (kwAll ps.length) (kwAll ps.length) := by
  obtain ⟨oc, od, kV, doc, pm, an, cdv, ct, osl, rfl, lk, hcd⟩ := F.ex
  refine ⟨fun s us ws _ hl => ?_, kwAll_vals⟩
  unfold kwAll at hl ⊢
  split at hl
  · rename_i c
    rw [if_pos c, List.eq_nil_of_length_eq_zero c.1]
    exact .of_eq (h kV doc pm an cdv ct ws c.2)
  · exact absurd (List.eq_nil_of_length_eq_zero hl.symm) hn
/-- all by keywords, in the parameters' order turned about -/
theorem fun_kbindsR {K : Frag} {x qual : Str} {st : Stmt} {f : Addr} {fd : FuncData} {ps ks : List Str} (F : Fun K x qual st f fd) (hn : ps ≠ [])
    (h : ∀ (kV doc pm : Value) (an : Option Addr) (cdv ct : Value) (ws : List Value), ws.length = ps.length → bindArgs (PySem.W.fnOf x qual (defArgs st) (defBody st) (defScope st) .none kV doc pm an cdv ct) ⟨[], ks.zip ws⟩ = pure (ps.zip ws.reverse)) :
    KBinds K fd ps ks (fun us ws => (kwAll ps.length us ws).reverse) (fun us ws => (kwAll ps.length us ws).reverse) := by
  obtain ⟨oc, od, kV, doc, pm, an, cdv, ct, osl, rfl, lk, hcd⟩ := F.ex
  refine ⟨fun s us ws _ hl => ?_, fun a b => vals_rev (kwAll_vals a b)⟩
  rw [List.length_reverse] at hl
  unfold kwAll at hl ⊢
  split at hl
  · rename_i c
    rw [if_pos c, List.eq_nil_of_length_eq_zero c.1]
    exact .of_eq (h kV doc pm an cdv ct ws c.2)
  · exact absurd (List.eq_nil_of_length_eq_zero hl.symm) hn
end
abbrev sTwo : Stmt := topS 14
abbrev NTwo : List Str := ["_law_number"]
theorem scTwo : FnScope NTwo ["_law_number"] (defScope sTwo) := ⟨rfl, rfl, rfl, by decide +kernel, rfl, by decide +kernel, by decide +kernel⟩
abbrev sTime : Stmt := topS 15
abbrev NTime : List Str := ["_law_when", "_law_shown"]
theorem scTime : FnScope NTime ["_law_when"] (defScope sTime) := ⟨rfl, rfl, rfl, by decide +kernel, rfl, by decide +kernel, by decide +kernel⟩
abbrev sWhole : Stmt := topS 16
abbrev NWhole : List Str := ["_law_thing"]
theorem scWhole : FnScope NWhole ["_law_thing"] (defScope sWhole) := ⟨rfl, rfl, rfl, by decide +kernel, rfl, by decide +kernel, by decide +kernel⟩
abbrev sMinute : Stmt := topS 17
abbrev NMinute : List Str := ["_law_tape_here", "_law_day", "_law_some"]
theorem scMinute : FnScope NMinute ["_law_tape_here"] (defScope sMinute) := ⟨rfl, rfl, rfl, by decide +kernel, rfl, by decide +kernel, by decide +kernel⟩
abbrev sLaw : Stmt := topS 18
abbrev NLaw : List Str := ["_law_script", "_law_tape_here", "_law_ahead", "_law_turn", "_law_when", "_law_text", "_law_found", "_law_far"]
theorem scLaw : FnScope NLaw ["_law_script"] (defScope sLaw) := ⟨rfl, rfl, rfl, by decide +kernel, rfl, by decide +kernel, by decide +kernel⟩
/-! ### the law's own figures -/
theorem fmod_nat (m n : Nat) : (m : Int).fmod (n : Int) = ((m % n : Nat) : Int) := by rw [Int.fmod_eq_emod_of_nonneg _ (by omega)]; rfl
theorem fdiv_nat (m n : Nat) : (m : Int).fdiv (n : Int) = ((m / n : Nat) : Int) := by rw [Int.fdiv_eq_ediv_of_nonneg _ (by omega)]; rfl
theorem cut_two : ∀ n : Nat, n < 60 → cutS (Str.ofString (toString (100 + (n : Int)))) (some 1) none = two n := by decide +kernel
def spTwo : Sp := fun vs H Q _ => ∃ n : Nat, vs = [.int (n : Int)] ∧ n < 60 ∧ Q (.str (two n)) H
/-- what the law's text of a minute asks of the module's names -/
structure Txt2 (mg : Str → Option Value) : Prop where
  mstr : mg "str" = none
  mint : mg "int" = none
  mbool : mg "bool" = none
  misinstance : mg "isinstance" = none
structure TxtM (mg : Str → Option Value) : Prop where
  mmax : mg "max" = none
  mmin : mg "min" = none
section
variable {P : Program} {w : World} {K : PySem.W.Frag} {mg : Str → Option Value} {base : Heap}
theorem ok_two {f : Addr} {fd : FuncData} {k : Nat} (F : Fun K "_law_two" "_law_two" sTwo f fd) (T : Txt2 mg) : FnOk P w K mg base CX0 (k + 1) f fd ["_law_number"] spTwo := by
  refine F.ok scTwo (fun vs H Q E h => ?_) (fun cdv A outer s H vs Q E hr h => ?_)
  · obtain ⟨m, rfl, _⟩ := h
    rfl
  · obtain ⟨m, rfl, hm, q⟩ := h
    refine ⟨_,
      (pss_one (ps_ret (pe_slice sl_str (pe_callTy call_str_int (by rfl) T.mstr (by decide +kernel) (pa_cons (pe_op op_add pe_int (pv 0)) pa_nil)) (po_some pe_int) po_none)))
      , ?_⟩
    refine ⟨_, rfl, _, _, rfl, rfl, _, rfl, log_small (show (100 + (m : Int)).natAbs < 2 ^ 64 by omega), 1, rfl, _, rfl, ?_, ?_⟩
    · exact int_text_fits (log_small (show (100 + (m : Int)).natAbs < 2 ^ 64 by omega))
    · rw [← cut_two m hm] at q
      exact q
theorem ok_time {f fT : Addr} {fd fdT : FuncData} {k : Nat} (F : Fun K "_law_time" "_law_time" sTime f fd) (T : Txt2 mg)
    (F_law_two : Fun K "_law_two" "_law_two" sTwo fT fdT) (g_law_two : mg "_law_two" = some (.ref fT)) (b_law_two : Binds K fdT ["_law_number"] []) : FnOk P w K mg base CX0 (k + 2) f fd ["_law_when"] spShow := by
  have G_law_two : FnOk P w K mg base CX0 (k + 1) fT fdT ["_law_number"] spTwo := ok_two F_law_two T
  refine F.ok scTime (fun vs H Q E h => ?_) (fun cdv A outer s H vs Q E hr h => ?_)
  · obtain ⟨m, rfl, _⟩ := h
    rfl
  · obtain ⟨m, rfl, hm, q⟩ := h
    have hr_law_two := hr
    refine ⟨_,
      (pss_cons (ps_set (i := 1) scTime.nd rfl (.inl rfl) (pe_op op_add_str (pe_op op_add_str (pe_call G_law_two hr_law_two (by rfl) g_law_two F_law_two.kp b_law_two .nil pass0 (pa_cons (pe_op op_fdivN (pe_op op_modN (pv 0) pe_int) pe_int) pa_nil)) pe_str) (pe_call G_law_two hr_law_two (by rfl) g_law_two F_law_two.kp b_law_two .nil pass0 (pa_cons (pe_op op_modN (pv 0) pe_int) pa_nil))))
      (pss_cons (ps_if (pt_cmpR op_lt (pv 0) pe_int (nomark _))
      (pss_one (ps_ret (pv 1)))
      pss_nil)
      (pss_one (ps_ret (pe_op op_add_str (pe_op op_add_str (pv 1) pe_str) (pe_callTy call_str_int (by rfl) T.mstr (by decide +kernel) (pa_cons (pe_op op_fdivN (pv 0) pe_int) pa_nil)))))))
      , ?_⟩
    have e1 : ((m : Int).fmod 1440).fdiv 60 = ((m % 1440 / 60 : Nat) : Int) := by
      rw [show (1440 : Int) = ((1440 : Nat) : Int) from rfl, show (60 : Int) = ((60 : Nat) : Int) from rfl, fmod_nat, fdiv_nat]
    have e2 : (m : Int).fmod 60 = ((m % 1440 % 60 : Nat) : Int) := by
      rw [show (60 : Int) = ((60 : Nat) : Int) from rfl, fmod_nat]
      congr 1
      omega
    have e3 : (m : Int).fdiv 1440 = ((m / 1440 : Nat) : Int) := by
      rw [show (1440 : Int) = ((1440 : Nat) : Int) from rfl, fdiv_nat]
    have hc : (two (m % 1440 / 60) ++ ":") ++ two (m % 1440 % 60) = clockS m := by unfold clockS; rw [emp]
    refine ⟨_, rfl, _, _, rfl, rfl, (by show (1440 : Int) ≠ 0; decide), _, _, rfl, rfl, ⟨by decide, by decide⟩, m % 1440 / 60, congrArg (fun z => [V.int z]) e1, by omega, _, _, rfl, rfl, small_line (by show 2 + 1 ≤ 100; omega), ?_⟩
    refine ⟨_, rfl, _, _, rfl, rfl, (by show (60 : Int) ≠ 0; decide), m % 1440 % 60, congrArg (fun z => [V.int z]) e2, by omega, _, _, rfl, rfl, small_line (by rw [Str.length_append]; show 2 + 1 + 2 ≤ 100; omega), ?_⟩
    have z := q H (fun _ _ e => e)
    refine ⟨_, rfl, _, _, rfl, rfl, _, rfl, ite2 (fun c => ?_) (fun c => ?_)⟩
    · have c1 : (m : Int) < 1440 := of_decide_eq_true c
      have e : showS m = clockS m := if_neg (by omega)
      rw [e, ← hc] at z
      exact ⟨_, rfl, z⟩
    · have c1 : ¬ (m : Int) < 1440 := fun h => c (decide_eq_true h)
      have e : showS m = ((Str.empty ++ clockS m) ++ "+") ++ dayT m := if_pos (by omega)
      have dl := day_len hm
      rw [e, emp, ← hc] at z
      refine ⟨_, rfl, _, _, rfl, rfl, small_line (by rw [Str.length_append, Str.length_append]; show 2 + 1 + 2 + 1 ≤ 100; omega), _, rfl, _, _, rfl, rfl, ⟨by decide, by decide⟩, _, rfl, log_small (show ((m : Int).fdiv 1440).natAbs < 2 ^ 64 by rw [e3]; omega), _, _, rfl, rfl, ?_, ?_⟩
      · show (((two (m % 1440 / 60) ++ ":") ++ two (m % 1440 % 60)) ++ "+").length + (Str.ofString (toString ((m : Int).fdiv 1440))).length ≤ sizeLine
        rw [hc, e3, Str.length_append, clock_len]
        exact small_line (by show 5 + 1 + (dayT m).length ≤ 100; omega)
      · show Q (.str (((two (m % 1440 / 60) ++ ":") ++ two (m % 1440 % 60)) ++ "+" ++ Str.ofString (toString ((m : Int).fdiv 1440)))) H
        rw [e3]
        exact z
/-- a minute of one of four kinds, to 10 ** 6 -/
def spMinute : Sp := fun vs H Q _ => ∃ (a : Addr) (n : Nat), vs = [.ref a] ∧ n < 900000 ∧ Tape H a n ∧ ∀ (m : Nat) H', m ≤ 1000000 → Tape H' a (n + 4) → Keep a H H' → Q (.int (m : Int)) H'
theorem ok_minute {f fD fP : Addr} {fd fdD fdP : FuncData} {k : Nat} (F : Fun K "_law_minute" "_law_minute" sMinute f fd) (T0 : Txt0 mg) (T : TxtM mg)
    (F_law_draw : Fun K "_law_draw" "_law_draw" sDraw fD fdD) (g_law_draw : mg "_law_draw" = some (.ref fD)) (b_law_draw : Binds K fdD ["_law_tape_here", "_law_many"] [])
    (F_law_pick : Fun K "_law_pick" "_law_pick" sPick fP fdP) (g_law_pick : mg "_law_pick" = some (.ref fP)) (b_law_pick : Binds K fdP ["_law_tape_here", "_law_some"] []) :
    FnOk P w K mg base CX0 (k + 3) f fd ["_law_tape_here"] spMinute := by
  have G_law_draw : FnOk P w K mg base CX0 (k + 2) fD fdD ["_law_tape_here", "_law_many"] spDraw := ok_draw F_law_draw T0
  have G_law_pick : FnOk P w K mg base CX0 (k + 2) fP fdP ["_law_tape_here", "_law_some"] spPick := ok_pick F_law_pick T0 F_law_draw g_law_draw b_law_draw
  refine F.ok scMinute (fun vs H Q E h => ?_) (fun cdv A outer s H vs Q E hr h => ?_)
  · obtain ⟨a, n, rfl, _⟩ := h
    rfl
  · obtain ⟨a, n, rfl, hn, hT, q⟩ := h
    have hr_law_draw := hr
    have hr_law_pick := hr
    refine ⟨_,
      (pss_cons (ps_set (i := 1) scMinute.nd rfl (.inl rfl) (pe_op op_mul pe_int (pe_call G_law_draw hr_law_draw (by rfl) g_law_draw F_law_draw.kp b_law_draw .nil pass0 (pa_cons (pv 0) (pa_cons pe_int pa_nil)))))
      (pss_cons (ps_set (i := 2) scMinute.nd rfl (.inl rfl) (pe_lst (pa_cons (pe_call G_law_draw hr_law_draw (by rfl) g_law_draw F_law_draw.kp b_law_draw .nil pass0 (pa_cons (pv 0) (pa_cons (pe_op op_add (pe_op op_pow pe_int pe_int) pe_int) pa_nil))) (pa_cons (pv 1) (pa_cons (pe_callB (call_max2 rfl) (by rfl) T.mmax (by decide +kernel) (pa_cons pe_int (pa_cons (pe_op op_sub (pv 1) pe_int) pa_nil))) (pa_cons (pe_op op_add (pv 1) pe_int) (pa_cons (pe_call G_law_draw hr_law_draw (by rfl) g_law_draw F_law_draw.kp b_law_draw .nil pass0 (pa_cons (pv 0) (pa_cons pe_int pa_nil))) (pa_cons (pe_op op_pow pe_int pe_int) pa_nil))))))))
      (pss_one (ps_ret (pe_callB (call_min2 rfl) (by rfl) T.mmin (by decide +kernel) (pa_cons (pe_op op_pow pe_int pe_int) (pa_cons (pe_call G_law_pick hr_law_pick (by rfl) g_law_pick F_law_pick.kp b_law_pick .nil pass0 (pa_cons (pv 0) (pa_cons (pv 2) pa_nil))) pa_nil)))))))
      , ?_⟩
    refine ⟨_, rfl, a, 695, n, rfl, by omega, by omega, by omega, hT, fun d H1 d0 d1 T1 k1 => ⟨_, _, rfl, rfl, .inl ⟨by decide, by decide⟩, ?_⟩⟩
    refine ⟨_, rfl, _, _, rfl, rfl, ⟨by decide, by decide, by decide⟩, _, _, rfl, rfl, a, 1000001, n + 1, rfl, by omega, by omega, by omega, T1, fun d2 H2 d20 d21 T2 k2 => ?_⟩
    refine ⟨_, rfl, _, rfl, _, _, rfl, rfl, 0, _, rfl, _, rfl, _, _, rfl, rfl, _, rfl, a, 1440, n + 2, rfl, by omega, by omega, by omega, T2, fun d3 H3 d30 d31 T3 k3 => ?_⟩
    refine ⟨_, _, rfl, rfl, ⟨by decide, by decide, by decide⟩, by show 6 ≤ sizeLine; decide, fun l hl => ?_⟩
    refine ⟨_, _, rfl, rfl, ⟨by decide, by decide, by decide⟩, _, rfl, _, rfl, a, l, _, n + 3, rfl, upd_same, T3.ne hl, by show 0 < 6; decide, by show 6 < 1000000; decide, by omega, T3.new hl, fun j x H4 hx T4 k4 => ?_⟩
    have hv : ∃ z : Int, x = .int z ∧ 0 ≤ z := by
      rcases j with _ | _ | _ | _ | _ | _ | j
      · exact ⟨_, (Option.some.inj hx).symm, d20⟩
      · exact ⟨_, (Option.some.inj hx).symm, by omega⟩
      · refine ⟨_, (Option.some.inj hx).symm, ?_⟩
        show 0 ≤ (if 1440 * d - 1 > 0 then 1440 * d - 1 else 0)
        split <;> omega
      · exact ⟨_, (Option.some.inj hx).symm, by show 0 ≤ 1440 * d + 59; omega⟩
      · exact ⟨_, (Option.some.inj hx).symm, d30⟩
      · exact ⟨_, (Option.some.inj hx).symm, by decide⟩
      · exact absurd hx (by simp)
    obtain ⟨z, rfl, hz⟩ := hv
    obtain ⟨m, rfl⟩ := Int.eq_ofNat_of_zero_le hz
    refine ⟨1000000, _, rfl, ?_⟩
    have kk : Keep a H H4 := ((k1.trans k2).trans k3).trans ((Keep.refl.new hl).trans k4)
    by_cases c : (m : Int) < 1000000
    · have e : (if (m : Int) < 1000000 then (m : Int) else 1000000) = (m : Int) := if_pos c
      rw [e]
      exact q m H4 (by omega) T4 kk
    · have e : (if (m : Int) < 1000000 then (m : Int) else 1000000) = ((1000000 : Nat) : Int) := if_neg c
      rw [e]
      exact q 1000000 H4 (by omega) T4 kk
end
theorem two_inj {a b : Nat} (ha : a < 100) (hb : b < 100) (h : two a = two b) : a = b := by
  have e := congrArg (fun s => tl s) h
  have e' : [48 + a / 10, 48 + a % 10] = [48 + b / 10, 48 + b % 10] := e
  have e1 := (List.cons.inj e').1
  have e2 := (List.cons.inj (List.cons.inj e').2).1
  omega
/-- two minutes to 10 ** 6 with one text are one -/
theorem show_inj {m n : Nat} (hm : m ≤ 1000000) (hn : n ≤ 1000000) (h : showS m = showS n) : m = n := by
  have e := congrArg (fun s => Txt.partition s "+") h
  have e1 : (clockS m, plusS m, restS m) = (clockS n, plusS n, restS n) := by rw [← part_plus, ← part_plus]; exact e
  have ec : clockS m = clockS n := congrArg (·.1) e1
  have ep : plusS m = plusS n := congrArg (·.2.1) e1
  have er : restS m = restS n := congrArg (·.2.2) e1
  have f1 : (two (m % 1440 / 60), (":" : Str), two (m % 1440 % 60)) = (two (n % 1440 / 60), (":" : Str), two (n % 1440 % 60)) := by rw [← part_colon, ← part_colon, ec]
  have g1 := two_inj (by omega) (by omega) (congrArg (·.1) f1)
  have g2 := two_inj (by omega) (by omega) (congrArg (·.2.2) f1)
  have gd : m / 1440 = n / 1440 := by
    have hz : ∀ a : Nat, ¬ a / 1440 > 0 → plusS a = "" := fun a z => if_neg z
    have hp : ∀ a : Nat, a / 1440 > 0 → plusS a = "+" := fun a z => if_pos z
    by_cases cm : m / 1440 > 0
    · by_cases cn : n / 1440 > 0
      · have er' : dayT m = dayT n := (show restS m = dayT m from if_pos cm).symm.trans (er.trans (show restS n = dayT n from if_pos cn))
        have i1 := (dec_day (m / 1440) (by omega)).2
        have i2 := (dec_day (n / 1440) (by omega)).2
        have er2 : Str.ofString (toString ((m / 1440 : Nat) : Int)) = Str.ofString (toString ((n / 1440 : Nat) : Int)) := er'
        rw [er2, i2] at i1
        have := Option.some.inj i1
        omega
      · exact absurd ((hp m cm).symm.trans (ep.trans (hz n cn))) (by decide)
    · by_cases cn : n / 1440 > 0
      · exact absurd ((hz m cm).symm.trans (ep.trans (hp n cn))) (by decide)
      · omega
  omega
def spWhole : Sp := fun vs H Q _ => ∃ i : Int, vs = [.int i] ∧ Q (.bl true) H
def spLaw (K : PySem.W.Frag) : Sp := fun vs H Q _ => ∃ (a : Addr) (ns : List Int), vs = [.ref a] ∧ SqL K H a (ns.map V.int) ∧ ns.length ≤ 63 ∧ ∀ H', Q (.bl true) H'
structure TxtL (mg : Str → Option Value) : Prop where
  mlen : mg "len" = none
  mmax : mg "max" = none
  mmin : mg "min" = none
  mrange : mg "range" = none
  mstr : mg "str" = none
  misinstance : mg "isinstance" = none
section
variable {P : Program} {w : World} {K : PySem.W.Frag} {mg : Str → Option Value} {base : Heap}
theorem ok_whole {f : Addr} {fd : FuncData} {k : Nat} (F : Fun K "_law_is_whole" "_law_is_whole" sWhole f fd) (T : Txt2 mg) : FnOk P w K mg base CX0 (k + 1) f fd ["_law_thing"] spWhole := by
  refine F.ok scWhole (fun vs H Q E h => ?_) (fun cdv A outer s H vs Q E hr h => ?_)
  · obtain ⟨m, rfl, _⟩ := h
    rfl
  · obtain ⟨m, rfl, q⟩ := h
    refine ⟨_,
      (pss_one (ps_ret (pe_and (pe_callB call_isi (by rfl) T.misinstance (by decide +kernel) (pa_cons (pv 0) (pa_cons (pe_bltn (v := .ty "int") (u := .type "int") (by rfl) T.mint (by decide +kernel) rfl) pa_nil))) (pe_one (pe_not (pe_callB call_isi (by rfl) T.misinstance (by decide +kernel) (pa_cons (pv 0) (pa_cons (pe_bltn (v := .ty "bool") (u := .type "bool") (by rfl) T.mbool (by decide +kernel) rfl) pa_nil))))))))
      , ?_⟩
    refine ⟨_, rfl, _, _, _, _, true, rfl, .ty "int", .base (.int _), kit_ty (by decide +kernel), true, rfl, ?_⟩
    exact ⟨_, rfl, _, _, _, _, false, rfl, .ty "bool", .base (.int _), kit_ty (by decide +kernel), _, rfl, q⟩
theorem ok_law {f fTape fD fP fM fS fR fPa fT2 fTm fW : Addr} {fd fdTape fdD fdP fdM fdS fdR fdPa fdT2 fdTm fdW : FuncData} (F : Fun K "law" "law" sLaw f fd) (T0 : Txt0 mg) (T1 : Txt1 mg) (T2 : Txt2 mg) (TM : TxtM mg) (T : TxtL mg)
    (F_law_tape : Fun K "_law_tape" "_law_tape" sTape fTape fdTape) (g_law_tape : mg "_law_tape" = some (.ref fTape)) (b_law_tape : Binds K fdTape ["_law_script"] [])
    (F_law_draw : Fun K "_law_draw" "_law_draw" sDraw fD fdD) (g_law_draw : mg "_law_draw" = some (.ref fD)) (b_law_draw : Binds K fdD ["_law_tape_here", "_law_many"] [])
    (F_law_pick : Fun K "_law_pick" "_law_pick" sPick fP fdP) (g_law_pick : mg "_law_pick" = some (.ref fP)) (b_law_pick : Binds K fdP ["_law_tape_here", "_law_some"] [])
    (F_law_minute : Fun K "_law_minute" "_law_minute" sMinute fM fdM) (g_law_minute : mg "_law_minute" = some (.ref fM)) (b_law_minute : Binds K fdM ["_law_tape_here"] [])
    (Fshow_time : Fun K "show_time" "show_time" sShow fS fdS) (gshow_time : mg "show_time" = some (.ref fS)) (bshow_time : Binds K fdS ["minute"] [])
    (kbshow_time : KBinds K fdS ["minute"] ["minute"] (· ++ ·) (· ++ ·))
    (Fread_time : Fun K "read_time" "read_time" sRead fR fdR) (gread_time : mg "read_time" = some (.ref fR)) (bread_time : Binds K fdR ["word"] [])
    (kbread_time : KBinds K fdR ["word"] ["word"] (· ++ ·) (· ++ ·))
    (F_parts : Fun K "_parts" "_parts" sParts fPa fdPa) (g_parts : mg "_parts" = some (.ref fPa)) (b_parts : Binds K fdPa ["word"] [])
    (F_law_two : Fun K "_law_two" "_law_two" sTwo fT2 fdT2) (g_law_two : mg "_law_two" = some (.ref fT2)) (b_law_two : Binds K fdT2 ["_law_number"] [])
    (F_law_time : Fun K "_law_time" "_law_time" sTime fTm fdTm) (g_law_time : mg "_law_time" = some (.ref fTm)) (b_law_time : Binds K fdTm ["_law_when"] [])
    (F_law_is_whole : Fun K "_law_is_whole" "_law_is_whole" sWhole fW fdW) (g_law_is_whole : mg "_law_is_whole" = some (.ref fW)) (b_law_is_whole : Binds K fdW ["_law_thing"] []) :
    FnOk P w K mg base CX0 4 f fd ["_law_script"] (spLaw K) := by
  have G_law_tape : FnOk P w K mg base CX0 3 fTape fdTape ["_law_script"] (spTape K) := ok_tape F_law_tape T0
  have G_law_draw : FnOk P w K mg base CX0 3 fD fdD ["_law_tape_here", "_law_many"] spDraw := ok_draw F_law_draw T0
  have G_law_pick : FnOk P w K mg base CX0 3 fP fdP ["_law_tape_here", "_law_some"] spPick := ok_pick F_law_pick T0 F_law_draw g_law_draw b_law_draw
  have G_law_minute : FnOk P w K mg base CX0 3 fM fdM ["_law_tape_here"] spMinute := ok_minute F_law_minute T0 TM F_law_draw g_law_draw b_law_draw F_law_pick g_law_pick b_law_pick
  have Gshow_time : FnOk P w K mg base CX0 3 fS fdS ["minute"] spShow := ok_show Fshow_time T1
  have Gread_time : FnOk P w K mg base CX0 3 fR fdR ["word"] spRead := ok_read Fread_time T1 Fshow_time gshow_time bshow_time F_parts g_parts b_parts
  have G_law_time : FnOk P w K mg base CX0 3 fTm fdTm ["_law_when"] spShow := ok_time F_law_time T2 F_law_two g_law_two b_law_two
  have G_law_is_whole : FnOk P w K mg base CX0 3 fW fdW ["_law_thing"] spWhole := ok_whole F_law_is_whole T2
  refine F.ok scLaw (fun vs H Q E h => ?_) (fun cdv A outer s H vs Q E hr h => ?_)
  · obtain ⟨a, n, rfl, _⟩ := h
    rfl
  · obtain ⟨a, ns, rfl, hS, hlen, q⟩ := h
    have hr_law_tape := hr
    have hr_law_draw := hr
    have hr_law_pick := hr
    have hr_law_minute := hr
    have hrshow_time := hr
    have hrread_time := hr
    have hr_law_time := hr
    have hr_law_is_whole := hr
    refine ⟨_,
      (pss_cons (ps_set (i := 1) scLaw.nd rfl (.inl rfl) (pe_call G_law_tape hr_law_tape (by rfl) g_law_tape F_law_tape.kp b_law_tape .nil pass0 (pa_cons (pv 0) pa_nil)))
      (pss_cons (ps_set (i := 2) scLaw.nd rfl (.inl rfl) (pe_tup (pa_cons pe_int (pa_cons pe_str pa_nil))))
      (pss_cons (ps_for PassesOwn.never rfl (pi_range1 (by rfl) T.mrange (pa_cons (pe_callB (call_max2 rfl) (by rfl) T.mmax (by decide +kernel) (pa_cons pe_int (pa_cons (pe_callB (call_min2 rfl) (by rfl) T.mmin (by decide +kernel) (pa_cons (pe_callB call_len_seq (by rfl) T.mlen PySem.boot_len (pa_cons (pv 0) pa_nil)) (pa_cons pe_int pa_nil))) pa_nil))) pa_nil)) (pg_name (i := 3) scLaw.nd rfl (.inl rfl))
      (pss_cons (ps_set (i := 4) scLaw.nd rfl (.inl rfl) (pe_call G_law_minute hr_law_minute (by rfl) g_law_minute F_law_minute.kp b_law_minute .nil pass0 (pa_cons (pv 1) pa_nil)))
      (pss_cons (ps_set (i := 5) scLaw.nd rfl (.inl rfl) (pe_call Gshow_time hrshow_time (by rfl) gshow_time Fshow_time.kp bshow_time .nil pass0 (pa_cons (pv 4) pa_nil)))
      (pss_cons (ps_if (PW.pt (pw_or (pt_not (pt_val (pe_callB call_isi (by rfl) T.misinstance (by decide +kernel) (pa_cons (pv 5) (pa_cons (pe_bltn (v := .ty "str") (u := .type "str") (by rfl) T.mstr (by decide +kernel) rfl) pa_nil))))) (pw_or (pt_cmpR op_ne (pv 5) (pe_call G_law_time hr_law_time (by rfl) g_law_time F_law_time.kp b_law_time .nil pass0 (pa_cons (pv 4) pa_nil)) (nomark _)) (pw_or1 (pt_cmpR op_ne (pe_callK0 Gshow_time hrshow_time (by rfl) gshow_time Fshow_time.kp kbshow_time pass0 (pk_cons (pv 4) pk_nil)) (pv 5) (nomark _))))))
      (pss_one (ps_ret pe_bl))
      pss_nil)
      (pss_cons (ps_set (i := 6) scLaw.nd rfl (.inl rfl) (pe_call Gread_time hrread_time (by rfl) gread_time Fread_time.kp bread_time .nil pass0 (pa_cons (pv 5) pa_nil)))
      (pss_cons (ps_if (PW.pt (pw_or (pt_not (pt_val (pe_call G_law_is_whole hr_law_is_whole (by rfl) g_law_is_whole F_law_is_whole.kp b_law_is_whole .nil pass0 (pa_cons (pv 6) pa_nil)))) (pw_or (pt_cmpR op_ne (pv 6) (pv 4) (nomark _)) (pw_or1 (pt_cmpR op_ne (pe_callK0 Gread_time hrread_time (by rfl) gread_time Fread_time.kp kbread_time pass0 (pk_cons (pv 5) pk_nil)) (pv 4) (nomark _))))))
      (pss_one (ps_ret pe_bl))
      pss_nil)
      (pss_cons (ps_if (pt_cmpR op_ne (pe_cmpR op_eq (pv 4) (pe_ix ix_tup (pv 2) pe_int (fun _ _ => rfl)) (nomark _)) (pe_cmpR op_eq (pv 5) (pe_ix ix_tup (pv 2) pe_int (fun _ _ => rfl)) (nomark _)) (nomark _))
      (pss_one (ps_ret pe_bl))
      pss_nil)
      (pss_cons (ps_set (i := 2) scLaw.nd rfl (.inl rfl) (pe_tup (pa_cons (pv 4) (pa_cons (pv 5) pa_nil))))
      (pss_cons (ps_set (i := 7) scLaw.nd rfl (.inl rfl) (pe_op op_add (pe_op op_add (pe_op op_pow pe_int pe_int) pe_int) (pe_call G_law_draw hr_law_draw (by rfl) g_law_draw F_law_draw.kp b_law_draw .nil pass0 (pa_cons (pv 1) (pa_cons (pe_call G_law_pick hr_law_pick (by rfl) g_law_pick F_law_pick.kp b_law_pick .nil pass0 (pa_cons (pv 1) (pa_cons (pe_lst (pa_cons (pe_op op_pow pe_int pe_int) (pa_cons (pe_op op_mul pe_int (pe_op op_pow pe_int pe_int)) pa_nil))) pa_nil))) pa_nil)))))
      (pss_one (ps_if (pt_cmpR op_ne (pe_call Gshow_time hrshow_time (by rfl) gshow_time Fshow_time.kp bshow_time .nil pass0 (pa_cons (pv 7) pa_nil)) (pe_call G_law_time hr_law_time (by rfl) g_law_time F_law_time.kp b_law_time .nil pass0 (pa_cons (pv 7) pa_nil)) (nomark _))
      (pss_one (ps_ret pe_bl))
      pss_nil)))))))))))
      (pss_one (ps_ret pe_bl)))))
      , ?_⟩
    have ten8 : 1 + 1000000 + 900000000 < 14400000000 := by decide
    refine ⟨_, rfl, a, ns, rfl, hS, hlen, fun tp H1 ntp s1 T1 => ?_⟩
    refine ⟨by show 2 ≤ sizeLine; decide, fun pa npa => ?_⟩
    refine ⟨_, rfl, a, _, rfl, .inl ((s1.trans (same_upd npa)).seq hS), _, _, rfl, _, _, rfl, _, rfl, ?_, ?_, ?_⟩
    · show -(2 ^ 62) ≤ (if (if (20 : Int) < _ then (20 : Int) else _) > 4 then _ else (4 : Int))
      split <;> omega
    · show (if (if (20 : Int) < (((ns.map V.int).length : Nat) : Int) then (20 : Int) else (((ns.map V.int).length : Nat) : Int)) > 4 then (if (20 : Int) < (((ns.map V.int).length : Nat) : Int) then (20 : Int) else (((ns.map V.int).length : Nat) : Int)) else (4 : Int)) < 2 ^ 62
      rw [List.length_map]
      split <;> split <;> omega
    refine for_range (fun i σ H2 => ∃ (pa : Addr) (m0 : Nat) (v3 v4 v5 v6 v7 : Option V), σ = [some (.ref a), some (.ref tp), some (.ref pa), v3, v4, v5, v6, v7] ∧ Tape H2 tp (10 * i) ∧ H2 pa = some (.tup [.int (m0 : Int), .str (showS m0)]) ∧ m0 ≤ 1000000 ∧ pa ≠ tp)
      ⟨pa, 0, none, none, none, none, none, rfl, T1.new npa, upd_same, by omega, T1.ne npa⟩ ?_ ?_
    · rintro i σ H2 hi ⟨pa, m0, v3, v4, v5, v6, v7, rfl, T2, hp, hm0, np⟩
      have hi2 : i < 100 := by
        have h : (i : Int) < (if (if (20 : Int) < (((ns.map V.int).length : Nat) : Int) then (20 : Int) else (((ns.map V.int).length : Nat) : Int)) > 4 then (if (20 : Int) < (((ns.map V.int).length : Nat) : Int) then (20 : Int) else (((ns.map V.int).length : Nat) : Int)) else (4 : Int)) := Int.lt_toNat.mp hi
        rw [List.length_map] at h
        split at h <;> split at h <;> omega
      -- when, text
      refine ⟨_, rfl, tp, 10 * i, rfl, by omega, T2, fun m H3 hm T3 k3 => ?_⟩
      refine ⟨_, rfl, m, rfl, by omega, fun H4 s4 => ?_⟩
      refine ⟨_, rfl, _, _, _, _, true, rfl, .ty "str", .base (.str _), kit_ty (by decide +kernel), _, rfl, ?_⟩
      refine ⟨_, rfl, _, rfl, m, rfl, by omega, fun H5 s5 => ⟨rfl, _, rfl, iteNS rfl ?_⟩⟩
      refine ⟨_, rfl, m, rfl, by omega, fun H6 s6 => ⟨_, rfl, rfl, _, rfl, iteNS rfl ?_⟩⟩
      -- found
      refine ⟨_, rfl, m, rfl, hm, fun H7 s7 => ?_⟩
      refine ⟨_, rfl, _, rfl, _, rfl, ?_⟩
      refine ⟨_, rfl, _, rfl, rfl, _, rfl, iteNS rfl ?_⟩
      refine ⟨_, rfl, m, rfl, hm, fun H8 s8 => ⟨_, rfl, rfl, _, rfl, iteNS rfl ?_⟩⟩
      have ss : Same H3 H8 := ((((s4.trans s5).trans s6).trans s7).trans s8)
      have hp8 : H8 pa = some (.tup [.int (m0 : Int), .str (showS m0)]) := ss _ _ (k3 _ _ np hp)
      have T8 : Tape H8 tp (10 * i + 4) := T3.same ss
      refine ⟨_, rfl, _, rfl, pa, _, 0, _, rfl, rfl, SqT.of hp8, atI_nat (j := 0) rfl, rfl, _, rfl, _, rfl, pa, _, 1, _, rfl, rfl, SqT.of hp8, atI_nat (j := 1) rfl, rfl, rfl, _, rfl, iteNS (congrArg V.bl (decide_eq_decide.mpr ⟨fun e => ?_, fun e => ?_⟩)) ?_⟩
      · have e' : (m : Int) = (m0 : Int) := V.int.inj e
        have e2 : m = m0 := by omega
        rw [e2]
      · have e' : showS m = showS m0 := V.str.inj e
        rw [show_inj hm hm0 e']
      refine ⟨_, rfl, _, rfl, by show 2 ≤ sizeLine; decide, fun pb npb => ?_⟩
      have npt : pb ≠ tp := T8.ne npb
      have T9 : Tape (upd H8 pb (.tup [.int (m : Int), .str (showS m)])) tp (10 * i + 4) := T8.new npb
      have e9 : (upd H8 pb (.tup [.int (m : Int), .str (showS m)])) pb = some (.tup [.int (m : Int), .str (showS m)]) := upd_same
      -- far
      refine ⟨_, _, rfl, rfl, ⟨by decide, by decide, by decide⟩, _, _, rfl, rfl, _, rfl, _, rfl, _, _, rfl, rfl, ⟨by decide, by decide, by decide⟩, _, _, rfl, rfl, ⟨by decide, by decide, by decide⟩, _, _, rfl, rfl, .inl ⟨by decide, by decide⟩, by show 2 ≤ sizeLine; decide, fun l hl => ?_⟩
      refine ⟨tp, l, _, 10 * i + 4, rfl, upd_same, T9.ne hl, by show 0 < 2; decide, by show 2 < 1000000; decide, by omega, T9.new hl, fun j x H10 hx T10 k10 => ?_⟩
      have hv : ∃ z : Int, x = .int z ∧ 0 < z ∧ z ≤ 900000000 := by
        rcases j with _ | _ | j
        · exact ⟨_, (Option.some.inj hx).symm, by decide, by decide⟩
        · exact ⟨_, (Option.some.inj hx).symm, by decide, by decide⟩
        · exact absurd hx (by simp)
      obtain ⟨z, rfl, hz0, hz1⟩ := hv
      refine ⟨tp, z, 10 * i + 5, rfl, hz0, by omega, by omega, T10, fun d H11 d0 d1 T11 k11 => ⟨_, _, rfl, rfl, ?_⟩⟩
      obtain ⟨dn, rfl⟩ := Int.eq_ofNat_of_zero_le d0
      have ef : ((10 : Int) ^ (6 : Int).toNat + 1 + (dn : Int)) = ((1000001 + dn : Nat) : Int) := by
        show (1000000 : Int) + 1 + (dn : Int) = _
        omega
      refine ⟨_, rfl, 1000001 + dn, congrArg (fun z => [V.int z]) ef, by omega, fun H12 s12 => ?_⟩
      refine ⟨_, rfl, 1000001 + dn, congrArg (fun z => [V.int z]) ef, by omega, fun H13 s13 => ⟨rfl, _, rfl, iteNS rfl ?_⟩⟩
      have e13 : H13 pb = some (.tup [.int (m : Int), .str (showS m)]) := s13 _ _ (s12 _ _ (k11 _ _ npt (k10 _ _ npt (upd_at hl e9))))
      exact ⟨pb, m, _, _, _, _, _, rfl, ((T11.same s12).same s13).mono (by omega), e13, hm, npt⟩
    · rintro σ H2 _
      exact q H2
end
theorem all_mk {l : PySem.W.OpenLaw} {w : World} {K : PySem.W.Frag} {h : Heap} {mg : Str → Option Value} {fa fshow_time fread_time f_parts f_law_tape f_law_draw f_law_pick f_law_two f_law_time f_law_is_whole f_law_minute flaw : Addr} (X : K.In h) (G : h.Ns mainGlobals mg) (hfa : mg "law" = some (.ref fa))
    {odshow_time anshow_time odread_time anread_time od_parts an_parts od_law_tape an_law_tape od_law_draw an_law_draw od_law_pick an_law_pick od_law_two an_law_two od_law_time an_law_time od_law_is_whole an_law_is_whole od_law_minute an_law_minute odlaw anlaw : Option Addr} {slshow_time slread_time sl_parts sl_law_tape sl_law_draw sl_law_pick sl_law_two sl_law_time sl_law_is_whole sl_law_minute sllaw : Array (Option Value)} {ocshow_time kVshow_time dcshow_time pmshow_time cdshow_time ctshow_time ocread_time kVread_time dcread_time pmread_time cdread_time ctread_time oc_parts kV_parts dc_parts pm_parts cd_parts ct_parts oc_law_tape kV_law_tape dc_law_tape pm_law_tape cd_law_tape ct_law_tape oc_law_draw kV_law_draw dc_law_draw pm_law_draw cd_law_draw ct_law_draw oc_law_pick kV_law_pick dc_law_pick pm_law_pick cd_law_pick ct_law_pick oc_law_two kV_law_two dc_law_two pm_law_two cd_law_two ct_law_two oc_law_time kV_law_time dc_law_time pm_law_time cd_law_time ct_law_time oc_law_is_whole kV_law_is_whole dc_law_is_whole pm_law_is_whole cd_law_is_whole ct_law_is_whole oc_law_minute kV_law_minute dc_law_minute pm_law_minute cd_law_minute ct_law_minute oclaw kVlaw dclaw pmlaw cdlaw ctlaw : Value} {tDAY tHOUR tMOST_READ tLONGEST_READ : Tok}
    (ashow_time : PySem.W.nsIn K mainGlobals "show_time" = some (some (.ref fshow_time))) (lshow_time : K.lookup fshow_time = some ⟨ocshow_time, odshow_time, .func (PySem.W.fnOf "show_time" "show_time" (defArgs sShow) (defBody sShow) (defScope sShow) .none kVshow_time dcshow_time pmshow_time anshow_time cdshow_time ctshow_time), slshow_time⟩) (cshow_time : PySem.W.codeIn K cdshow_time "show_time" = true) (kshow_time : PySem.W.keepIn K (.ref fshow_time) = true)
    (aread_time : PySem.W.nsIn K mainGlobals "read_time" = some (some (.ref fread_time))) (lread_time : K.lookup fread_time = some ⟨ocread_time, odread_time, .func (PySem.W.fnOf "read_time" "read_time" (defArgs sRead) (defBody sRead) (defScope sRead) .none kVread_time dcread_time pmread_time anread_time cdread_time ctread_time), slread_time⟩) (cread_time : PySem.W.codeIn K cdread_time "read_time" = true) (kread_time : PySem.W.keepIn K (.ref fread_time) = true)
    (a_parts : PySem.W.nsIn K mainGlobals "_parts" = some (some (.ref f_parts))) (l_parts : K.lookup f_parts = some ⟨oc_parts, od_parts, .func (PySem.W.fnOf "_parts" "_parts" (defArgs sParts) (defBody sParts) (defScope sParts) .none kV_parts dc_parts pm_parts an_parts cd_parts ct_parts), sl_parts⟩) (c_parts : PySem.W.codeIn K cd_parts "_parts" = true) (k_parts : PySem.W.keepIn K (.ref f_parts) = true)
    (a_law_tape : PySem.W.nsIn K mainGlobals "_law_tape" = some (some (.ref f_law_tape))) (l_law_tape : K.lookup f_law_tape = some ⟨oc_law_tape, od_law_tape, .func (PySem.W.fnOf "_law_tape" "_law_tape" (defArgs sTape) (defBody sTape) (defScope sTape) .none kV_law_tape dc_law_tape pm_law_tape an_law_tape cd_law_tape ct_law_tape), sl_law_tape⟩) (c_law_tape : PySem.W.codeIn K cd_law_tape "_law_tape" = true) (k_law_tape : PySem.W.keepIn K (.ref f_law_tape) = true)
    (a_law_draw : PySem.W.nsIn K mainGlobals "_law_draw" = some (some (.ref f_law_draw))) (l_law_draw : K.lookup f_law_draw = some ⟨oc_law_draw, od_law_draw, .func (PySem.W.fnOf "_law_draw" "_law_draw" (defArgs sDraw) (defBody sDraw) (defScope sDraw) .none kV_law_draw dc_law_draw pm_law_draw an_law_draw cd_law_draw ct_law_draw), sl_law_draw⟩) (c_law_draw : PySem.W.codeIn K cd_law_draw "_law_draw" = true) (k_law_draw : PySem.W.keepIn K (.ref f_law_draw) = true)
    (a_law_pick : PySem.W.nsIn K mainGlobals "_law_pick" = some (some (.ref f_law_pick))) (l_law_pick : K.lookup f_law_pick = some ⟨oc_law_pick, od_law_pick, .func (PySem.W.fnOf "_law_pick" "_law_pick" (defArgs sPick) (defBody sPick) (defScope sPick) .none kV_law_pick dc_law_pick pm_law_pick an_law_pick cd_law_pick ct_law_pick), sl_law_pick⟩) (c_law_pick : PySem.W.codeIn K cd_law_pick "_law_pick" = true) (k_law_pick : PySem.W.keepIn K (.ref f_law_pick) = true)
    (a_law_two : PySem.W.nsIn K mainGlobals "_law_two" = some (some (.ref f_law_two))) (l_law_two : K.lookup f_law_two = some ⟨oc_law_two, od_law_two, .func (PySem.W.fnOf "_law_two" "_law_two" (defArgs sTwo) (defBody sTwo) (defScope sTwo) .none kV_law_two dc_law_two pm_law_two an_law_two cd_law_two ct_law_two), sl_law_two⟩) (c_law_two : PySem.W.codeIn K cd_law_two "_law_two" = true) (k_law_two : PySem.W.keepIn K (.ref f_law_two) = true)
    (a_law_time : PySem.W.nsIn K mainGlobals "_law_time" = some (some (.ref f_law_time))) (l_law_time : K.lookup f_law_time = some ⟨oc_law_time, od_law_time, .func (PySem.W.fnOf "_law_time" "_law_time" (defArgs sTime) (defBody sTime) (defScope sTime) .none kV_law_time dc_law_time pm_law_time an_law_time cd_law_time ct_law_time), sl_law_time⟩) (c_law_time : PySem.W.codeIn K cd_law_time "_law_time" = true) (k_law_time : PySem.W.keepIn K (.ref f_law_time) = true)
    (a_law_is_whole : PySem.W.nsIn K mainGlobals "_law_is_whole" = some (some (.ref f_law_is_whole))) (l_law_is_whole : K.lookup f_law_is_whole = some ⟨oc_law_is_whole, od_law_is_whole, .func (PySem.W.fnOf "_law_is_whole" "_law_is_whole" (defArgs sWhole) (defBody sWhole) (defScope sWhole) .none kV_law_is_whole dc_law_is_whole pm_law_is_whole an_law_is_whole cd_law_is_whole ct_law_is_whole), sl_law_is_whole⟩) (c_law_is_whole : PySem.W.codeIn K cd_law_is_whole "_law_is_whole" = true) (k_law_is_whole : PySem.W.keepIn K (.ref f_law_is_whole) = true)
    (a_law_minute : PySem.W.nsIn K mainGlobals "_law_minute" = some (some (.ref f_law_minute))) (l_law_minute : K.lookup f_law_minute = some ⟨oc_law_minute, od_law_minute, .func (PySem.W.fnOf "_law_minute" "_law_minute" (defArgs sMinute) (defBody sMinute) (defScope sMinute) .none kV_law_minute dc_law_minute pm_law_minute an_law_minute cd_law_minute ct_law_minute), sl_law_minute⟩) (c_law_minute : PySem.W.codeIn K cd_law_minute "_law_minute" = true) (k_law_minute : PySem.W.keepIn K (.ref f_law_minute) = true)
    (alaw : PySem.W.nsIn K mainGlobals "law" = some (some (.ref flaw))) (llaw : K.lookup flaw = some ⟨oclaw, odlaw, .func (PySem.W.fnOf "law" "law" (defArgs sLaw) (defBody sLaw) (defScope sLaw) .none kVlaw dclaw pmlaw anlaw cdlaw ctlaw), sllaw⟩) (claw : PySem.W.codeIn K cdlaw "law" = true) (klaw : PySem.W.keepIn K (.ref flaw) = true)
    (aDAY : PySem.W.nsIn K mainGlobals "DAY" = some (some (.int 1440 tDAY)))
    (aHOUR : PySem.W.nsIn K mainGlobals "HOUR" = some (some (.int 60 tHOUR)))
    (aMOST_READ : PySem.W.nsIn K mainGlobals "MOST_READ" = some (some (.int 1000000 tMOST_READ)))
    (aLONGEST_READ : PySem.W.nsIn K mainGlobals "LONGEST_READ" = some (some (.int 9 tLONGEST_READ)))
    (zlen : PySem.W.nsIn K mainGlobals "len" = some none)
    (zdivmod : PySem.W.nsIn K mainGlobals "divmod" = some none)
    (zstr : PySem.W.nsIn K mainGlobals "str" = some none)
    (zint : PySem.W.nsIn K mainGlobals "int" = some none)
    (zbool : PySem.W.nsIn K mainGlobals "bool" = some none)
    (zisinstance : PySem.W.nsIn K mainGlobals "isinstance" = some none)
    (zall : PySem.W.nsIn K mainGlobals "all" = some none)
    (zmax : PySem.W.nsIn K mainGlobals "max" = some none)
    (zmin : PySem.W.nsIn K mainGlobals "min" = some none)
    (zrange : PySem.W.nsIn K mainGlobals "range" = some none)
    : ∃ fd : FuncData, (∀ (s : Shared) (v : Value), BindsTo s fd ⟨[v], []⟩ [("_law_script", v)]) ∧ ∀ base : Heap, K.In base → base.Ns mainGlobals mg → FnOk l.prog w K mg base CX0 4 fa fd ["_law_script"] (spLaw K) := by
  have e := hfa.symm.trans (PySem.W.mg_of X G alaw)
  cases e
  have Fshow_time := fun_mk (st := sShow) lshow_time cshow_time kshow_time
  have gshow_time := PySem.W.mg_of X G ashow_time
  have bshow_time := Fshow_time.binds (ps := ["minute"]) fun _ _ _ _ _ _ us hl => match us, hl with | [_], _ => rfl
  have Fread_time := fun_mk (st := sRead) lread_time cread_time kread_time
  have gread_time := PySem.W.mg_of X G aread_time
  have bread_time := Fread_time.binds (ps := ["word"]) fun _ _ _ _ _ _ us hl => match us, hl with | [_], _ => rfl
  have F_parts := fun_mk (st := sParts) l_parts c_parts k_parts
  have g_parts := PySem.W.mg_of X G a_parts
  have b_parts := F_parts.binds (ps := ["word"]) fun _ _ _ _ _ _ us hl => match us, hl with | [_], _ => rfl
  have F_law_tape := fun_mk (st := sTape) l_law_tape c_law_tape k_law_tape
  have g_law_tape := PySem.W.mg_of X G a_law_tape
  have b_law_tape := F_law_tape.binds (ps := ["_law_script"]) fun _ _ _ _ _ _ us hl => match us, hl with | [_], _ => rfl
  have F_law_draw := fun_mk (st := sDraw) l_law_draw c_law_draw k_law_draw
  have g_law_draw := PySem.W.mg_of X G a_law_draw
  have b_law_draw := F_law_draw.binds (ps := ["_law_tape_here", "_law_many"]) fun _ _ _ _ _ _ us hl => match us, hl with | [_, _], _ => rfl
  have F_law_pick := fun_mk (st := sPick) l_law_pick c_law_pick k_law_pick
  have g_law_pick := PySem.W.mg_of X G a_law_pick
  have b_law_pick := F_law_pick.binds (ps := ["_law_tape_here", "_law_some"]) fun _ _ _ _ _ _ us hl => match us, hl with | [_, _], _ => rfl
  have F_law_two := fun_mk (st := sTwo) l_law_two c_law_two k_law_two
  have g_law_two := PySem.W.mg_of X G a_law_two
  have b_law_two := F_law_two.binds (ps := ["_law_number"]) fun _ _ _ _ _ _ us hl => match us, hl with | [_], _ => rfl
  have F_law_time := fun_mk (st := sTime) l_law_time c_law_time k_law_time
  have g_law_time := PySem.W.mg_of X G a_law_time
  have b_law_time := F_law_time.binds (ps := ["_law_when"]) fun _ _ _ _ _ _ us hl => match us, hl with | [_], _ => rfl
  have F_law_is_whole := fun_mk (st := sWhole) l_law_is_whole c_law_is_whole k_law_is_whole
  have g_law_is_whole := PySem.W.mg_of X G a_law_is_whole
  have b_law_is_whole := F_law_is_whole.binds (ps := ["_law_thing"]) fun _ _ _ _ _ _ us hl => match us, hl with | [_], _ => rfl
  have F_law_minute := fun_mk (st := sMinute) l_law_minute c_law_minute k_law_minute
  have g_law_minute := PySem.W.mg_of X G a_law_minute
  have b_law_minute := F_law_minute.binds (ps := ["_law_tape_here"]) fun _ _ _ _ _ _ us hl => match us, hl with | [_], _ => rfl
  have Flaw := fun_mk (st := sLaw) llaw claw klaw
  have glaw := PySem.W.mg_of X G alaw
  have blaw := Flaw.binds (ps := ["_law_script"]) fun _ _ _ _ _ _ us hl => match us, hl with | [_], _ => rfl
  have kbshow_time := fun_kbinds Fshow_time (ps := ["minute"]) (ks := ["minute"]) fun _ _ _ _ _ _ us ws hl => match us, ws, hl with | [], [_], _ => rfl | [_], [], _ => rfl
  have kbread_time := fun_kbinds Fread_time (ps := ["word"]) (ks := ["word"]) fun _ _ _ _ _ _ us ws hl => match us, ws, hl with | [], [_], _ => rfl | [_], [], _ => rfl
  have mDAY := PySem.W.mg_of X G aDAY
  have mHOUR := PySem.W.mg_of X G aHOUR
  have mMOST_READ := PySem.W.mg_of X G aMOST_READ
  have mLONGEST_READ := PySem.W.mg_of X G aLONGEST_READ
  have mlen := PySem.W.mg_none_of X G zlen
  have mdivmod := PySem.W.mg_none_of X G zdivmod
  have mstr := PySem.W.mg_none_of X G zstr
  have mint := PySem.W.mg_none_of X G zint
  have mbool := PySem.W.mg_none_of X G zbool
  have misinstance := PySem.W.mg_none_of X G zisinstance
  have mall := PySem.W.mg_none_of X G zall
  have mmax := PySem.W.mg_none_of X G zmax
  have mmin := PySem.W.mg_none_of X G zmin
  have mrange := PySem.W.mg_none_of X G zrange
  exact ⟨_, fun s v => .of_eq rfl, fun base _ _ => ok_law Flaw ⟨mlen⟩ ⟨mlen, mdivmod, mstr, mint, misinstance, mall, ⟨_, mDAY⟩, ⟨_, mHOUR⟩, ⟨_, mMOST_READ⟩, ⟨_, mLONGEST_READ⟩⟩ ⟨mstr, mint, mbool, misinstance⟩ ⟨mmax, mmin⟩ ⟨mlen, mmax, mmin, mrange, mstr, misinstance⟩
    F_law_tape g_law_tape b_law_tape F_law_draw g_law_draw b_law_draw F_law_pick g_law_pick b_law_pick F_law_minute g_law_minute b_law_minute Fshow_time gshow_time bshow_time kbshow_time Fread_time gread_time bread_time kbread_time F_parts g_parts b_parts F_law_two g_law_two b_law_two F_law_time g_law_time b_law_time F_law_is_whole g_law_is_whole b_law_is_whole⟩
end Bb
open PySem PySem.W PyProof.Rows
set_option maxHeartbeats 0 in
theorem PySem.Challenge.cw_boatbridge_k01_minutes_written_holds : PySem.Challenge.rw_boatbridge_k01_minutes_written.Holds := by
  w_on; o_law; k_head; (case hw => w_witness2)
  k_fill
  refine L2.walk_of (l := PySem.Challenge.rw_boatbridge_k01_minutes_written) (n := 63) (k := 4) (x := "_law_script") (CX := fun _ => L2.CX0) (sp := fun w => Bb.spLaw _) rfl (by decide) rfl ⟨rfl, by decide, by decide⟩ (fun w h Y => PySem.W.kIn_of Y) ?F (fun _ _ a ns hl _ hS => ⟨a, ns, rfl, hS, hl, fun _ => rfl⟩) (fun _ _ _ _ _ h => h)
  case F =>
    intro w mg fa h KX G hmg
    refine' Bb.all_mk KX G hmg ?ashow_time ?lshow_time ?cshow_time ?kshow_time ?aread_time ?lread_time ?cread_time ?kread_time ?a_parts ?l_parts ?c_parts ?k_parts ?a_law_tape ?l_law_tape ?c_law_tape ?k_law_tape ?a_law_draw ?l_law_draw ?c_law_draw ?k_law_draw ?a_law_pick ?l_law_pick ?c_law_pick ?k_law_pick ?a_law_two ?l_law_two ?c_law_two ?k_law_two ?a_law_time ?l_law_time ?c_law_time ?k_law_time ?a_law_is_whole ?l_law_is_whole ?c_law_is_whole ?k_law_is_whole ?a_law_minute ?l_law_minute ?c_law_minute ?k_law_minute ?alaw ?llaw ?claw ?klaw ?aDAY ?aHOUR ?aMOST_READ ?aLONGEST_READ ?zlen ?zdivmod ?zstr ?zint ?zbool ?zisinstance ?zall ?zmax ?zmin ?zrange
    (case ashow_time => k_is)
    (case lshow_time => k_is)
    (case cshow_time => k_is)
    (case kshow_time => k_is)
    (case aread_time => k_is)
    (case lread_time => k_is)
    (case cread_time => k_is)
    (case kread_time => k_is)
    (case a_parts => k_is)
    (case l_parts => k_is)
    (case c_parts => k_is)
    (case k_parts => k_is)
    (case a_law_tape => k_is)
    (case l_law_tape => k_is)
    (case c_law_tape => k_is)
    (case k_law_tape => k_is)
    (case a_law_draw => k_is)
    (case l_law_draw => k_is)
    (case c_law_draw => k_is)
    (case k_law_draw => k_is)
    (case a_law_pick => k_is)
    (case l_law_pick => k_is)
    (case c_law_pick => k_is)
    (case k_law_pick => k_is)
    (case a_law_two => k_is)
    (case l_law_two => k_is)
    (case c_law_two => k_is)
    (case k_law_two => k_is)
    (case a_law_time => k_is)
    (case l_law_time => k_is)
    (case c_law_time => k_is)
    (case k_law_time => k_is)
    (case a_law_is_whole => k_is)
    (case l_law_is_whole => k_is)
    (case c_law_is_whole => k_is)
    (case k_law_is_whole => k_is)
    (case a_law_minute => k_is)
    (case l_law_minute => k_is)
    (case c_law_minute => k_is)
    (case k_law_minute => k_is)
    (case alaw => k_is)
    (case llaw => k_is)
    (case claw => k_is)
    (case klaw => k_is)
    (case aDAY => k_is)
    (case aHOUR => k_is)
    (case aMOST_READ => k_is)
    (case aLONGEST_READ => k_is)
    (case zlen => k_is)
    (case zdivmod => k_is)
    (case zstr => k_is)
    (case zint => k_is)
    (case zbool => k_is)
    (case zisinstance => k_is)
    (case zall => k_is)
    (case zmax => k_is)
    (case zmin => k_is)
    (case zrange => k_is)
