import PyProof.Rows.All
import Wide.All
import OpenK.AllK
import Wide.FinOn
import PyProof.FString3
import HandS.ForMost
import HandS.FStr
import HandS.StrMore
import HandS.IsInst
import HandS.Codes
import HandS.TryOnly
import HandS.SlotsOwn
import HandS.Defaults
import PySem.Challenge.RW_boatbridge_k04_what_two_have
set_option Elab.async false
set_option linter.all false
set_option maxRecDepth 100000
namespace Bb
open PySem PySem.Spec PyProof.Rows L2 PySem.W
open C8 (pss_cut)
open TL (tl ext_tl partition_app partition_none)
def topS (i : Nat) : Stmt := PySem.Challenge.pw_boatbridge_k04_what_two_have.main.body.getD i (.Pass ⟨0, 0, 0, 0⟩)
abbrev sTape : Stmt := topS 10
abbrev NTape : List Str := ["_law_script"]
theorem scTape : FnScope NTape ["_law_script"] (defScope sTape) := ⟨rfl, rfl, rfl, by decide +kernel, rfl, by decide +kernel, by decide +kernel⟩
abbrev sDraw : Stmt := topS 11
abbrev NDraw : List Str := ["_law_tape_here", "_law_many", "_law_digit", "_law_turn", "_law_cell", "_law_primes", "_law_prime", "_law_mixed"]
theorem scDraw : FnScope NDraw ["_law_tape_here", "_law_many"] (defScope sDraw) := ⟨rfl, rfl, rfl, by decide +kernel, rfl, by decide +kernel, by decide +kernel⟩
abbrev sPick : Stmt := topS 12
abbrev NPick : List Str := ["_law_tape_here", "_law_some"]
theorem scPick : FnScope NPick ["_law_tape_here", "_law_some"] (defScope sPick) := ⟨rfl, rfl, rfl, by decide +kernel, rfl, by decide +kernel, by decide +kernel⟩

/-- the tape at T: the cells' list, the draws done (at most n), the rest of a great cell -/
structure Tape (H : Hp) (T : Addr) (n : Nat) : Prop where
  ex : ∃ (c : Addr) (t r : Int) (ns : List Int), H T = some (.lst [.ref c, .int t, .int r]) ∧ H c = some (.lst (ns.map V.int)) ∧ c ≠ T ∧ 0 ≤ t ∧ t ≤ n ∧ ns.length ≤ 63
/-- all but the tape stands as it stood -/
def Keep (T : Addr) (H H' : Hp) : Prop := ∀ a o, a ≠ T → H a = some o → H' a = some o
theorem Keep.refl {T : Addr} {H : Hp} : Keep T H H := fun _ _ _ e => e
theorem Keep.trans {T : Addr} {H H1 H2 : Hp} (a : Keep T H H1) (b : Keep T H1 H2) : Keep T H H2 := fun x o n e => b x o n (a x o n e)
theorem Keep.updT {T : Addr} {H H1 : Hp} {o : HO} (a : Keep T H H1) : Keep T H (upd H1 T o) := fun x o n e => by
  rw [upd_ne n]; exact a x o n e
theorem Keep.new {T : Addr} {H H1 : Hp} {p : Addr} {o : HO} (a : Keep T H H1) (h : H1 p = none) : Keep T H (upd H1 p o) := fun x o n e => by
  have z := a x o n e
  rw [upd_ne (ne_of_none z h)]; exact z
theorem Tape.mono {H : Hp} {T : Addr} {n m : Nat} (h : Tape H T n) (l : n ≤ m) : Tape H T m := by
  obtain ⟨c, t, r, ns, h1, h2, h3, h4, h5, h6⟩ := h.ex
  exact ⟨c, t, r, ns, h1, h2, h3, h4, by omega, h6⟩
theorem Tape.new {H : Hp} {T : Addr} {n : Nat} {p : Addr} {o : HO} (h : Tape H T n) (hp : H p = none) : Tape (upd H p o) T n := by
  obtain ⟨c, t, r, ns, h1, h2, h3, h4, h5, h6⟩ := h.ex
  exact ⟨c, t, r, ns, by rw [upd_ne (ne_of_none h1 hp)]; exact h1, by rw [upd_ne (ne_of_none h2 hp)]; exact h2, h3, h4, h5, h6⟩
theorem Tape.ne {H : Hp} {T : Addr} {n : Nat} {p : Addr} (h : Tape H T n) (hp : H p = none) : p ≠ T := by
  obtain ⟨c, t, r, ns, h1, _⟩ := h.ex
  exact (ne_of_none h1 hp).symm
theorem upd_at {H : Hp} {p a : Addr} {o z : HO} (hp : H p = none) (h : H a = some z) : (upd H p o) a = some z := by
  rw [upd_ne (ne_of_none h hp)]; exact h
def spTape (K : PySem.W.Frag) : Sp := fun vs H Q _ => ∃ (a : Addr) (ns : List Int), vs = [.ref a] ∧ SqL K H a (ns.map V.int) ∧ ns.length ≤ 63 ∧
  ∀ T H', H T = none → Same H H' → Tape H' T 0 → Q (.ref T) H'
def spDraw : Sp := fun vs H Q _ => ∃ (T : Addr) (b : Int) (n : Nat), vs = [.ref T, .int b] ∧ 0 < b ∧ b < 1073741824 ∧ n < 1000000 ∧ Tape H T n ∧
  ∀ d H', 0 ≤ d → d < b → Tape H' T (n + 1) → Keep T H H' → Q (.int d) H'
/-- an item of a list, any one -/
def spPick : Sp := fun vs H Q _ => ∃ (T p : Addr) (xs : List V) (n : Nat), vs = [.ref T, .ref p] ∧ H p = some (.lst xs) ∧ p ≠ T ∧ 0 < xs.length ∧ xs.length < 1000000 ∧ n < 1000000 ∧ Tape H T n ∧
  ∀ (j : Nat) (x : V) H', xs[j]? = some x → Tape H' T (n + 1) → Keep T H H' → Q x H'
theorem dp_ints {K : PySem.W.Frag} {H : Hp} : ∀ ns : List Int, DpAll K H (ns.map V.int) (ns.map PyData.int)
  | [] => .nil
  | _ :: r => .cons (.int _) (dp_ints r)
theorem cut63 {ns : List Int} (h : ns.length ≤ 63) : cutV (ns.map V.int) none (some 63) = ns.map V.int := by
  unfold cutV
  rw [HT.sIx_none, show HT.sIx (ns.map V.int).length (ns.map V.int).length (some 63) = min 63 (ns.map V.int).length from HT.sIx_nat _ _ 63, List.length_map, Nat.min_eq_right h]
  show ((ns.map V.int).take (ns.length - 0)) = _
  rw [Nat.sub_zero]
  exact List.take_of_length_le (by rw [List.length_map]; exact Nat.le_refl _)
theorem fmod_in {a b : Int} (h : 0 < b) : 0 ≤ a.fmod b ∧ a.fmod b < b := by
  rw [Int.fmod_eq_emod_of_nonneg a (Int.le_of_lt h)]; exact ⟨Int.emod_nonneg a (by omega), Int.emod_lt_of_pos a h⟩
theorem prime_at (t : Int) : ∃ (j : Nat) (p : Int), t.fmod 5 = (j : Int) ∧ ([.int 2147483647, .int 2147483629, .int 2147483587, .int 2147483579, .int 2147483563] : List V)[j]? = some (.int p) ∧ 0 < p ∧ p < 2147483648 := by
  obtain ⟨h1, h2⟩ := fmod_in (a := t) (b := 5) (by decide)
  generalize t.fmod 5 = z at h1 h2
  have : z = 0 ∨ z = 1 ∨ z = 2 ∨ z = 3 ∨ z = 4 := by omega
  rcases this with rfl | rfl | rfl | rfl | rfl
  · exact ⟨0, _, rfl, rfl, by decide, by decide⟩
  · exact ⟨1, _, rfl, rfl, by decide, by decide⟩
  · exact ⟨2, _, rfl, rfl, by decide, by decide⟩
  · exact ⟨3, _, rfl, rfl, by decide, by decide⟩
  · exact ⟨4, _, rfl, rfl, by decide, by decide⟩
/-- what the law's helpers ask of the module's names -/
structure Txt0 (mg : Str → Option Value) : Prop where
  mlen : mg "len" = none
section
variable {P : Program} {w : World} {K : PySem.W.Frag} {mg : Str → Option Value} {base : Heap}
theorem ok_draw {f : Addr} {fd : FuncData} {k : Nat} (F : Fun K "_law_draw" "_law_draw" sDraw f fd) (T : Txt0 mg) : FnOk P w K mg base CX0 (k + 1) f fd ["_law_tape_here", "_law_many"] spDraw := by
  refine F.ok scDraw (fun vs H Q E h => ?_) (fun cdv A outer s H vs Q E hr h => ?_)
  · obtain ⟨T, b, n, rfl, _⟩ := h
    rfl
  · obtain ⟨a, b, n, rfl, hb0, hb1, hn, hT, q⟩ := h
    obtain ⟨c, t, r, ns, h1, h2, h3, h4, h5, h6⟩ := hT.ex
    refine ⟨_,
      (pss_cons (ps_if (pt_cmpR op_gt (pe_ix ix_list (pv 0) pe_int (fun _ _ => rfl)) pe_int (nomark _))
      (pss_cons (ps_set (i := 2) scDraw.nd rfl (.inl rfl) (pe_op op_modN (pe_ix ix_list (pv 0) pe_int (fun _ _ => rfl)) (pv 1)))
      (pss_cons (ps_asg (pe_op op_fdivN (pe_ix ix_list (pv 0) pe_int (fun _ _ => rfl)) (pv 1)) (pg_sub (pv 0) pe_int set_list))
      (pss_one (ps_ret (pv 2)))))
      pss_nil)
      (pss_cons (ps_set (i := 3) scDraw.nd rfl (.inl rfl) (pe_ix ix_list (pv 0) pe_int (fun _ _ => rfl)))
      (pss_cut (ps_asg (pe_op op_add (pv 3) pe_int) (pg_sub (pv 0) pe_int set_list))
      (pss_cons (ps_set (i := 4) scDraw.nd rfl (.inl rfl) pe_int)
      (pss_cut (ps_if (pt_cmpR (op_neD hr.units) (pe_ix ix_list (pv 0) pe_int (fun _ _ => rfl)) (pe_lst pa_nil) (nomark _))
      (pss_one (ps_set (i := 4) scDraw.nd rfl (.inl rfl) (pe_ix ix_list (pe_ix ix_list (pv 0) pe_int (fun _ _ => rfl)) (pe_op op_modN (pv 3) (pe_callB call_len_seq (by rfl) T.mlen PySem.boot_len (pa_cons (pe_ix ix_list (pv 0) pe_int (fun _ _ => rfl)) pa_nil))) (fun _ _ => rfl))))
      pss_nil)
      (pss_cut (ps_if (PW.pt (pw_and (pt_cmpR op_ge (pv 4) (pe_op op_pow pe_int pe_int) (nomark _)) (pw_and1 (pt_cmpR op_lt (pv 3) (pe_callB call_len_seq (by rfl) T.mlen PySem.boot_len (pa_cons (pe_ix ix_list (pv 0) pe_int (fun _ _ => rfl)) pa_nil)) (nomark _)))))
      (pss_cons (ps_asg (pe_op op_fdivN (pe_op op_sub (pv 4) (pe_op op_pow pe_int pe_int)) (pv 1)) (pg_sub (pv 0) pe_int set_list))
      (pss_one (ps_ret (pe_op op_modN (pe_op op_sub (pv 4) (pe_op op_pow pe_int pe_int)) (pv 1)))))
      pss_nil)
      (pss_cons (ps_set (i := 5) scDraw.nd rfl (.inl rfl) (pe_lst (pa_cons pe_int (pa_cons pe_int (pa_cons pe_int (pa_cons pe_int (pa_cons pe_int pa_nil)))))))
      (pss_cons (ps_set (i := 6) scDraw.nd rfl (.inl rfl) (pe_ix ix_list (pv 5) (pe_op op_modN (pv 3) pe_int) (fun _ _ => rfl)))
      (pss_cut (ps_set (i := 7) scDraw.nd rfl (.inl rfl) (pe_op op_modN (pe_op op_add (pe_op op_add (pe_op op_add (pe_op op_mul (pe_op op_modN (pv 4) (pv 6)) pe_int) (pe_op op_mul (pe_op op_mul pe_int (pv 3)) (pv 3))) (pe_op op_mul pe_int (pv 3))) pe_int) (pv 6)))
      (pss_cut (ps_set (i := 7) scDraw.nd rfl (.inl rfl) (pe_op op_modN (pe_op op_mul (pv 7) (pe_op op_add (pv 7) pe_int)) (pe_ix ix_list (pv 5) (pe_op op_modN (pe_op op_add (pv 3) pe_int) pe_int) (fun _ _ => rfl))))
      (pss_one (ps_ret (pe_op op_modN (pe_op op_fdivN (pe_op op_modN (pe_op op_mul (pv 7) (pv 7)) pe_int) pe_int) (pv 1))))))))))))))
      , ?_⟩
    -- if tape[2] > 0
    refine ⟨_, rfl, a, _, 2, _, rfl, rfl, SqL.of h1, atI_nat (j := 2) rfl, _, _, rfl, rfl, _, rfl, ite2 (fun _ => ?_) (fun _ => ?_)⟩
    · obtain ⟨e1, e2⟩ := fmod_in (a := r) hb0
      refine ⟨_, rfl, a, _, 2, _, rfl, rfl, SqL.of h1, atI_nat (j := 2) rfl, _, rfl, _, _, rfl, rfl, by omega, ?_⟩
      refine ⟨_, rfl, a, _, 2, _, rfl, rfl, SqL.of h1, atI_nat (j := 2) rfl, _, rfl, _, _, rfl, rfl, ⟨by omega, by omega⟩, ?_⟩
      refine ⟨_, rfl, a, _, 2, 2, rfl, rfl, h1, rfl, ?_⟩
      refine ⟨_, rfl, q _ _ e1 e2 ⟨c, t, _, ns, upd_same, ?_, h3, h4, by omega, h6⟩ Keep.refl.updT⟩
      rw [upd_ne h3]; exact h2
    · refine ⟨_, rfl, a, _, 1, _, rfl, rfl, SqL.of h1, atI_nat (j := 1) rfl, ?_⟩
      refine ⟨fun σ H2 => σ = [some (.ref a), some (.int b), none, some (.int t), none, none, none, none] ∧ H2 a = some (.lst [.ref c, .int (t + 1), .int r]) ∧ H2 c = some (.lst (ns.map V.int)) ∧ Keep a H H2, ?_, ?_⟩
      · refine ⟨_, rfl, _, _, rfl, rfl, _, rfl, a, _, 1, 1, rfl, rfl, h1, rfl, rfl, upd_same, ?_, Keep.refl.updT⟩
        rw [upd_ne h3]; exact h2
      rintro σ H1 ⟨rfl, g1, g2, k0⟩
      -- if tape[0] != []: the two ways meet at a cell, any one
      refine ⟨fun σ H2 => ∃ cell : Int, σ = [some (.ref a), some (.int b), none, some (.int t), some (.int cell), none, none, none] ∧ H2 a = some (.lst [.ref c, .int (t + 1), .int r]) ∧ H2 c = some (.lst (ns.map V.int)) ∧ Keep a H H2, ?_, ?_⟩
      · refine ⟨_, rfl, a, _, 0, _, rfl, rfl, SqL.of g1, atI_nat (j := 0) rfl, Nat.zero_le _, fun l hl => ?_⟩
        have u1 := upd_at (o := .lst []) hl g1
        have u2 := upd_at (o := .lst []) hl g2
        refine ⟨_, .list [], .lst (SqL.of u2) (dp_ints _), .lst (SqL.of upd_same) .nil, ke_shaped_ints ns, ke_shaped_ints [], _, rfl, ?_⟩
        cases hns : ns with
        | nil => exact iteF ⟨0, rfl, u1, by rw [← hns]; exact u2, k0.new hl⟩
        | cons z zs =>
          refine iteT ?_
          rw [← hns]
          have hpos : 0 < (ns.length : Int) := by rw [hns]; simp
          refine ⟨_, rfl, a, _, 0, _, rfl, rfl, SqL.of u1, atI_nat (j := 0) rfl, _, rfl, _, rfl, a, _, 0, _, rfl, rfl, SqL.of u1, atI_nat (j := 0) rfl, c, _, rfl, .inl (SqL.of u2), _, _, rfl, rfl, ?_, ?_⟩
          · rw [List.length_map]; omega
          · obtain ⟨e1, e2⟩ := fmod_in (a := t) hpos
            obtain ⟨j, hj⟩ := Int.eq_ofNat_of_zero_le e1
            have hj2 : j < ns.length := by omega
            refine ⟨c, _, (j : Int), .int ns[j], rfl, ?_, SqL.of u2, atI_nat ?_, _, rfl, u1, u2, k0.new hl⟩
            · exact congrArg V.int (by rw [List.length_map]; exact hj)
            · rw [List.getElem?_map, List.getElem?_eq_getElem hj2]; rfl
      · rintro σ H2 ⟨cell, rfl, u1, u2, k2⟩
        -- if cell >= 10 ** 18 and turn < len(tape[0])
        have tp : ∀ (r' : Int) (H3 : Hp), H3 a = some (.lst [.ref c, .int (t + 1), .int r']) → H3 c = some (.lst (ns.map V.int)) → Tape H3 a (n + 1) := fun r' H3 x1 x2 => ⟨c, t + 1, r', ns, x1, x2, h3, by omega, by omega, h6⟩
        refine ⟨fun σ H3 => σ = [some (.ref a), some (.int b), none, some (.int t), some (.int cell), none, none, none] ∧ H3 = H2, ?_, ?_⟩
        · refine ⟨_, rfl, _, _, rfl, rfl, ⟨by decide, by decide, by decide⟩, _, _, rfl, rfl, _, rfl, ite2 (fun _ => ?_) (fun _ => iteF ⟨rfl, rfl⟩)⟩
          refine ⟨_, rfl, _, rfl, a, _, 0, _, rfl, rfl, SqL.of u1, atI_nat (j := 0) rfl, c, _, rfl, .inl (SqL.of u2), _, _, rfl, rfl, _, rfl, ite2 (fun _ => ?_) (fun _ => ⟨rfl, rfl⟩)⟩
          refine ⟨_, rfl, _, _, rfl, rfl, ⟨by decide, by decide, by decide⟩, _, _, rfl, rfl, _, rfl, _, _, rfl, rfl, ⟨by omega, by omega⟩, _, rfl, a, _, 2, 2, rfl, rfl, u1, rfl, ?_⟩
          refine ⟨_, rfl, _, _, rfl, rfl, ⟨by decide, by decide, by decide⟩, _, _, rfl, rfl, _, rfl, _, _, rfl, rfl, by omega, ?_⟩
          exact q _ _ (fmod_in hb0).1 (fmod_in hb0).2 (tp _ _ upd_same (by rw [upd_ne h3]; exact u2)) k2.updT
        · rintro σ H3 ⟨rfl, rfl⟩
          -- the five primes, the mixing
          refine ⟨by show 5 ≤ sizeLine; decide, fun l hl => ?_⟩
          have w1 := upd_at (o := .lst [.int 2147483647, .int 2147483629, .int 2147483587, .int 2147483579, .int 2147483563]) hl u1
          have w2 := upd_at (o := .lst [.int 2147483647, .int 2147483629, .int 2147483587, .int 2147483579, .int 2147483563]) hl u2
          have w3 := upd_same (H := H3) (a := l) (o := .lst [.int 2147483647, .int 2147483629, .int 2147483587, .int 2147483579, .int 2147483563])
          obtain ⟨j1, p1, ej1, ep1, hp1, hq1⟩ := prime_at t
          obtain ⟨j2, p2, ej2, ep2, hp2, hq2⟩ := prime_at (t + 2)
          refine ⟨_, rfl, _, rfl, _, _, rfl, rfl, (by show (5 : Int) ≠ 0; decide), l, _, (j1 : Int), _, rfl, congrArg V.int ej1, SqL.of w3, atI_nat ep1, ?_⟩
          have late : ∀ {A B : Prop}, A → A := fun h => h
          refine ⟨fun σ H4 => ∃ m1 : Int, 0 ≤ m1 ∧ m1 < p1 ∧ σ = [some (.ref a), some (.int b), none, some (.int t), some (.int cell), some (.ref l), some (.int p1), some (.int m1)] ∧ H4 = upd H3 l (.lst [.int 2147483647, .int 2147483629, .int 2147483587, .int 2147483579, .int 2147483563]), ?_, ?_⟩
          · refine ⟨_, rfl, _, rfl, _, _, rfl, rfl, by omega, _, _, rfl, rfl, .inr ⟨by decide, by decide⟩, _, rfl, _, _, rfl, rfl, .inl ⟨by decide, by decide⟩, _, rfl, _, _, rfl, rfl, .inr ⟨by omega, by omega⟩, _, _, rfl, rfl, _, rfl, _, _, rfl, rfl, .inl ⟨by decide, by decide⟩, _, _, rfl, rfl, _, _, rfl, rfl, _, rfl, _, _, rfl, rfl, by omega, ?_⟩
            exact ⟨_, (fmod_in hp1).1, (fmod_in hp1).2, rfl, rfl⟩
          rintro σ H4 ⟨m1, m10, m11, rfl, rfl⟩
          refine ⟨fun σ H4 => ∃ m2 : Int, 0 ≤ m2 ∧ m2 < p2 ∧ σ = [some (.ref a), some (.int b), none, some (.int t), some (.int cell), some (.ref l), some (.int p1), some (.int m2)] ∧ H4 = upd H3 l (.lst [.int 2147483647, .int 2147483629, .int 2147483587, .int 2147483579, .int 2147483563]), ?_, ?_⟩
          · refine ⟨_, rfl, _, rfl, _, _, rfl, rfl, _, _, rfl, rfl, .inl ⟨by omega, by omega⟩, _, rfl, _, rfl, _, _, rfl, rfl, _, _, rfl, rfl, (by show (5 : Int) ≠ 0; decide), l, _, (j2 : Int), _, rfl, congrArg V.int ej2, SqL.of w3, atI_nat ep2, _, _, rfl, rfl, by omega, ?_⟩
            exact ⟨_, (fmod_in hp2).1, (fmod_in hp2).2, rfl, rfl⟩
          rintro σ H4 ⟨m2, m20, m21, rfl, rfl⟩
          refine ⟨_, rfl, _, rfl, _, _, rfl, rfl, .inl ⟨by omega, by omega⟩, _, _, rfl, rfl, (by show (2147483549 : Int) ≠ 0; decide), _, _, rfl, rfl, ⟨by decide, by decide⟩, _, rfl, _, _, rfl, rfl, by omega, ?_⟩
          exact q _ _ (fmod_in hb0).1 (fmod_in hb0).2 (tp _ _ w1 w2) (k2.new hl)
/-- an item of a list by a draw -/
theorem ok_pick {f fD : Addr} {fd fdD : FuncData} {k : Nat} (F : Fun K "_law_pick" "_law_pick" sPick f fd) (T : Txt0 mg) (F_law_draw : Fun K "_law_draw" "_law_draw" sDraw fD fdD) (g_law_draw : mg "_law_draw" = some (.ref fD)) (b_law_draw : Binds K fdD ["_law_tape_here", "_law_many"] []) :
    FnOk P w K mg base CX0 (k + 2) f fd ["_law_tape_here", "_law_some"] spPick := by
  have G_law_draw : FnOk P w K mg base CX0 (k + 1) fD fdD ["_law_tape_here", "_law_many"] spDraw := ok_draw F_law_draw T
  refine F.ok scPick (fun vs H Q E h => ?_) (fun cdv A outer s H vs Q E hr h => ?_)
  · obtain ⟨T, p, xs, n, rfl, _⟩ := h
    rfl
  · obtain ⟨a, p, xs, n, rfl, hS, hpa, hx0, hx1, hn, hT, q⟩ := h
    have hr_law_draw := hr
    refine ⟨_,
      (pss_one (ps_ret (pe_ix ix_list (pv 1) (pe_call G_law_draw hr_law_draw (by rfl) g_law_draw F_law_draw.kp b_law_draw .nil pass0 (pa_cons (pv 0) (pa_cons (pe_callB call_len_seq (by rfl) T.mlen PySem.boot_len (pa_cons (pv 1) pa_nil)) pa_nil))) (fun _ _ => rfl))))
      , ?_⟩
    refine ⟨_, rfl, _, rfl, _, rfl, p, xs, rfl, .inl (SqL.of hS), a, xs.length, n, rfl, by omega, by omega, hn, hT, fun d H' d0 d1 T' k' => ?_⟩
    obtain ⟨j, rfl⟩ := Int.eq_ofNat_of_zero_le d0
    have hj : j < xs.length := by omega
    exact ⟨p, xs, (j : Int), xs[j], rfl, rfl, SqL.of (k' p _ hpa hS), atI_nat (List.getElem?_eq_getElem hj), q j _ _ (List.getElem?_eq_getElem hj) T' k'⟩
/-- the tape's making: the cells in a list of their own -/
theorem ok_tape {f : Addr} {fd : FuncData} {k : Nat} (F : Fun K "_law_tape" "_law_tape" sTape f fd) (T : Txt0 mg) : FnOk P w K mg base CX0 (k + 1) f fd ["_law_script"] (spTape K) := by
  refine F.ok scTape (fun vs H Q E h => ?_) (fun cdv A outer s H vs Q E hr h => ?_)
  · obtain ⟨a, ns, rfl, _⟩ := h
    rfl
  · obtain ⟨a, ns, rfl, hS, hlen, q⟩ := h
    refine ⟨_,
      (pss_one (ps_ret (pe_lst (pa_cons (pe_slice sl_list (pv 0) po_none (po_some pe_int)) (pa_cons pe_int (pa_cons pe_int pa_nil))))))
      , ?_⟩
    refine ⟨_, rfl, _, rfl, a, _, rfl, hS, fun p hp => ?_⟩
    refine ⟨by show 3 ≤ sizeLine; decide, fun l hl => ?_⟩
    have nlp : p ≠ l := fun e => by rw [e, upd_same] at hl; cases hl
    have hl0 : H l = none := by rw [upd_ne nlp.symm] at hl; exact hl
    refine q l _ hl0 (fun b o e => upd_at hl (upd_at hp e)) ⟨p, 0, 0, ns, upd_same, ?_, nlp, by omega, by omega, hlen⟩
    rw [upd_ne nlp, upd_same, cut63 hlen]
end
/-! ### heaps that grow -/
theorem Tape.same {H H' : Hp} {T : Addr} {n : Nat} (h : Tape H T n) (s : Same H H') : Tape H' T n := by
  obtain ⟨c, t, r, ns, h1, h2, h3, h4, h5, h6⟩ := h.ex
  exact ⟨c, t, r, ns, s _ _ h1, s _ _ h2, h3, h4, h5, h6⟩
theorem Keep.same {T : Addr} {H H1 H2 : Hp} (a : Keep T H H1) (b : Same H1 H2) : Keep T H H2 := fun x o n e => b x o (a x o n e)
theorem same_upd {H : Hp} {p : Addr} {o : HO} (h : H p = none) : Same H (upd H p o) := fun b x e => by
  rw [upd_ne (ne_of_none e h)]; exact e
theorem same_refl {H : Hp} : Same H H := fun _ _ e => e
theorem small_line {n : Nat} (h : n ≤ 100) : n ≤ sizeLine := Nat.le_trans h (by decide)
/-! ### a call with keywords alone -/
section
variable {X : Cx} {CX : CXT} {k : Nat} {f : Addr} {fd : FuncData} {ps ks : List Str} {sp : Sp} {E : XK} {x : Str} {p pos : Pos} {kws : List Keyword} {tk : TA} {g : List Value → List Value → List Value} {gV : List V → List V → List V}
theorem pe_callK0 (F : FnOk X.prog X.w X.K X.mg X.base CX k f fd ps sp) (hr : Room k X.A) (hg : Gl X x) (hm : X.mg x = some (.ref f)) (hk : PySem.W.keepIn X.K (.ref f) = true) (hb : KBinds X.K fd ps ks g gV) (hx : Passes CX X E)
    (hkw : PK X kws tk) (hall : (backToKw pos (keywordEach kws X.env)).all (·.1.isSome) = true := by rfl) (hks : (backToKw pos (keywordEach kws X.env)).filterMap (·.1) = ks := by rfl)
    (hdb : (x == ("__debug__" : Str)) = false := by decide)
    (hpl : ((backTo pos (starEach [] X.env)).any (·.1) || (backToKw pos (keywordEach kws X.env)).any (·.1.isNone)) = false := by rfl) :
    PE X (.Call (.Name x p) [] kws pos) (tCallK sp gV E tNil tk) := by
  refine ⟨fun pins s σ H Q I h => ?_⟩
  refine wpAny_Call_Name_kw (ld_glob I hg hm ?_ hdb)
  refine PySem.W.callWith_KW0 (h₀ := X.base) I.ok.mod.kin hk hall ?_ hpl
  refine thn (hkw.run pos pins s σ H _ I h) fun ws s2 ⟨zs, H2, I2, rz, q2⟩ => ⟨I2.kIn, ?_⟩
  rw [hks]
  exact run_fnk F hr hb hx I2 .nil rz q2
/-- keywords in the parameters' own order -/
theorem fun_kbinds {K : Frag} {x qual : Str} {st : Stmt} {f : Addr} {fd : FuncData} {ps ks : List Str} (F : Fun K x qual st f fd)
    (h : ∀ (kV doc pm : Value) (an : Option Addr) (cdv ct : Value) (us ws : List Value), (us ++ ws).length = ps.length → bindArgs (PySem.W.fnOf x qual (defArgs st) (defBody st) (defScope st) .none kV doc pm an cdv ct) ⟨us, ks.zip ws⟩ = pure (ps.zip (us ++ ws))) :
    KBinds K fd ps ks (· ++ ·) (· ++ ·) := by
  obtain ⟨oc, od, kV, doc, pm, an, cdv, ct, osl, rfl, lk, hcd⟩ := F.ex
  exact ⟨fun s us ws _ hl => .of_eq (h kV doc pm an cdv ct us ws hl), fun a b => a.append b⟩
theorem vals_rev : ∀ {zs : List V} {ws : List Value}, Vals zs ws → Vals zs.reverse ws.reverse
  | _, _, .nil => .nil
  | _, _, .cons r t => by
    rw [List.reverse_cons, List.reverse_cons]
    exact (vals_rev t).append (.cons r .nil)
/-- all by keywords -/
def kwAll {α : Type} (n : Nat) (us ws : List α) : List α := if us.length = 0 ∧ ws.length = n then ws else []
theorem kwAll_vals {n : Nat} {vs zs : List V} {us ws : List Value} (a : Vals vs us) (b : Vals zs ws) : Vals (kwAll n vs zs) (kwAll n us ws) := by
  unfold kwAll
  rw [a.length, b.length]
  split
  · exact b
  · exact .nil
theorem fun_kbindsA {K : Frag} {x qual : Str} {st : Stmt} {f : Addr} {fd : FuncData} {ps ks : List Str} (F : Fun K x qual st f fd) (hn : ps ≠ [])
    (h : ∀ (kV doc pm : Value) (an : Option Addr) (cdv ct : Value) (ws : List Value), ws.length = ps.length → bindArgs (PySem.W.fnOf x qual (defArgs st) (defBody st) (defScope st) .none kV doc pm an cdv ct) ⟨[], ks.zip ws⟩ = pure (ps.zip ws)) :
    KBinds K fd ps ks (kwAll ps.length) (kwAll ps.length) := by
  obtain ⟨oc, od, kV, doc, pm, an, cdv, ct, osl, rfl, lk, hcd⟩ := F.ex
  refine ⟨fun s us ws _ hl => ?_, kwAll_vals⟩
  unfold kwAll at hl ⊢
  split at hl
  · rename_i c
    rw [if_pos c, List.eq_nil_of_length_eq_zero c.1]
    exact .of_eq (h kV doc pm an cdv ct ws c.2)
  · exact absurd (List.eq_nil_of_length_eq_zero hl.symm) hn
/-- all by keywords, in the parameters' order turned about -/
theorem fun_kbindsR {K : Frag} {x qual : Str} {st : Stmt} {f : Addr} {fd : FuncData} {ps ks : List Str} (F : Fun K x qual st f fd) (hn : ps ≠ [])
    (h : ∀ (kV doc pm : Value) (an : Option Addr) (cdv ct : Value) (ws : List Value), ws.length = ps.length → bindArgs (PySem.W.fnOf x qual (defArgs st) (defBody st) (defScope st) .none kV doc pm an cdv ct) ⟨[], ks.zip ws⟩ = pure (ps.zip ws.reverse)) :
    KBinds K fd ps ks (fun us ws => (kwAll ps.length us ws).reverse) (fun us ws => (kwAll ps.length us ws).reverse) := by
  obtain ⟨oc, od, kV, doc, pm, an, cdv, ct, osl, rfl, lk, hcd⟩ := F.ex
  refine ⟨fun s us ws _ hl => ?_, fun a b => vals_rev (kwAll_vals a b)⟩
  rw [List.length_reverse] at hl
  unfold kwAll at hl ⊢
  split at hl
  · rename_i c
    rw [if_pos c, List.eq_nil_of_length_eq_zero c.1]
    exact .of_eq (h kV doc pm an cdv ct ws c.2)
  · exact absurd (List.eq_nil_of_length_eq_zero hl.symm) hn
end
abbrev sSInit : Stmt := inClass (topS 7) 0
abbrev NSInit : List Str := ["self", "first", "behind"]
theorem scSInit : FnScope NSInit ["self", "first", "behind"] (defScope sSInit) := ⟨rfl, rfl, rfl, by decide +kernel, rfl, by decide +kernel, by decide +kernel⟩
abbrev sSEq : Stmt := inClass (topS 7) 1
abbrev NSEq : List Str := ["self", "other"]
theorem scSEq : FnScope NSEq ["self", "other"] (defScope sSEq) := ⟨rfl, rfl, rfl, by decide +kernel, rfl, by decide +kernel, by decide +kernel⟩
abbrev sMeet : Stmt := topS 8
abbrev NMeet : List Str := ["one", "other", "first", "behind"]
theorem scMeet : FnScope NMeet ["one", "other"] (defScope sMeet) := ⟨rfl, rfl, rfl, by decide +kernel, rfl, by decide +kernel, by decide +kernel⟩
/-! ### a Stretch -/
theorem fb : ¬ (("first" : Str) = "behind") := by decide +kernel
def strF (a b : Int) : List (Str × V) := putF "behind" (.int b) (putF "first" (.int a) [])
theorem strF_first (a b : Int) : (strF a b).lookup ("first" : Str) = some (.int a) := by
  unfold strF
  rw [lookup_putF, if_neg fb, lookup_putF, if_pos rfl]
theorem strF_behind (a b : Int) : (strF a b).lookup ("behind" : Str) = some (.int b) := by
  unfold strF
  rw [lookup_putF, if_pos rfl]
/-- a Stretch of these minutes stands at p -/
def StrAt (C : Addr) (H : Hp) (p : Addr) (a b : Int) : Prop := ∃ dx, H p = some (.ins C dx (strF a b))
theorem StrAt.same {C : Addr} {H H' : Hp} {p : Addr} {a b : Int} (h : StrAt C H p a b) (s : Same H H') : StrAt C H' p a b := by
  obtain ⟨dx, e⟩ := h; exact ⟨dx, s _ _ e⟩
theorem StrAt.keep {C T : Addr} {H H' : Hp} {p : Addr} {a b : Int} (h : StrAt C H p a b) (s : Keep T H H') (n : p ≠ T) : StrAt C H' p a b := by
  obtain ⟨dx, e⟩ := h; exact ⟨dx, s _ _ n e⟩
/-- what the walk asks of the class -/
structure SCl (K : PySem.W.Frag) (mg : Str → Option Value) (C : Addr) : Prop where
  cl : Cls K C
  nF : NoAttr K C "first"
  nB : NoAttr K C "behind"
  gC : mg "Stretch" = some (.ref C)
  ha : PySem.W.findIn K (.ref C) "__class__" = some (some (.builtin "object.__class__"))
  hn : PySem.W.specialIn K (.builtin "object.__class__") "__get__" = some (some (.builtin "getset_descriptor.__get__"))
  htk : PySem.W.takesIn K (.builtin "object.__class__") = some true
  hm : PySem.W.mroIn K C (.type "object") = some true
  nf : PySem.W.notFirst K C (.ref C) = true
  misinstance : mg "isinstance" = none
/-- the def with a default -/
abbrev FunS (K : PySem.W.Frag) (f : Addr) (fd : FuncData) : Prop := FunD K "__init__" "Stretch.__init__" (defArgs sSInit) (defBody sSInit) (defScope sSInit) [.non] [] f fd
theorem FunS.b3 {K : PySem.W.Frag} {f : Addr} {fd : FuncData} (F : FunS K f fd) : Binds K fd ["self", "first", "behind"] [] := by
  obtain ⟨ds, r, b⟩ := FunD.binds1 (ps := ["self", "first", "behind"]) F 3 1 (by intro z; cases z) rfl fun _ _ _ _ _ _ _ us its hu hi => match us, its, hu, hi with | [_, _, _], [_], _, _ => ⟨_, rfl, rfl⟩
  cases r
  exact b
theorem FunS.b2 {K : PySem.W.Frag} {f : Addr} {fd : FuncData} (F : FunS K f fd) : ∃ ds, Vals [.non] ds ∧ Binds K fd ["self", "first", "behind"] ds :=
  FunD.binds1 (ps := ["self", "first", "behind"]) F 2 0 (by intro z; cases z) rfl fun _ _ _ _ _ _ _ us its hu hi => match us, its, hu, hi with | [_, _], [_], _, _ => ⟨_, rfl, rfl⟩
def spSInit (C : Addr) : Sp := fun vs H Q _ => ∃ (p dx : Addr) (a b : Int), vs = [.ref p, .int a, .int b] ∧ a ≤ b ∧ H p = some (.ins C dx []) ∧ ∀ H', StrAt C H' p a b → (∀ x o, x ≠ p → H x = some o → H' x = some o) → Q .non H'
def spSEq (C : Addr) : Sp := fun vs H Q _ => ∃ (p q : Addr) (a b c d : Int), vs = [.ref p, .ref q] ∧ StrAt C H p a b ∧ StrAt C H q c d ∧ Q (.bl (decide (a = c) && decide (b = d))) H
def mx (a c : Int) : Int := if c > a then c else a
def mn (b d : Int) : Int := if d < b then d else b
/-- the Stretch from x to y, None where that is none -/
def MetV (C : Addr) (H : Hp) (v : V) (x y : Int) : Prop := (¬ x < y ∧ v = .non) ∨ (x < y ∧ ∃ r, v = .ref r ∧ StrAt C H r x y)
theorem MetV.same {C : Addr} {H H' : Hp} {v : V} {x y : Int} (h : MetV C H v x y) (s : Same H H') : MetV C H' v x y := by
  rcases h with h | ⟨l, r, e, h⟩
  · exact .inl h
  · exact .inr ⟨l, r, e, h.same s⟩
def spMeet (C : Addr) : Sp := fun vs H Q _ => ∃ (p q : Addr) (a b c d : Int), vs = [.ref p, .ref q] ∧ StrAt C H p a b ∧ StrAt C H q c d ∧ ∀ v H', Same H H' → MetV C H' v (mx a c) (mn b d) → Q v H'
structure TxtM (mg : Str → Option Value) : Prop where
  mmax : mg "max" = none
  mmin : mg "min" = none
section
variable {P : Program} {w : World} {K : PySem.W.Frag} {mg : Str → Option Value} {base : Heap} {C : Addr}
theorem ok_sinit {f : Addr} {fd : FuncData} {k : Nat} (F : FunS K f fd) (T : SCl K mg C) : FnOk P w K mg base CX0 (k + 1) f fd ["self", "first", "behind"] (spSInit C) := by
  refine F.ok scSInit (fun vs H Q E h => ?_) (fun cdv A outer s H vs Q E hr h => ?_)
  · obtain ⟨p, dx, a, b, rfl, _⟩ := h
    rfl
  · obtain ⟨p, dx, a, b, rfl, hab, hp, q⟩ := h
    refine ⟨_, PSs.nox (
      (pss_cut (ps_if (pt_cmpR op_isN (pv 2) pe_non (nomark _))
      (pss_one (ps_set (i := 2) scSInit.nd rfl (.inl rfl) (pe_op op_add (pv 1) pe_int)))
      pss_nil)
      (pss_cons (ps_if (pt_cmpR op_lt (pv 2) (pv 1) (nomark _))
      (pss_one ps_never)
      pss_nil)
      (pss_cons (ps_fld (pv 0) (pv 1) rfl)
      (pss_one (ps_fld (pv 0) (pv 2) rfl)))))
      ), ?_⟩
    refine ⟨fun σ H2 => σ = [some (.ref p), some (.int a), some (.int b)] ∧ H2 = H, ?_, ?_⟩
    · refine ⟨_, rfl, rfl, _, rfl, ite2 (fun d => absurd (of_decide_eq_true d) (by intro z; cases z)) (fun _ => ⟨rfl, rfl⟩)⟩
    rintro σ H2 ⟨rfl, rfl⟩
    refine ⟨_, rfl, _, rfl, _, _, rfl, rfl, _, rfl, ite2 (fun d => absurd (of_decide_eq_true d) (by omega)) (fun _ => ?_)⟩
    refine ⟨_, rfl, _, rfl, p, C, dx, _, rfl, hp, T.cl, T.nF, (by show 0 < 1000; decide), ?_⟩
    refine ⟨_, rfl, _, rfl, p, C, dx, _, rfl, upd_same, T.cl, T.nB, (by show 1 < 1000; decide), ?_⟩
    exact q _ ⟨dx, upd_same⟩ fun x o n e => by rw [upd_ne n, upd_ne n]; exact e
theorem isStr (T : SCl K mg C) {H : Hp} {p : Addr} {a b : Int} (h : StrAt C H p a b) : TyX K H (.ref p) (.ref C) := by
  obtain ⟨dx, e⟩ := h
  exact .base (.ins e T.cl T.ha T.hn T.htk T.hm)
theorem kitC : PySem.W.kitOne K (.ref C) (.ref C) = some true := if_pos (beq_self_eq_true _)
theorem ok_seq {f : Addr} {fd : FuncData} {k : Nat} (F : Fun K "__eq__" "Stretch.__eq__" sSEq f fd) (T : SCl K mg C) : FnOk P w K mg base CX0 (k + 1) f fd ["self", "other"] (spSEq C) := by
  refine F.ok scSEq (fun vs H Q E h => ?_) (fun cdv A outer s H vs Q E hr h => ?_)
  · obtain ⟨p, q, a, b, c, d, rfl, _⟩ := h
    rfl
  · obtain ⟨p, r, a, b, c, d, rfl, hp, hr', q⟩ := h
    have gC := T.gC
    refine ⟨_,
      (pss_one (ps_ret (pe_and (pe_callB call_isi (by rfl) T.misinstance (by decide +kernel) (pa_cons (pv 1) (pa_cons (pe_glob (v := .ref C) (by rfl) gC rfl) pa_nil))) (pe_and (pe_cmpR op_eq (pe_fld (pv 0) rfl) (pe_fld (pv 1) rfl) (nomark _)) (pe_one (pe_cmpR op_eq (pe_fld (pv 0) rfl) (pe_fld (pv 1) rfl) (nomark _)))))))
      , ?_⟩
    obtain ⟨dx, ep⟩ := id hp
    obtain ⟨dy, er⟩ := id hr'
    refine ⟨_, rfl, _, _, _, _, true, rfl, .own C, isStr T hr', kitC, true, rfl, ?_⟩
    refine ⟨_, rfl, p, C, dx, _, _, rfl, ep, T.cl, T.nF, strF_first a b, _, rfl, r, C, dy, _, _, rfl, er, T.cl, T.nF, strF_first c d, rfl, _, rfl, ?_⟩
    refine ite2 (fun c1 => ?_) (fun c1 => ?_)
    · have e1 : a = c := V.int.inj (of_decide_eq_true c1)
      refine ⟨_, rfl, p, C, dx, _, _, rfl, ep, T.cl, T.nB, strF_behind a b, _, rfl, r, C, dy, _, _, rfl, er, T.cl, T.nB, strF_behind c d, rfl, ?_⟩
      have z : (decide (a = c) && decide (b = d)) = decide (V.int b = V.int d) := by
        rw [decide_eq_true e1, Bool.true_and]
        exact decide_eq_decide.mpr ⟨fun e => congrArg V.int e, fun e => V.int.inj e⟩
      rw [z] at q
      exact q
    · have e1 : ¬ a = c := fun e => c1 (decide_eq_true (congrArg V.int e))
      rw [decide_eq_false e1, Bool.false_and] at q
      exact q
theorem made_same {H H' : Hp} {x dx : Addr} {o1 o2 : HO} (hx : H x = none) (hdx : H dx = none) (k : ∀ y o, y ≠ x → (upd (upd H dx o1) x o2) y = some o → H' y = some o) : Same H H' := fun y o e =>
  k y o (ne_of_none e hx) (by rw [upd_ne (ne_of_none e hx), upd_ne (ne_of_none e hdx)]; exact e)
/-- a Stretch is made -/
def tMade (C : Addr) (a b : Int) : Hp → VK → Prop := fun H Q => ∀ p H', H p = none → Same H H' → StrAt C H' p a b → Q (.ref p) H'
theorem made {H : Hp} {Q : VK} {a b : Int} {E : XK} (hab : a ≤ b) (q : tMade C a b H Q) : ∀ x dx, H x = none → H dx = none → dx ≠ x → spSInit C [.ref x, .int a, .int b] (upd (upd H dx (.own x)) x (.ins C dx [])) (fun v H2 => v = .non ∧ Q (.ref x) H2) E := by
  intro x dx hx hdx ne
  refine ⟨x, dx, a, b, rfl, hab, upd_same, fun H' hp k => ⟨rfl, q x H' hx (fun y o e => ?_) hp⟩⟩
  exact k y o (ne_of_none e hx) (by rw [upd_ne (ne_of_none e hx), upd_ne (ne_of_none e hdx)]; exact e)
theorem ok_meet {f fI : Addr} {fd fdI : FuncData} {k : Nat} (F : Fun K "meet" "meet" sMeet f fd) (T : SCl K mg C) (TM : TxtM mg) (MStretch : Mk K C fI) (FI : FunS K fI fdI) (bStretch : Binds K fdI ["self", "first", "behind"] []) :
    FnOk P w K mg base CX0 (k + 3) f fd ["one", "other"] (spMeet C) := by
  have GStretch : FnOk P w K mg base CX0 (k + 1) fI fdI ["self", "first", "behind"] (spSInit C) := ok_sinit FI T
  refine F.ok scMeet (fun vs H Q E h => ?_) (fun cdv A outer s H vs Q E hr h => ?_)
  · obtain ⟨p, q, a, b, c, d, rfl, _⟩ := h
    rfl
  · obtain ⟨p, r, a, b, c, d, rfl, hp, hr', q⟩ := h
    have gC := T.gC
    have hrStretch := hr
    have T' := T
    have T := TM
    refine ⟨_,
      (pss_cons (ps_set (i := 2) scMeet.nd rfl (.inl rfl) (pe_callB (call_max2 rfl) (by rfl) T.mmax (by decide +kernel) (pa_cons (pe_fld (pv 0) rfl) (pa_cons (pe_fld (pv 1) rfl) pa_nil))))
      (pss_cons (ps_set (i := 3) scMeet.nd rfl (.inl rfl) (pe_callB (call_min2 rfl) (by rfl) T.mmin (by decide +kernel) (pa_cons (pe_fld (pv 0) rfl) (pa_cons (pe_fld (pv 1) rfl) pa_nil))))
      (pss_cons (ps_if (pt_cmpR op_lt (pv 2) (pv 3) (nomark _))
      (pss_one (ps_ret (pe_make MStretch GStretch hrStretch (by rfl) gC bStretch .nil pass0 (pa_cons (pv 2) (pa_cons (pv 3) pa_nil)))))
      pss_nil)
      (pss_one (ps_ret pe_non)))))
      , ?_⟩
    obtain ⟨dx, ep⟩ := id hp
    obtain ⟨dy, er⟩ := id hr'
    refine ⟨_, rfl, p, C, dx, _, _, rfl, ep, T'.cl, T'.nF, strF_first a b, _, rfl, r, C, dy, _, _, rfl, er, T'.cl, T'.nF, strF_first c d, _, _, rfl, ?_⟩
    refine ⟨_, rfl, p, C, dx, _, _, rfl, ep, T'.cl, T'.nB, strF_behind a b, _, rfl, r, C, dy, _, _, rfl, er, T'.cl, T'.nB, strF_behind c d, _, _, rfl, ?_⟩
    refine ⟨_, rfl, _, rfl, _, _, rfl, rfl, _, rfl, ite2 (fun c1 => ?_) (fun c1 => ?_)⟩
    · have c2 : mx a c < mn b d := of_decide_eq_true c1
      exact ⟨_, rfl, _, rfl, made (Int.le_of_lt c2) fun x H' _ s' hx => q _ H' s' (.inr ⟨c2, x, rfl, hx⟩)⟩
    · exact q _ _ same_refl (.inl ⟨fun c2 => c1 (decide_eq_true c2), rfl⟩)
end
abbrev sPair : Stmt := topS 13
abbrev NPair : List Str := ["_law_tape_here", "_law_base", "_law_first"]
theorem scPair : FnScope NPair ["_law_tape_here", "_law_base"] (defScope sPair) := ⟨rfl, rfl, rfl, by decide +kernel, rfl, by decide +kernel, by decide +kernel⟩
abbrev sDue : Stmt := topS 14
abbrev NDue : List Str := ["_law_this", "_law_that", "_law_some", "_law_minute"]
theorem scDue : FnScope NDue ["_law_this", "_law_that"] (defScope sDue) := ⟨rfl, rfl, rfl, by decide +kernel, rfl, by decide +kernel, by decide +kernel⟩
abbrev sIs : Stmt := topS 15
abbrev NIs : List Str := ["_law_found", "_law_due_here"]
theorem scIs : FnScope NIs ["_law_found", "_law_due_here"] (defScope sIs) := ⟨rfl, rfl, rfl, by decide +kernel, rfl, by decide +kernel, by decide +kernel⟩
abbrev sLaw : Stmt := topS 16
abbrev NLaw : List Str := ["_law_script", "_law_tape_here", "_law_turn", "_law_base", "_law_this", "_law_that", "_law_here", "_law_there", "_law_due_here", "_law_found"]
theorem scLaw : FnScope NLaw ["_law_script"] (defScope sLaw) := ⟨rfl, rfl, rfl, by decide +kernel, rfl, by decide +kernel, by decide +kernel⟩
/-! ### == by the class's own -/
section
variable {X : Cx} {CX : CXT} {C g : Addr} {n : Nat} {fd : FuncData} {ps : List Str} {sp : Sp} {E : XK}
def rOwnI (K : PySem.W.Frag) (C : Addr) (sp : Sp) (E : XK) : R2 := fun x y H Q => ∃ a dx fs b dy ws, x = .ref a ∧ y = .ref b ∧ H a = some (.ins C dx fs) ∧ H b = some (.ins C dy ws) ∧ sp [x, y] H Q E
theorem op_ownI {op : CmpOp} (hop : ∀ a b, compareOp op a b = richCompare op a b) (hs : PySem.W.findIn X.K (.ref C) (cmpInfo op).2.1 = some (some (.ref g))) (hf : PySem.W.isFn X.K (.ref g) = true)
    (hn : PySem.W.notFirst X.K C (.ref C) = true) (F : FnOk X.prog X.w X.K X.mg X.base CX n g fd ps sp) (hb : Binds X.K fd ps [])
    (hr : Room n X.A) (hx : Passes CX X E) : OpR X (compareOp op) (rOwnI X.K C sp E) := by
  intro pins s σ H x y v u Q I rx ry h
  obtain ⟨a, dx, vs, b, dy, ws, rfl, rfl, ha, hb', q⟩ := h
  cases (show v = Value.ref a from rx)
  cases (show u = Value.ref b from ry)
  obtain ⟨_, O1, _⟩ := ins_get I.hok ha
  obtain ⟨_, J, _⟩ := O1.look
  obtain ⟨_, O2, _⟩ := ins_get I.hok hb'
  obtain ⟨_, J', _⟩ := O2.look
  obtain ⟨m, hF⟩ := I.fr
  rw [hop]
  refine PySem.W.cmp_K (op := op) (tb := .ref C) hr.units0 hF I.ok.mod.kin J J'.type hn hs hf ?_
  refine wpAny_mono (run_fn (us := [.ref a, .ref b]) (vs := [.ref a, .ref b]) (dvs := []) F hr hb .nil hx I (.cons rfl (.cons rfl .nil)) q) (fun w s' z => ?_) fun _ _ x => x
  obtain ⟨z', H', I', rz, qz⟩ := z
  exact SlX.cmpback rz ⟨z', H', I', rz, qz⟩
end
section
variable {P : Program} {w : World} {K : PySem.W.Frag} {mg : Str → Option Value} {base : Heap} {C : Addr}
/-- a pair of minutes, at most sixty apart -/
def spPair : Sp := fun vs H Q _ => ∃ (T : Addr) (b : Int) (n : Nat), vs = [.ref T, .int b] ∧ 0 ≤ b ∧ b < 2000000 ∧ n < 900000 ∧ Tape H T n ∧
  ∀ (p : Addr) (x y : Int) H', 0 ≤ x → x ≤ y → y ≤ x + 60 → x < 3000000 → H' p = some (.tup [.int x, .int y]) → p ≠ T → Tape H' T (n + 3) → Keep T H H' → Q (.ref p) H'
theorem ok_pair {f fD fP : Addr} {fd fdD fdP : FuncData} {k : Nat} (F : Fun K "_law_pair" "_law_pair" sPair f fd) (T0 : Txt0 mg)
    (F_law_draw : Fun K "_law_draw" "_law_draw" sDraw fD fdD) (g_law_draw : mg "_law_draw" = some (.ref fD)) (b_law_draw : Binds K fdD ["_law_tape_here", "_law_many"] [])
    (F_law_pick : Fun K "_law_pick" "_law_pick" sPick fP fdP) (g_law_pick : mg "_law_pick" = some (.ref fP)) (b_law_pick : Binds K fdP ["_law_tape_here", "_law_some"] []) :
    FnOk P w K mg base CX0 (k + 3) f fd ["_law_tape_here", "_law_base"] spPair := by
  have G_law_draw : FnOk P w K mg base CX0 (k + 2) fD fdD ["_law_tape_here", "_law_many"] spDraw := ok_draw F_law_draw T0
  have G_law_pick : FnOk P w K mg base CX0 (k + 2) fP fdP ["_law_tape_here", "_law_some"] spPick := ok_pick F_law_pick T0 F_law_draw g_law_draw b_law_draw
  refine F.ok scPair (fun vs H Q E h => ?_) (fun cdv A outer s H vs Q E hr h => ?_)
  · obtain ⟨a, b, n, rfl, _⟩ := h
    rfl
  · obtain ⟨a, b, n, rfl, hb0, hb1, hn, hT, q⟩ := h
    have hr_law_draw := hr
    have hr_law_pick := hr
    refine ⟨_,
      (pss_cons (ps_set (i := 2) scPair.nd rfl (.inl rfl) (pe_op op_add (pv 1) (pe_call G_law_draw hr_law_draw (by rfl) g_law_draw F_law_draw.kp b_law_draw .nil pass0 (pa_cons (pv 0) (pa_cons pe_int pa_nil)))))
      (pss_one (ps_ret (pe_tup (pa_cons (pv 2) (pa_cons (pe_op op_add (pv 2) (pe_call G_law_pick hr_law_pick (by rfl) g_law_pick F_law_pick.kp b_law_pick .nil pass0 (pa_cons (pv 0) (pa_cons (pe_lst (pa_cons pe_int (pa_cons pe_int (pa_cons (pe_call G_law_draw hr_law_draw (by rfl) g_law_draw F_law_draw.kp b_law_draw .nil pass0 (pa_cons (pv 0) (pa_cons pe_int pa_nil))) (pa_cons pe_int pa_nil))))) pa_nil)))) pa_nil))))))
      , ?_⟩
    refine ⟨_, rfl, _, rfl, a, 60, n, rfl, by omega, by omega, by omega, hT, fun d H1 d0 d1 T1 k1 => ⟨_, _, rfl, rfl, ?_⟩⟩
    refine ⟨_, rfl, _, rfl, _, rfl, _, rfl, a, 20, n + 1, rfl, by omega, by omega, by omega, T1, fun d2 H2 d20 d21 T2 k2 => ⟨by show 4 ≤ sizeLine; decide, fun l hl => ?_⟩⟩
    refine ⟨a, l, _, n + 2, rfl, upd_same, T2.ne hl, by show 0 < 4; decide, by show 4 < 1000000; decide, by omega, T2.new hl, fun j x H4 hx T4 k4 => ?_⟩
    have hv : ∃ z : Int, x = .int z ∧ 0 ≤ z ∧ z ≤ 60 := by
      rcases j with _ | _ | _ | _ | j
      · exact ⟨_, (Option.some.inj hx).symm, by decide, by decide⟩
      · exact ⟨_, (Option.some.inj hx).symm, by decide, by decide⟩
      · exact ⟨_, (Option.some.inj hx).symm, d20, by omega⟩
      · exact ⟨_, (Option.some.inj hx).symm, by decide, by decide⟩
      · exact absurd hx (by simp)
    obtain ⟨z, rfl, hz0, hz1⟩ := hv
    refine ⟨_, _, rfl, rfl, by show 2 ≤ sizeLine; decide, fun t ht => ?_⟩
    exact q t (b + d) (b + d + z) _ (by omega) (by omega) (by omega) (by omega) upd_same (T4.ne ht) (T4.new ht) (((k1.trans k2).trans ((Keep.refl.new hl).trans k4)).new ht)
end
/-! ### the minutes that both have, one by one -/
/-- the minutes from x up to but without y -/
def mins (x y : Int) : List V := (List.range (y - x).toNat).map fun k : Nat => V.int (x + k)
theorem mins_nil {x y : Int} (h : y ≤ x) : mins x y = [] := by
  unfold mins
  rw [show (y - x).toNat = 0 by omega]; rfl
theorem mins_snoc {x y : Int} (h : x ≤ y) : mins x (y + 1) = mins x y ++ [.int y] := by
  unfold mins
  rw [show (y + 1 - x).toNat = (y - x).toNat + 1 by omega, List.range_succ, List.map_append]
  show _ ++ [V.int (x + ((y - x).toNat : Int))] = _
  rw [show x + ((y - x).toNat : Int) = y by omega]
theorem mins_len (x y : Int) : (mins x y).length = (y - x).toNat := by unfold mins; rw [List.length_map, List.length_range]
theorem mins_first {x y : Int} (h : x < y) : (mins x y)[0]? = some (.int x) := by
  unfold mins
  rw [List.getElem?_map, List.getElem?_range (by omega)]
  show some (V.int (x + 0)) = _
  rw [Int.add_zero]
theorem mins_last {x y : Int} (h : x < y) : atI (mins x y) (-1) = some (.int (y - 1)) := by
  have e : mins x y = mins x (y - 1) ++ [.int (y - 1)] := by
    have := mins_snoc (x := x) (y := y - 1) (by omega)
    rw [show y - 1 + 1 = y by omega] at this
    exact this
  rw [e]
  exact atI_last _ _
/-- what stands in the list behind i minutes of the first one -/
def upTo (a c d : Int) (i : Nat) : List V := mins (mx a c) (mn (a + i) d)
theorem upTo_in {a c d : Int} {i : Nat} (h1 : c ≤ a + i) (h2 : a + i < d) : upTo a c d (i + 1) = upTo a c d i ++ [.int (a + i)] := by
  unfold upTo mx mn
  rw [if_neg (show ¬ d < a + (i : Int) by omega), if_neg (show ¬ d < a + ((i + 1 : Nat) : Int) by omega)]
  rw [show a + ((i + 1 : Nat) : Int) = (a + i) + 1 by omega]
  split
  · exact mins_snoc (by omega)
  · exact mins_snoc (by omega)
theorem upTo_out {a c d : Int} {i : Nat} (h : ¬ (c ≤ a + i ∧ a + i < d)) : upTo a c d (i + 1) = upTo a c d i := by
  unfold upTo mx mn
  by_cases h1 : c ≤ a + i
  · have h2 : ¬ a + (i : Int) < d := fun z => h ⟨h1, z⟩
    rw [if_pos (show d < a + ((i + 1 : Nat) : Int) by omega)]
    by_cases e : d < a + (i : Int)
    · rw [if_pos e]
    · rw [if_neg e, show a + (i : Int) = d by omega]
  · rw [if_pos (show c > a by omega)]
    rw [mins_nil (by split <;> omega), mins_nil (by split <;> omega)]
theorem upTo_len (a c d : Int) (i : Nat) : (upTo a c d i).length ≤ i := by
  unfold upTo
  rw [mins_len]
  unfold mx mn
  split <;> split <;> omega
structure TxtR (mg : Str → Option Value) : Prop where
  mrange : mg "range" = none
/-- the pair (x, y), None where that is none -/
def DueV (H : Hp) (v : V) (x y : Int) : Prop := (¬ x < y ∧ v = .non) ∨ (x < y ∧ ∃ t, v = .ref t ∧ H t = some (.tup [.int x, .int y]))
theorem DueV.same {H H' : Hp} {v : V} {x y : Int} (h : DueV H v x y) (s : Same H H') : DueV H' v x y := by
  rcases h with h | ⟨l, r, e, h⟩
  · exact .inl h
  · exact .inr ⟨l, r, e, s _ _ h⟩
def spDue : Sp := fun vs H Q _ => ∃ (p q : Addr) (a b c d : Int), vs = [.ref p, .ref q] ∧ H p = some (.tup [.int a, .int b]) ∧ H q = some (.tup [.int c, .int d]) ∧ a ≤ b ∧ b ≤ a + 70 ∧ -1000000000 < a ∧ a < 1000000000 ∧ ∀ v H', Same H H' → DueV H' v (mx a c) (mn b d) → Q v H'
theorem dp_mins {K : PySem.W.Frag} {H : Hp} (x y : Int) : ∃ ns : List Int, mins x y = ns.map V.int := ⟨(List.range (y - x).toNat).map fun k : Nat => x + k, by unfold mins; rw [List.map_map]; rfl⟩
section
variable {P : Program} {w : World} {K : PySem.W.Frag} {mg : Str → Option Value} {base : Heap} {C : Addr}
theorem ok_due {f : Addr} {fd : FuncData} {k : Nat} (F : Fun K "_law_due" "_law_due" sDue f fd) (mrange : mg "range" = none) : FnOk P w K mg base CX0 (k + 1) f fd ["_law_this", "_law_that"] spDue := by
  have T : TxtR mg := ⟨mrange⟩
  refine F.ok scDue (fun vs H Q E h => ?_) (fun cdv A outer s H vs Q E hr h => ?_)
  · obtain ⟨p, q, a, b, c, d, rfl, _⟩ := h
    rfl
  · obtain ⟨p, q, a, b, c, d, rfl, hp, hq, hab, hb, ha0, ha1, qq⟩ := h
    refine ⟨_,
      (pss_cons (ps_setLc (i := 2) (own := [("_law_minute", 3)]) (g := gName 3)  rfl scDue.nd rfl rfl (sw_true rfl rfl rfl (by decide +kernel)) (pi_range2 (by rfl) T.mrange (pa_cons (pe_ix ix_tup (pv 0) pe_int (fun _ _ => rfl)) (pa_cons (pe_ix ix_tup (pv 0) pe_int (fun _ _ => rfl)) pa_nil))) (blkOk_by (N := NDue) (own := [("_law_minute", 3)]) (sc := defScope sDue) (by decide +kernel)) (fun _ _ _ _ _ => pg_name (i := 3) scDue.nd rfl (Or.inl rfl)) (fun _ _ _ _ _ => pts_one (pt_chain op_le op_lt (pe_ix (r := rIxT K) ix_tup (pv 1) pe_int (fun _ _ => rfl)) (pv 3) (pe_ix (r := rIxT K) ix_tup (pv 1) pe_int (fun _ _ => rfl)))) (fun _ _ _ _ _ => (pv 3)))
      (pss_one (ps_ret (pe_ifExp (pt_cmpR (op_eqD hr.units) (pv 2) (pe_lst pa_nil) (nomark _)) pe_non (pe_tup (pa_cons (pe_ix ix_list (pv 2) pe_int (fun _ _ => rfl)) (pa_cons (pe_op op_add (pe_ix ix_list (pv 2) (pe_un un_neg pe_int) (fun _ _ => rfl)) pe_int) pa_nil)))))))
      , ?_⟩
    refine ⟨_, rfl, p, _, 0, _, rfl, rfl, SqT.of hp, atI_nat (j := 0) rfl, _, rfl, p, _, 1, _, rfl, rfl, SqT.of hp, atI_nat (j := 1) rfl, a, b, rfl, ⟨by omega, by omega, by omega, by omega⟩, fun D nD => ?_⟩
    refine lc_range (lo := a) (n := (b - a).toNat) (fun i H2 => Same H H2 ∧ H2 D = some (.lst (upTo a c d i))) ⟨same_upd nD, ?_⟩ ?_ ?_
    · rw [upd_same]
      have : upTo a c d 0 = [] := by
        have := upTo_len a c d 0
        exact List.eq_nil_of_length_eq_zero (by omega)
      rw [this]
    · rintro i H2 hi ⟨s2, e2⟩
      refine ⟨rfl, ?_⟩
      refine ⟨_, rfl, q, _, 0, _, rfl, rfl, SqT.of (s2 _ _ hq), atI_nat (j := 0) rfl, _, rfl, _, _, rfl, rfl, _, rfl, ?_⟩
      have inv : ∀ (H4 : Hp) (l : List V), Same H H4 → upTo a c d (i + 1) = l → Same H (upd H4 D (.lst l)) ∧ (upd H4 D (.lst l)) D = some (.lst (upTo a c d (i + 1))) := fun H4 l z e => ⟨fun x o e' => by rw [upd_ne (ne_of_none e' nD)]; exact z x o e', by rw [upd_same, e]⟩
      have sz : (upTo a c d i).length < sizeLine := Nat.lt_of_le_of_lt (upTo_len a c d i) (small1000 (by omega))
      refine ite2 (fun c1 => ?_) (fun c1 => ?_)
      · have c1' : c ≤ a + i := of_decide_eq_true c1
        refine ⟨_, rfl, q, _, 1, _, rfl, rfl, SqT.of (s2 _ _ hq), atI_nat (j := 1) rfl, _, _, rfl, rfl, _, rfl, ite2 (fun c2 => ?_) (fun c2 => ?_)⟩
        · have c2' : a + i < d := of_decide_eq_true c2
          exact ⟨_, rfl, _, e2, sz, inv _ _ s2 (upTo_in c1' c2')⟩
        · have c2' : ¬ a + i < d := fun z => c2 (decide_eq_true z)
          exact ⟨s2, by rw [upTo_out (fun z => c2' z.2)]; exact e2⟩
      · have c1' : ¬ c ≤ a + i := fun z => c1 (decide_eq_true z)
        refine ⟨_, rfl, ?_⟩
        exact ⟨s2, by rw [upTo_out (fun z => c1' z.1)]; exact e2⟩
    · rintro H2 ⟨s2, e2⟩
      have eu : upTo a c d (b - a).toNat = mins (mx a c) (mn b d) := by
        unfold upTo
        rw [show a + ((b - a).toNat : Int) = b by omega]
      rw [eu] at e2
      refine ⟨_, rfl, Nat.zero_le _, fun l hl => ?_⟩
      obtain ⟨ns, ens⟩ := dp_mins (K := K) (H := H2) (mx a c) (mn b d)
      have u2 := upd_at (o := .lst []) hl e2
      refine ⟨.list (ns.map PyData.int), .list [], .lst (SqL.of u2) (by rw [ens]; exact dp_ints _), .lst (SqL.of upd_same) .nil, ke_shaped_ints ns, ke_shaped_ints [], _, rfl, ?_⟩
      have sl : Same H (upd H2 l (.lst [])) := Same.trans s2 (same_upd hl)
      by_cases lt : mx a c < mn b d
      · have hne : PyData.eqv (.list (ns.map PyData.int)) (.list []) = false := by
          cases ns with
          | nil =>
            have := congrArg List.length ens
            rw [mins_len] at this
            have : (mn b d - mx a c).toNat = 0 := this
            omega
          | cons z zs => rfl
        rw [hne]
        refine iteF ?_
        refine ⟨_, rfl, D, _, 0, _, rfl, rfl, SqL.of u2, atI_nat (j := 0) (mins_first lt), _, rfl, 1, rfl, D, _, -1, _, rfl, rfl, SqL.of u2, mins_last lt, _, _, rfl, rfl, by show 2 ≤ sizeLine; decide, fun t ht => ?_⟩
        refine qq _ _ (sl.trans (same_upd ht)) (.inr ⟨lt, t, rfl, ?_⟩)
        rw [upd_same]
        show some (HO.tup [V.int (mx a c), V.int (mn b d - 1 + 1)]) = _
        rw [show mn b d - 1 + 1 = mn b d by omega]
      · have hne : PyData.eqv (.list (ns.map PyData.int)) (.list []) = true := by
          cases ns with
          | nil => rfl
          | cons z zs =>
            have := congrArg List.length ens
            rw [mins_len] at this
            have : (mn b d - mx a c).toNat = (zs.map V.int).length + 1 := this
            omega
        rw [hne]
        exact iteT (qq _ _ sl (.inl ⟨lt, rfl⟩))
end
def spIs (C : Addr) : Sp := fun vs H Q _ => ∃ (f d : V) (x y : Int), vs = [f, d] ∧ MetV C H f x y ∧ DueV H d x y ∧ ∀ H', Same H H' → Q (.bl true) H'
theorem dp_two {K : PySem.W.Frag} {H : Hp} {t : Addr} {x y : Int} (h : H t = some (.tup [.int x, .int y])) : Dp K H (.ref t) (.tuple [.int x, .int y]) := .tup (SqT.of h) (.cons (.int _) (.cons (.int _) .nil))
section
variable {P : Program} {w : World} {K : PySem.W.Frag} {mg : Str → Option Value} {base : Heap} {C : Addr}
theorem ok_is {f fI fE : Addr} {fd fdI fdE : FuncData} {k : Nat} (F : Fun K "_law_is" "_law_is" sIs f fd) (T : SCl K mg C) (MStretch : Mk K C fI) (FI : FunS K fI fdI) (bStretch : Binds K fdI ["self", "first", "behind"] [])
    (mE : Meth K C "__eq__" fE) (FE : Fun K "__eq__" "Stretch.__eq__" sSEq fE fdE) (bE : Binds K fdE ["self", "other"] []) :
    FnOk P w K mg base CX0 (k + 3) f fd ["_law_found", "_law_due_here"] (spIs C) := by
  have GStretch : FnOk P w K mg base CX0 (k + 1) fI fdI ["self", "first", "behind"] (spSInit C) := ok_sinit FI T
  have GE : FnOk P w K mg base CX0 (k + 2) fE fdE ["self", "other"] (spSEq C) := ok_seq FE T
  refine F.ok scIs (fun vs H Q E h => ?_) (fun cdv A outer s H vs Q E hr h => ?_)
  · obtain ⟨f, d, x, y, rfl, _⟩ := h
    rfl
  · obtain ⟨f, d, x, y, rfl, hm, hd, q⟩ := h
    have hv : (f = .non ∧ d = .non) ∨ ∃ (r t : Addr) (x y : Int), f = .ref r ∧ d = .ref t ∧ x ≤ y ∧ StrAt C H r x y ∧ H t = some (.tup [.int x, .int y]) := by
      rcases hm with ⟨n, e⟩ | ⟨l, r, e, h⟩
      · rcases hd with ⟨_, e2⟩ | ⟨l2, _⟩
        · exact .inl ⟨e, e2⟩
        · exact absurd l2 n
      · rcases hd with ⟨n2, _⟩ | ⟨_, t, e2, h2⟩
        · exact absurd l n2
        · exact .inr ⟨r, t, x, y, e, e2, Int.le_of_lt l, h, h2⟩
    have gC := T.gC
    have hrStretch := hr
    refine ⟨_,
      (pss_cons (ps_if (PW.pt (pw_or (pt_cmpR op_isN (pv 1) pe_non (nomark _)) (pw_or1 (pt_cmpR op_isN (pv 0) pe_non (nomark _)))))
      (pss_one (ps_ret (pe_and (pe_cmpR op_isN (pv 1) pe_non (nomark _)) (pe_one (pe_cmpR op_isN (pv 0) pe_non (nomark _))))))
      pss_nil)
      (pss_one (ps_ret (pe_and (pe_callB call_isi (by rfl) T.misinstance (by decide +kernel) (pa_cons (pv 0) (pa_cons (pe_glob (v := .ref C) (by rfl) gC rfl) pa_nil))) (pe_and (pe_cmpR (op_eqD hr.units) (pe_tup (pa_cons (pe_fld (pv 0) rfl) (pa_cons (pe_fld (pv 0) rfl) pa_nil))) (pv 1) (nomark _)) (pe_one (pe_cmpR (op_ownI (fun _ _ => rfl) mE.at_ mE.fn T.nf GE bE hr pass0) (pv 0) (pe_make MStretch GStretch hrStretch (by rfl) gC bStretch .nil pass0 (pa_cons (pe_ix ix_tup (pv 1) pe_int (fun _ _ => rfl)) (pa_cons (pe_ix ix_tup (pv 1) pe_int (fun _ _ => rfl)) pa_nil))) (nomark _))))))))
      , ?_⟩
    rcases hv with ⟨rfl, rfl⟩ | ⟨r, t, x, y, rfl, rfl, hxy, hs, ht⟩
    · have z := q H same_refl
      refine ⟨_, rfl, rfl, _, rfl, ite2 (fun _ => ?_) (fun n => absurd (decide_eq_true rfl) n)⟩
      refine ⟨_, rfl, rfl, _, rfl, ite2 (fun _ => ?_) (fun n => absurd (decide_eq_true rfl) n)⟩
      exact ⟨_, rfl, rfl, z⟩
    · refine ⟨_, rfl, rfl, _, rfl, ite2 (fun c => absurd (of_decide_eq_true c) (by intro z; cases z)) (fun _ => ?_)⟩
      refine ⟨_, rfl, rfl, _, rfl, ite2 (fun c => absurd (of_decide_eq_true c) (by intro z; cases z)) (fun _ => ?_)⟩
      obtain ⟨dx, er⟩ := id hs
      refine ⟨_, rfl, _, _, _, _, true, rfl, .own C, isStr T hs, kitC, true, rfl, ?_⟩
      refine ⟨_, rfl, r, C, dx, _, _, rfl, er, T.cl, T.nF, strF_first x y, _, rfl, r, C, dx, _, _, rfl, er, T.cl, T.nB, strF_behind x y, by show 2 ≤ sizeLine; decide, fun u hu => ?_⟩
      have s1 := same_upd (o := .tup [.int x, .int y]) hu
      refine ⟨_, rfl, .tuple [.int x, .int y], .tuple [.int x, .int y], dp_two upd_same, dp_two (s1 _ _ ht), rfl, rfl, _, rfl, ite2 (fun _ => ?_) (fun n => absurd (by simp [PyData.eqv, PyData.eqvAll]) n)⟩
      refine ⟨_, rfl, _, rfl, t, _, 0, _, rfl, rfl, SqT.of (s1 _ _ ht), atI_nat (j := 0) rfl, _, rfl, t, _, 1, _, rfl, rfl, SqT.of (s1 _ _ ht), atI_nat (j := 1) rfl, ?_⟩
      intro x1 dx1 hx1 hdx1 ne1
      refine made (E := E0) (Q := fun y H2 => rOwnI K C (spSEq C) E0 (.ref r) y H2 Q) hxy (fun v H' _ s2 hv => ?_) x1 dx1 hx1 hdx1 ne1
      obtain ⟨dy, ev⟩ := id hv
      refine ⟨r, dx, _, v, dy, _, rfl, rfl, s2 _ _ (s1 _ _ er), ev, r, v, x, y, x, y, rfl, ⟨dx, s2 _ _ (s1 _ _ er)⟩, hv, ?_⟩
      rw [decide_eq_true rfl, decide_eq_true rfl]
      exact q _ (s1.trans s2)
theorem mx_comm (a c : Int) : mx c a = mx a c := by unfold mx; split <;> split <;> omega
theorem mn_comm (a c : Int) : mn c a = mn a c := by unfold mn; split <;> split <;> omega
def spLaw (K : PySem.W.Frag) : Sp := fun vs H Q _ => ∃ (a : Addr) (ns : List Int), vs = [.ref a] ∧ SqL K H a (ns.map V.int) ∧ ns.length ≤ 63 ∧ ∀ H', Q (.bl true) H'
structure TxtL (mg : Str → Option Value) : Prop where
  mlen : mg "len" = none
  mmax : mg "max" = none
  mmin : mg "min" = none
  mrange : mg "range" = none
theorem ok_law {f fTape fD fP fI fE fM fPr fDu fIs : Addr} {fd fdTape fdD fdP fdI fdE fdM fdPr fdDu fdIs : FuncData} (F : Fun K "law" "law" sLaw f fd) (T0 : Txt0 mg) (TM : TxtM mg) (T : TxtL mg) (TC : SCl K mg C)
    (MStretch : Mk K C fI) (FI : FunS K fI fdI) (bStretch : Binds K fdI ["self", "first", "behind"] [])
    (mE : Meth K C "__eq__" fE) (FE : Fun K "__eq__" "Stretch.__eq__" sSEq fE fdE) (bE : Binds K fdE ["self", "other"] [])
    (Fmeet : Fun K "meet" "meet" sMeet fM fdM) (gmeet : mg "meet" = some (.ref fM)) (bmeet : Binds K fdM ["one", "other"] [])
    (kbmeet : KBinds K fdM ["one", "other"] ["one", "other"] (kwAll 2) (kwAll 2)) (kcmeet : KBinds K fdM ["one", "other"] ["other", "one"] (fun us ws => (kwAll 2 us ws).reverse) (fun us ws => (kwAll 2 us ws).reverse))
    (F_law_tape : Fun K "_law_tape" "_law_tape" sTape fTape fdTape) (g_law_tape : mg "_law_tape" = some (.ref fTape)) (b_law_tape : Binds K fdTape ["_law_script"] [])
    (F_law_draw : Fun K "_law_draw" "_law_draw" sDraw fD fdD) (g_law_draw : mg "_law_draw" = some (.ref fD)) (b_law_draw : Binds K fdD ["_law_tape_here", "_law_many"] [])
    (F_law_pick : Fun K "_law_pick" "_law_pick" sPick fP fdP) (g_law_pick : mg "_law_pick" = some (.ref fP)) (b_law_pick : Binds K fdP ["_law_tape_here", "_law_some"] [])
    (F_law_pair : Fun K "_law_pair" "_law_pair" sPair fPr fdPr) (g_law_pair : mg "_law_pair" = some (.ref fPr)) (b_law_pair : Binds K fdPr ["_law_tape_here", "_law_base"] [])
    (F_law_due : Fun K "_law_due" "_law_due" sDue fDu fdDu) (g_law_due : mg "_law_due" = some (.ref fDu)) (b_law_due : Binds K fdDu ["_law_this", "_law_that"] [])
    (F_law_is : Fun K "_law_is" "_law_is" sIs fIs fdIs) (g_law_is : mg "_law_is" = some (.ref fIs)) (b_law_is : Binds K fdIs ["_law_found", "_law_due_here"] []) :
    FnOk P w K mg base CX0 4 f fd ["_law_script"] (spLaw K) := by
  have GStretch : FnOk P w K mg base CX0 1 fI fdI ["self", "first", "behind"] (spSInit C) := ok_sinit FI TC
  have Gmeet : FnOk P w K mg base CX0 3 fM fdM ["one", "other"] (spMeet C) := ok_meet Fmeet TC TM MStretch FI bStretch
  have G_law_tape : FnOk P w K mg base CX0 3 fTape fdTape ["_law_script"] (spTape K) := ok_tape F_law_tape T0
  have G_law_draw : FnOk P w K mg base CX0 3 fD fdD ["_law_tape_here", "_law_many"] spDraw := ok_draw F_law_draw T0
  have G_law_pick : FnOk P w K mg base CX0 3 fP fdP ["_law_tape_here", "_law_some"] spPick := ok_pick F_law_pick T0 F_law_draw g_law_draw b_law_draw
  have G_law_pair : FnOk P w K mg base CX0 3 fPr fdPr ["_law_tape_here", "_law_base"] spPair := ok_pair F_law_pair T0 F_law_draw g_law_draw b_law_draw F_law_pick g_law_pick b_law_pick
  have G_law_due : FnOk P w K mg base CX0 3 fDu fdDu ["_law_this", "_law_that"] spDue := ok_due F_law_due T.mrange
  have G_law_is : FnOk P w K mg base CX0 3 fIs fdIs ["_law_found", "_law_due_here"] (spIs C) := ok_is F_law_is TC MStretch FI bStretch mE FE bE
  refine F.ok scLaw (fun vs H Q E h => ?_) (fun cdv A outer s H vs Q E hr h => ?_)
  · obtain ⟨a, n, rfl, _⟩ := h
    rfl
  · obtain ⟨a, ns, rfl, hS, hlen, q⟩ := h
    have gC := TC.gC
    have hrStretch : Room 2 _ := hr.mono (by decide)
    have hr_law_tape := hr
    have hr_law_draw := hr
    have hr_law_pick := hr
    have hr_law_pair := hr
    have hr_law_due := hr
    have hr_law_is := hr
    have hrmeet := hr
    refine ⟨_,
      (pss_cons (ps_set (i := 1) scLaw.nd rfl (.inl rfl) (pe_call G_law_tape hr_law_tape (by rfl) g_law_tape F_law_tape.kp b_law_tape .nil pass0 (pa_cons (pv 0) pa_nil)))
      (pss_cons (ps_for PassesOwn.never rfl (pi_range1 (by rfl) T.mrange (pa_cons (pe_callB (call_max2 rfl) (by rfl) T.mmax (by decide +kernel) (pa_cons pe_int (pa_cons (pe_callB (call_min2 rfl) (by rfl) T.mmin (by decide +kernel) (pa_cons (pe_callB call_len_seq (by rfl) T.mlen PySem.boot_len (pa_cons (pv 0) pa_nil)) (pa_cons pe_int pa_nil))) pa_nil))) pa_nil)) (pg_name (i := 2) scLaw.nd rfl (.inl rfl))
      (pss_cons (ps_set (i := 3) scLaw.nd rfl (.inl rfl) (pe_call G_law_pick hr_law_pick (by rfl) g_law_pick F_law_pick.kp b_law_pick .nil pass0 (pa_cons (pv 1) (pa_cons (pe_lst (pa_cons pe_int (pa_cons pe_int (pa_cons (pe_call G_law_draw hr_law_draw (by rfl) g_law_draw F_law_draw.kp b_law_draw .nil pass0 (pa_cons (pv 1) (pa_cons (pe_op op_pow pe_int pe_int) pa_nil))) pa_nil)))) pa_nil))))
      (pss_cons (ps_set (i := 4) scLaw.nd rfl (.inl rfl) (pe_call G_law_pair hr_law_pair (by rfl) g_law_pair F_law_pair.kp b_law_pair .nil pass0 (pa_cons (pv 1) (pa_cons (pv 3) pa_nil))))
      (pss_cons (ps_set (i := 5) scLaw.nd rfl (.inl rfl) (pe_call G_law_pick hr_law_pick (by rfl) g_law_pick F_law_pick.kp b_law_pick .nil pass0 (pa_cons (pv 1) (pa_cons (pe_lst (pa_cons (pe_call G_law_pair hr_law_pair (by rfl) g_law_pair F_law_pair.kp b_law_pair .nil pass0 (pa_cons (pv 1) (pa_cons (pv 3) pa_nil))) (pa_cons (pe_call G_law_pair hr_law_pair (by rfl) g_law_pair F_law_pair.kp b_law_pair .nil pass0 (pa_cons (pv 1) (pa_cons (pv 3) pa_nil))) (pa_cons (pv 4) (pa_cons (pe_tup (pa_cons (pe_ix ix_tup (pv 4) pe_int (fun _ _ => rfl)) (pa_cons (pe_op op_add (pe_ix ix_tup (pv 4) pe_int (fun _ _ => rfl)) pe_int) pa_nil))) pa_nil))))) pa_nil))))
      (pss_cons (ps_par (i := 6) (j := 7) rfl scLaw.nd rfl rfl (by decide) rfl rfl (pa_cons (pe_make MStretch GStretch hrStretch (by rfl) gC bStretch .nil pass0 (pa_cons (pe_ix ix_tup (pv 4) pe_int (fun _ _ => rfl)) (pa_cons (pe_ix ix_tup (pv 4) pe_int (fun _ _ => rfl)) pa_nil))) (pa_cons (pe_make MStretch GStretch hrStretch (by rfl) gC bStretch .nil pass0 (pa_cons (pe_ix ix_tup (pv 5) pe_int (fun _ _ => rfl)) (pa_cons (pe_ix ix_tup (pv 5) pe_int (fun _ _ => rfl)) pa_nil))) pa_nil)) (by rfl))
      (pss_cut (ps_set (i := 8) scLaw.nd rfl (.inl rfl) (pe_call G_law_due hr_law_due (by rfl) g_law_due F_law_due.kp b_law_due .nil pass0 (pa_cons (pv 4) (pa_cons (pv 5) pa_nil))))
      (pss_cons (ps_for PassesOwn.never rfl (pi_list (pe_lst (pa_cons (pe_call Gmeet hrmeet (by rfl) gmeet Fmeet.kp bmeet .nil pass0 (pa_cons (pv 6) (pa_cons (pv 7) pa_nil))) (pa_cons (pe_call Gmeet hrmeet (by rfl) gmeet Fmeet.kp bmeet .nil pass0 (pa_cons (pv 7) (pa_cons (pv 6) pa_nil))) (pa_cons (pe_callK0 Gmeet hrmeet (by rfl) gmeet Fmeet.kp kbmeet pass0 (pk_cons (pv 6) (pk_cons (pv 7) pk_nil))) (pa_cons (pe_callK0 Gmeet hrmeet (by rfl) gmeet Fmeet.kp kcmeet pass0 (pk_cons (pv 6) (pk_cons (pv 7) pk_nil))) pa_nil)))))) (pg_name (i := 9) scLaw.nd rfl (.inl rfl))
      (pss_one (ps_if (pt_not (pt_val (pe_call G_law_is hr_law_is (by rfl) g_law_is F_law_is.kp b_law_is .nil pass0 (pa_cons (pv 9) (pa_cons (pv 8) pa_nil)))))
      (pss_one (ps_ret pe_bl))
      pss_nil)))
      (pss_cons (ps_if (pt_not (pt_val (pe_call G_law_is hr_law_is (by rfl) g_law_is F_law_is.kp b_law_is .nil pass0 (pa_cons (pe_call Gmeet hrmeet (by rfl) gmeet Fmeet.kp bmeet .nil pass0 (pa_cons (pv 6) (pa_cons (pv 6) pa_nil))) (pa_cons (pe_call G_law_due hr_law_due (by rfl) g_law_due F_law_due.kp b_law_due .nil pass0 (pa_cons (pv 4) (pa_cons (pv 4) pa_nil))) pa_nil)))))
      (pss_one (ps_ret pe_bl))
      pss_nil)
      (pss_one (ps_if (pt_cmpR (op_neD hr.units) (pe_lst (pa_cons (pe_fld (pv 6) rfl) (pa_cons (pe_fld (pv 6) rfl) (pa_cons (pe_fld (pv 7) rfl) (pa_cons (pe_fld (pv 7) rfl) pa_nil))))) (pe_lst (pa_cons (pe_ix ix_tup (pv 4) pe_int (fun _ _ => rfl)) (pa_cons (pe_ix ix_tup (pv 4) pe_int (fun _ _ => rfl)) (pa_cons (pe_ix ix_tup (pv 5) pe_int (fun _ _ => rfl)) (pa_cons (pe_ix ix_tup (pv 5) pe_int (fun _ _ => rfl)) pa_nil))))) (nomark _))
      (pss_one (ps_ret pe_bl))
      pss_nil))))))))))
      (pss_one (ps_ret pe_bl))))
      , ?_⟩
    refine ⟨_, rfl, a, ns, rfl, hS, hlen, fun tp H1 ntp s1 T1 => ?_⟩
    refine ⟨_, rfl, a, _, rfl, .inl (s1.seq hS), _, _, rfl, _, _, rfl, _, rfl, ?_, ?_, ?_⟩
    · show -(2 ^ 62) ≤ (if (if (30 : Int) < _ then (30 : Int) else _) > 6 then _ else (6 : Int))
      split <;> omega
    · show (if (if (30 : Int) < (((ns.map V.int).length : Nat) : Int) then (30 : Int) else (((ns.map V.int).length : Nat) : Int)) > 6 then (if (30 : Int) < (((ns.map V.int).length : Nat) : Int) then (30 : Int) else (((ns.map V.int).length : Nat) : Int)) else (6 : Int)) < 2 ^ 62
      rw [List.length_map]
      split <;> split <;> omega
    refine for_range (fun i σ H2 => ∃ (v2 v3 v4 v5 v6 v7 v8 v9 : Option V), σ = [some (.ref a), some (.ref tp), v2, v3, v4, v5, v6, v7, v8, v9] ∧ Tape H2 tp (20 * i))
      ⟨_, _, _, _, _, _, _, _, rfl, T1⟩ ?_ ?_
    · rintro i σ H2 hi ⟨v2, v3, v4, v5, v6, v7, v8, v9, rfl, T2⟩
      have hi2 : i < 100 := by
        have h : (i : Int) < (if (if (30 : Int) < (((ns.map V.int).length : Nat) : Int) then (30 : Int) else (((ns.map V.int).length : Nat) : Int)) > 6 then (if (30 : Int) < (((ns.map V.int).length : Nat) : Int) then (30 : Int) else (((ns.map V.int).length : Nat) : Int)) else (6 : Int)) := Int.lt_toNat.mp hi
        rw [List.length_map] at h
        split at h <;> split at h <;> omega
      -- base
      refine ⟨_, rfl, _, rfl, _, _, rfl, rfl, ⟨by decide, by decide, by decide⟩, tp, 1000000, 20 * i, rfl, by omega, by omega, by omega, T2, fun d H3 d0 d1 T3 k3 => ⟨by show 3 ≤ sizeLine; decide, fun l hl => ?_⟩⟩
      refine ⟨tp, l, _, 20 * i + 1, rfl, upd_same, T3.ne hl, by show 0 < 3; decide, by show 3 < 1000000; decide, by omega, T3.new hl, fun j x H4 hx T4 k4 => ?_⟩
      have hv : ∃ z : Int, x = .int z ∧ 0 ≤ z ∧ z < 2000000 := by
        rcases j with _ | _ | _ | j
        · exact ⟨_, (Option.some.inj hx).symm, by decide, by decide⟩
        · exact ⟨_, (Option.some.inj hx).symm, by decide, by decide⟩
        · exact ⟨_, (Option.some.inj hx).symm, d0, by omega⟩
        · exact absurd hx (by simp)
      obtain ⟨b, rfl, hb0, hb1⟩ := hv
      -- this
      refine ⟨_, rfl, _, rfl, tp, b, 20 * i + 2, rfl, hb0, hb1, by omega, T4, fun p a1 b1 H5 a10 ab1 ba1 a1m hp5 np T5 k5 => ?_⟩
      -- that
      refine ⟨_, rfl, _, rfl, _, rfl, tp, b, 20 * i + 5, rfl, hb0, hb1, by omega, T5, fun p2 a2 b2 H6 a20 ab2 ba2 a2m hp6 np2 T6 k6 => ?_⟩
      refine ⟨_, rfl, _, rfl, tp, b, 20 * i + 8, rfl, hb0, hb1, by omega, T6, fun p3 a3 b3 H7 a30 ab3 ba3 a3m hp7 np3 T7 k7 => ?_⟩
      have e5 : H7 p = some (.tup [.int a1, .int b1]) := k7 _ _ np (k6 _ _ np hp5)
      have e6 : H7 p2 = some (.tup [.int a2, .int b2]) := k7 _ _ np2 hp6
      refine ⟨_, rfl, _, rfl, p, _, 1, _, rfl, rfl, SqT.of e5, atI_nat (j := 1) rfl, _, rfl, p, _, 1, _, rfl, rfl, SqT.of e5, atI_nat (j := 1) rfl, _, _, rfl, rfl, by show 2 ≤ sizeLine; decide, fun p4 hp4 => ⟨by show 4 ≤ sizeLine; decide, fun l2 hl2 => ?_⟩⟩
      have T8 := (T7.new (o := .tup [.int b1, .int (b1 + 5)]) hp4).new (o := .lst [.ref p2, .ref p3, .ref p, .ref p4]) hl2
      have s8 : Same H7 _ := (same_upd (o := .tup [.int b1, .int (b1 + 5)]) hp4).trans (same_upd (o := .lst [.ref p2, .ref p3, .ref p, .ref p4]) hl2)
      have n4 : p4 ≠ tp := T7.ne hp4
      refine ⟨tp, l2, _, 20 * i + 11, rfl, upd_same, (T7.new hp4).ne hl2, by show 0 < 4; decide, by show 4 < 1000000; decide, by omega, T8, fun j x H9 hx T9 k9 => ?_⟩
      have hv : ∃ (r : Addr) (c1 d1 : Int), x = .ref r ∧ H9 r = some (.tup [.int c1, .int d1]) ∧ 0 ≤ c1 ∧ c1 ≤ d1 ∧ d1 ≤ c1 + 70 ∧ c1 < 4000000 := by
        rcases j with _ | _ | _ | _ | j
        · exact ⟨p2, a2, b2, (Option.some.inj hx).symm, k9 _ _ np2 (s8 _ _ e6), by omega, by omega, by omega, by omega⟩
        · exact ⟨p3, a3, b3, (Option.some.inj hx).symm, k9 _ _ np3 (s8 _ _ hp7), by omega, by omega, by omega, by omega⟩
        · exact ⟨p, a1, b1, (Option.some.inj hx).symm, k9 _ _ np (s8 _ _ e5), by omega, by omega, by omega, by omega⟩
        · exact ⟨p4, b1, b1 + 5, (Option.some.inj hx).symm, k9 _ _ n4 (upd_at hl2 upd_same), by omega, by omega, by omega, by omega⟩
        · exact absurd hx (by simp)
      obtain ⟨r, c1, d1', rfl, hr9, hc0, hcd, hdc, hcm⟩ := hv
      have e9 : H9 p = some (.tup [.int a1, .int b1]) := k9 _ _ np (s8 _ _ e5)
      -- here, there
      refine ⟨_, rfl, p, _, 0, _, rfl, rfl, SqT.of e9, atI_nat (j := 0) rfl, _, rfl, p, _, 1, _, rfl, rfl, SqT.of e9, atI_nat (j := 1) rfl, ?_⟩
      intro x1 dx1 hx1 hdx1 ne1
      refine ⟨x1, dx1, a1, b1, rfl, ab1, upd_same, fun H10 hs10 k10 => ⟨rfl, ?_⟩⟩
      have s10 := made_same hx1 hdx1 k10
      have nx1 : x1 ≠ tp := T9.ne hx1
      refine ⟨_, rfl, r, _, 0, _, rfl, rfl, SqT.of (s10 _ _ hr9), atI_nat (j := 0) rfl, _, rfl, r, _, 1, _, rfl, rfl, SqT.of (s10 _ _ hr9), atI_nat (j := 1) rfl, ?_⟩
      intro x2 dx2 hx2 hdx2 ne2
      refine ⟨x2, dx2, c1, d1', rfl, hcd, upd_same, fun H11 hs11 k11 => ⟨rfl, _, _, rfl, ?_⟩⟩
      have s11 := made_same hx2 hdx2 k11
      have h1 : StrAt C H11 x1 a1 b1 := hs10.same s11
      have e11 : H11 p = some (.tup [.int a1, .int b1]) := s11 _ _ (s10 _ _ e9)
      have r11 : H11 r = some (.tup [.int c1, .int d1']) := s11 _ _ (s10 _ _ hr9)
      have T11 : Tape H11 tp (20 * i + 12) := (T9.same s10).same s11
      -- what is due
      refine ⟨fun σ H12 => ∃ dv : V, σ = [some (.ref a), some (.ref tp), some (.int (0 + (i : Int))), some (.int b), some (.ref p), some (.ref r), some (.ref x1), some (.ref x2), some dv, v9] ∧ Same H11 H12 ∧ DueV H12 dv (mx a1 c1) (mn b1 d1'), ?_, ?_⟩
      · refine ⟨_, rfl, _, rfl, p, r, a1, b1, c1, d1', rfl, e11, r11, ab1, by omega, by omega, by omega, fun v H12 s12 hv => ?_⟩
        exact ⟨v, rfl, s12, hv⟩
      rintro σ H12 ⟨dv, rfl, s12, hdv⟩
      have h1' := h1.same s12
      have h2' := hs11.same s12
      -- the four meetings
      refine ⟨_, rfl, _, rfl, x1, x2, a1, b1, c1, d1', rfl, h1', h2', fun f1 H13 s13 m1 => ?_⟩
      refine ⟨_, rfl, _, rfl, x2, x1, c1, d1', a1, b1, rfl, h2'.same s13, h1'.same s13, fun f2 H14 s14 m2 => ?_⟩
      refine ⟨_, rfl, _, rfl, x1, x2, a1, b1, c1, d1', rfl, (h1'.same s13).same s14, (h2'.same s13).same s14, fun f3 H15 s15 m3 => ?_⟩
      refine ⟨_, rfl, _, rfl, x2, x1, c1, d1', a1, b1, rfl, ((h2'.same s13).same s14).same s15, ((h1'.same s13).same s14).same s15, fun f4 H16 s16 m4 => ⟨by show 4 ≤ sizeLine; decide, fun l4 hl4 => ?_⟩⟩
      have l17 : (upd H16 l4 (.lst [f1, f2, f3, f4])) l4 = some (.lst [f1, f2, f3, f4]) := upd_same
      have sl4 := same_upd (o := .lst [f1, f2, f3, f4]) hl4
      have ecm : mx c1 a1 = mx a1 c1 := mx_comm _ _
      have ecn : mn d1' b1 = mn b1 d1' := mn_comm _ _
      rw [ecm, ecn] at m2 m4
      have sAll : Same H12 (upd H16 l4 (.lst [f1, f2, f3, f4])) := (((s13.trans s14).trans s15).trans s16).trans sl4
      refine ⟨l4, rfl, ⟨_, SqL.of l17⟩, for_list (K := K) (a := l4) (xs := [f1, f2, f3, f4]) (fun j σ H' => ∃ v9, σ = [some (.ref a), some (.ref tp), some (.int (0 + (i : Int))), some (.int b), some (.ref p), some (.ref r), some (.ref x1), some (.ref x2), some dv, v9] ∧ Same (upd H16 l4 (.lst [f1, f2, f3, f4])) H')
        ⟨_, rfl, same_refl⟩ (fun j σ H' _ ⟨_, _, z⟩ => SqL.of (z _ _ l17)) ?_ ?_⟩
      · rintro j y σ H18 hj ⟨v9', rfl, s18⟩
        have hy : MetV C H18 y (mx a1 c1) (mn b1 d1') := by
          rcases j with _ | _ | _ | _ | j
          · rw [← Option.some.inj hj]; exact m1.same ((((s14.trans s15).trans s16).trans sl4).trans s18)
          · rw [← Option.some.inj hj]; exact m2.same (((s15.trans s16).trans sl4).trans s18)
          · rw [← Option.some.inj hj]; exact m3.same ((s16.trans sl4).trans s18)
          · rw [← Option.some.inj hj]; exact m4.same (sl4.trans s18)
          · exact absurd hj (by simp)
        exact ⟨_, rfl, _, rfl, y, dv, _, _, rfl, hy, (hdv.same sAll).same s18, fun H19 s19 => ⟨_, rfl, _, rfl, s18.trans s19⟩⟩
      · rintro σ H18 ⟨v9', rfl, s18⟩
        have sA := sAll.trans s18
        have h1a := h1'.same sA
        have ea := sA _ _ (s12 _ _ e11)
        refine ⟨_, rfl, _, rfl, x1, x1, a1, b1, a1, b1, rfl, h1a, h1a, fun v H20 s20 m20 => ?_⟩
        refine ⟨_, rfl, _, rfl, p, p, a1, b1, a1, b1, rfl, s20 _ _ ea, s20 _ _ ea, ab1, by omega, by omega, by omega, fun dv2 H21 s21 d21 => ?_⟩
        refine ⟨v, dv2, _, _, rfl, m20.same s21, d21, fun H22 s22 => ⟨_, rfl, ?_⟩⟩
        have sB := (s20.trans s21).trans s22
        obtain ⟨dx, ex⟩ := h1a.same sB
        obtain ⟨dy, ey⟩ := (h2'.same sA).same sB
        have ep := sB _ _ ea
        have er := sB _ _ (sA _ _ (s12 _ _ r11))
        refine ⟨_, rfl, x1, C, dx, _, _, rfl, ex, TC.cl, TC.nF, strF_first _ _, _, rfl, x1, C, dx, _, _, rfl, ex, TC.cl, TC.nB, strF_behind _ _, _, rfl, x2, C, dy, _, _, rfl, ey, TC.cl, TC.nF, strF_first _ _, _, rfl, x2, C, dy, _, _, rfl, ey, TC.cl, TC.nB, strF_behind _ _, by show 4 ≤ sizeLine; decide, fun l hl => ?_⟩
        have sl := same_upd (o := .lst [.int a1, .int b1, .int c1, .int d1']) hl
        refine ⟨_, rfl, p, _, 0, _, rfl, rfl, SqT.of (sl _ _ ep), atI_nat (j := 0) rfl, _, rfl, p, _, 1, _, rfl, rfl, SqT.of (sl _ _ ep), atI_nat (j := 1) rfl, _, rfl, r, _, 0, _, rfl, rfl, SqT.of (sl _ _ er), atI_nat (j := 0) rfl, _, rfl, r, _, 1, _, rfl, rfl, SqT.of (sl _ _ er), atI_nat (j := 1) rfl, by show 4 ≤ sizeLine; decide, fun l' hl' => ?_⟩
        refine ⟨.list ([a1, b1, c1, d1'].map PyData.int), .list ([a1, b1, c1, d1'].map PyData.int), .lst (SqL.of (upd_at hl' upd_same)) (dp_ints [a1, b1, c1, d1']), .lst (SqL.of upd_same) (dp_ints [a1, b1, c1, d1']), ke_shaped_ints _, ke_shaped_ints _, _, rfl, ite2 (fun z => ?_) (fun _ => ?_)⟩
        · have e : PyData.eqv (.list ([a1, b1, c1, d1'].map PyData.int)) (.list ([a1, b1, c1, d1'].map PyData.int)) = true := by simp [PyData.eqv, PyData.eqvAll]
          rw [e] at z
          exact absurd z (by decide)
        have T22 : Tape _ tp (20 * i + 12) := ((T11.same s12).same sA).same sB
        exact ⟨_, _, _, _, _, _, _, _, rfl, ((T22.new hl).new hl').mono (by omega)⟩
    · rintro σ H2 _
      exact q H2
end
theorem all_mk {l : PySem.W.OpenLaw} {w : World} {K : PySem.W.Frag} {h : Heap} {mg : Str → Option Value} {fa fmeet f_law_tape f_law_draw f_law_pick f_law_pair f_law_due f_law_is flaw fStretch___init__ fStretch___eq__ CStretch TStretch___init__ : Addr} (X : K.In h) (G : h.Ns mainGlobals mg) (hfa : mg "law" = some (.ref fa))
    {odmeet anmeet od_law_tape an_law_tape od_law_draw an_law_draw od_law_pick an_law_pick od_law_pair an_law_pair od_law_due an_law_due od_law_is an_law_is odlaw anlaw odStretch___init__ anStretch___init__ odStretch___eq__ anStretch___eq__ odTStretch___init__ : Option Addr} {slmeet sl_law_tape sl_law_draw sl_law_pick sl_law_pair sl_law_due sl_law_is sllaw slStretch___init__ slStretch___eq__ slTStretch___init__ : Array (Option Value)} {ocmeet kVmeet dcmeet pmmeet cdmeet ctmeet oc_law_tape kV_law_tape dc_law_tape pm_law_tape cd_law_tape ct_law_tape oc_law_draw kV_law_draw dc_law_draw pm_law_draw cd_law_draw ct_law_draw oc_law_pick kV_law_pick dc_law_pick pm_law_pick cd_law_pick ct_law_pick oc_law_pair kV_law_pair dc_law_pair pm_law_pair cd_law_pair ct_law_pair oc_law_due kV_law_due dc_law_due pm_law_due cd_law_due ct_law_due oc_law_is kV_law_is dc_law_is pm_law_is cd_law_is ct_law_is oclaw kVlaw dclaw pmlaw cdlaw ctlaw ocStretch___init__ kVStretch___init__ dcStretch___init__ pmStretch___init__ cdStretch___init__ ctStretch___init__ ocStretch___eq__ kVStretch___eq__ dcStretch___eq__ pmStretch___eq__ cdStretch___eq__ ctStretch___eq__ ocTStretch___init__ : Value} {nTStretch___init__ : Nat}
    (aStretch : PySem.W.nsIn K mainGlobals "Stretch" = some (some (.ref CStretch))) (pgStretch : PySem.W.plainGet K CStretch Str.empty = true) (hdStretch : PySem.W.hasDictIn K CStretch = true) (poStretch : PySem.W.plainOver K CStretch = true) (saStretch : PySem.W.findIn K (.ref CStretch) "__setattr__" = some (some (.builtin "object.__setattr__"))) (mkStretch : PySem.W.makesIn K CStretch = true) (kcStretch : PySem.W.keepIn K (.ref CStretch) = true)
    (haStretch : PySem.W.findIn K (.ref CStretch) "__class__" = some (some (.builtin "object.__class__"))) (hnStretch : PySem.W.specialIn K (.builtin "object.__class__") "__get__" = some (some (.builtin "getset_descriptor.__get__"))) (htStretch : PySem.W.takesIn K (.builtin "object.__class__") = some true) (hmStretch : PySem.W.mroIn K CStretch (.type "object") = some true) (nfStretch : PySem.W.notFirst K CStretch (.ref CStretch) = true)
    (nStretch_first : PySem.W.findIn K (.ref CStretch) "first" = some none)
    (nStretch_behind : PySem.W.findIn K (.ref CStretch) "behind" = some none)
    (aStretch___init__ : PySem.W.findIn K (.ref CStretch) "__init__" = some (some (.ref fStretch___init__))) (iStretch___init__ : PySem.W.isFn K (.ref fStretch___init__) = true) (lStretch___init__ : K.lookup fStretch___init__ = some ⟨ocStretch___init__, odStretch___init__, .func (PySem.W.fnOf "__init__" "Stretch.__init__" (defArgs sSInit) (defBody sSInit) (defScope sSInit) (.ref TStretch___init__) kVStretch___init__ dcStretch___init__ pmStretch___init__ anStretch___init__ cdStretch___init__ ctStretch___init__), slStretch___init__⟩) (cStretch___init__ : PySem.W.codeIn K cdStretch___init__ "Stretch.__init__" = true) (kStretch___init__ : PySem.W.keepIn K (.ref fStretch___init__) = true)
    (dStretch___init__ : K.lookup TStretch___init__ = some ⟨ocTStretch___init__, odTStretch___init__, .seq #[.none] nTStretch___init__, slTStretch___init__⟩)
    (aStretch___eq__ : PySem.W.findIn K (.ref CStretch) "__eq__" = some (some (.ref fStretch___eq__))) (iStretch___eq__ : PySem.W.isFn K (.ref fStretch___eq__) = true) (lStretch___eq__ : K.lookup fStretch___eq__ = some ⟨ocStretch___eq__, odStretch___eq__, .func (PySem.W.fnOf "__eq__" "Stretch.__eq__" (defArgs sSEq) (defBody sSEq) (defScope sSEq) .none kVStretch___eq__ dcStretch___eq__ pmStretch___eq__ anStretch___eq__ cdStretch___eq__ ctStretch___eq__), slStretch___eq__⟩) (cStretch___eq__ : PySem.W.codeIn K cdStretch___eq__ "Stretch.__eq__" = true) (kStretch___eq__ : PySem.W.keepIn K (.ref fStretch___eq__) = true)
    (ameet : PySem.W.nsIn K mainGlobals "meet" = some (some (.ref fmeet))) (lmeet : K.lookup fmeet = some ⟨ocmeet, odmeet, .func (PySem.W.fnOf "meet" "meet" (defArgs sMeet) (defBody sMeet) (defScope sMeet) .none kVmeet dcmeet pmmeet anmeet cdmeet ctmeet), slmeet⟩) (cmeet : PySem.W.codeIn K cdmeet "meet" = true) (kmeet : PySem.W.keepIn K (.ref fmeet) = true)
    (a_law_tape : PySem.W.nsIn K mainGlobals "_law_tape" = some (some (.ref f_law_tape))) (l_law_tape : K.lookup f_law_tape = some ⟨oc_law_tape, od_law_tape, .func (PySem.W.fnOf "_law_tape" "_law_tape" (defArgs sTape) (defBody sTape) (defScope sTape) .none kV_law_tape dc_law_tape pm_law_tape an_law_tape cd_law_tape ct_law_tape), sl_law_tape⟩) (c_law_tape : PySem.W.codeIn K cd_law_tape "_law_tape" = true) (k_law_tape : PySem.W.keepIn K (.ref f_law_tape) = true)
    (a_law_draw : PySem.W.nsIn K mainGlobals "_law_draw" = some (some (.ref f_law_draw))) (l_law_draw : K.lookup f_law_draw = some ⟨oc_law_draw, od_law_draw, .func (PySem.W.fnOf "_law_draw" "_law_draw" (defArgs sDraw) (defBody sDraw) (defScope sDraw) .none kV_law_draw dc_law_draw pm_law_draw an_law_draw cd_law_draw ct_law_draw), sl_law_draw⟩) (c_law_draw : PySem.W.codeIn K cd_law_draw "_law_draw" = true) (k_law_draw : PySem.W.keepIn K (.ref f_law_draw) = true)
    (a_law_pick : PySem.W.nsIn K mainGlobals "_law_pick" = some (some (.ref f_law_pick))) (l_law_pick : K.lookup f_law_pick = some ⟨oc_law_pick, od_law_pick, .func (PySem.W.fnOf "_law_pick" "_law_pick" (defArgs sPick) (defBody sPick) (defScope sPick) .none kV_law_pick dc_law_pick pm_law_pick an_law_pick cd_law_pick ct_law_pick), sl_law_pick⟩) (c_law_pick : PySem.W.codeIn K cd_law_pick "_law_pick" = true) (k_law_pick : PySem.W.keepIn K (.ref f_law_pick) = true)
    (a_law_pair : PySem.W.nsIn K mainGlobals "_law_pair" = some (some (.ref f_law_pair))) (l_law_pair : K.lookup f_law_pair = some ⟨oc_law_pair, od_law_pair, .func (PySem.W.fnOf "_law_pair" "_law_pair" (defArgs sPair) (defBody sPair) (defScope sPair) .none kV_law_pair dc_law_pair pm_law_pair an_law_pair cd_law_pair ct_law_pair), sl_law_pair⟩) (c_law_pair : PySem.W.codeIn K cd_law_pair "_law_pair" = true) (k_law_pair : PySem.W.keepIn K (.ref f_law_pair) = true)
    (a_law_due : PySem.W.nsIn K mainGlobals "_law_due" = some (some (.ref f_law_due))) (l_law_due : K.lookup f_law_due = some ⟨oc_law_due, od_law_due, .func (PySem.W.fnOf "_law_due" "_law_due" (defArgs sDue) (defBody sDue) (defScope sDue) .none kV_law_due dc_law_due pm_law_due an_law_due cd_law_due ct_law_due), sl_law_due⟩) (c_law_due : PySem.W.codeIn K cd_law_due "_law_due" = true) (k_law_due : PySem.W.keepIn K (.ref f_law_due) = true)
    (a_law_is : PySem.W.nsIn K mainGlobals "_law_is" = some (some (.ref f_law_is))) (l_law_is : K.lookup f_law_is = some ⟨oc_law_is, od_law_is, .func (PySem.W.fnOf "_law_is" "_law_is" (defArgs sIs) (defBody sIs) (defScope sIs) .none kV_law_is dc_law_is pm_law_is an_law_is cd_law_is ct_law_is), sl_law_is⟩) (c_law_is : PySem.W.codeIn K cd_law_is "_law_is" = true) (k_law_is : PySem.W.keepIn K (.ref f_law_is) = true)
    (alaw : PySem.W.nsIn K mainGlobals "law" = some (some (.ref flaw))) (llaw : K.lookup flaw = some ⟨oclaw, odlaw, .func (PySem.W.fnOf "law" "law" (defArgs sLaw) (defBody sLaw) (defScope sLaw) .none kVlaw dclaw pmlaw anlaw cdlaw ctlaw), sllaw⟩) (claw : PySem.W.codeIn K cdlaw "law" = true) (klaw : PySem.W.keepIn K (.ref flaw) = true)
    (zlen : PySem.W.nsIn K mainGlobals "len" = some none)
    (zisinstance : PySem.W.nsIn K mainGlobals "isinstance" = some none)
    (zmax : PySem.W.nsIn K mainGlobals "max" = some none)
    (zmin : PySem.W.nsIn K mainGlobals "min" = some none)
    (zrange : PySem.W.nsIn K mainGlobals "range" = some none)
    : ∃ fd : FuncData, (∀ (s : Shared) (v : Value), BindsTo s fd ⟨[v], []⟩ [("_law_script", v)]) ∧ ∀ base : Heap, K.In base → base.Ns mainGlobals mg → FnOk l.prog w K mg base CX0 4 fa fd ["_law_script"] (spLaw K) := by
  have e := hfa.symm.trans (PySem.W.mg_of X G alaw)
  cases e
  have Fmeet := fun_mk (st := sMeet) lmeet cmeet kmeet
  have gmeet := PySem.W.mg_of X G ameet
  have bmeet := Fmeet.binds (ps := ["one", "other"]) fun _ _ _ _ _ _ us hl => match us, hl with | [_, _], _ => rfl
  have F_law_tape := fun_mk (st := sTape) l_law_tape c_law_tape k_law_tape
  have g_law_tape := PySem.W.mg_of X G a_law_tape
  have b_law_tape := F_law_tape.binds (ps := ["_law_script"]) fun _ _ _ _ _ _ us hl => match us, hl with | [_], _ => rfl
  have F_law_draw := fun_mk (st := sDraw) l_law_draw c_law_draw k_law_draw
  have g_law_draw := PySem.W.mg_of X G a_law_draw
  have b_law_draw := F_law_draw.binds (ps := ["_law_tape_here", "_law_many"]) fun _ _ _ _ _ _ us hl => match us, hl with | [_, _], _ => rfl
  have F_law_pick := fun_mk (st := sPick) l_law_pick c_law_pick k_law_pick
  have g_law_pick := PySem.W.mg_of X G a_law_pick
  have b_law_pick := F_law_pick.binds (ps := ["_law_tape_here", "_law_some"]) fun _ _ _ _ _ _ us hl => match us, hl with | [_, _], _ => rfl
  have F_law_pair := fun_mk (st := sPair) l_law_pair c_law_pair k_law_pair
  have g_law_pair := PySem.W.mg_of X G a_law_pair
  have b_law_pair := F_law_pair.binds (ps := ["_law_tape_here", "_law_base"]) fun _ _ _ _ _ _ us hl => match us, hl with | [_, _], _ => rfl
  have F_law_due := fun_mk (st := sDue) l_law_due c_law_due k_law_due
  have g_law_due := PySem.W.mg_of X G a_law_due
  have b_law_due := F_law_due.binds (ps := ["_law_this", "_law_that"]) fun _ _ _ _ _ _ us hl => match us, hl with | [_, _], _ => rfl
  have F_law_is := fun_mk (st := sIs) l_law_is c_law_is k_law_is
  have g_law_is := PySem.W.mg_of X G a_law_is
  have b_law_is := F_law_is.binds (ps := ["_law_found", "_law_due_here"]) fun _ _ _ _ _ _ us hl => match us, hl with | [_, _], _ => rfl
  have Flaw := fun_mk (st := sLaw) llaw claw klaw
  have glaw := PySem.W.mg_of X G alaw
  have blaw := Flaw.binds (ps := ["_law_script"]) fun _ _ _ _ _ _ us hl => match us, hl with | [_], _ => rfl
  have gCStretch := PySem.W.mg_of X G aStretch
  have FStretch___init__ : FunS K fStretch___init__ _ := ⟨⟨_, _, _, _, _, _, _, _, _, _, rfl, lStretch___init__, cStretch___init__, .inr ⟨by simp, TStretch___init__, _, [.none], _, rfl, dStretch___init__, rfl, .cons rfl (.nil)⟩, .inl rfl⟩, kStretch___init__⟩
  have FStretch___eq__ := fun_mk (st := sSEq) lStretch___eq__ cStretch___eq__ kStretch___eq__
  have bStretch___eq__ := FStretch___eq__.binds (ps := ["self", "other"]) fun _ _ _ _ _ _ us hl => match us, hl with | [_, _], _ => rfl
  have kbmeet := fun_kbindsA Fmeet (ps := ["one", "other"]) (ks := ["one", "other"]) (by intro z; cases z) fun _ _ _ _ _ _ ws hl => match ws, hl with | [_, _], _ => rfl
  have mlen := PySem.W.mg_none_of X G zlen
  have misinstance := PySem.W.mg_none_of X G zisinstance
  have mmax := PySem.W.mg_none_of X G zmax
  have mmin := PySem.W.mg_none_of X G zmin
  have mrange := PySem.W.mg_none_of X G zrange
  have kcmeet := fun_kbindsR Fmeet (ps := ["one", "other"]) (ks := ["other", "one"]) (by intro z; cases z) fun _ _ _ _ _ _ ws hl => match ws, hl with | [_, _], _ => rfl
  exact ⟨_, fun s v => .of_eq rfl, fun base _ _ => ok_law Flaw ⟨mlen⟩ ⟨mmax, mmin⟩ ⟨mlen, mmax, mmin, mrange⟩ ⟨⟨pgStretch, hdStretch, poStretch, saStretch⟩, nStretch_first, nStretch_behind, gCStretch, haStretch, hnStretch, htStretch, hmStretch, nfStretch, misinstance⟩
    ⟨mkStretch, aStretch___init__, iStretch___init__, kcStretch⟩ FStretch___init__ FStretch___init__.b3 ⟨aStretch___eq__, iStretch___eq__, kStretch___eq__⟩ FStretch___eq__ bStretch___eq__ Fmeet gmeet bmeet kbmeet kcmeet
    F_law_tape g_law_tape b_law_tape F_law_draw g_law_draw b_law_draw F_law_pick g_law_pick b_law_pick F_law_pair g_law_pair b_law_pair F_law_due g_law_due b_law_due F_law_is g_law_is b_law_is⟩
end Bb
open PySem PySem.W PyProof.Rows
set_option maxHeartbeats 0 in
theorem PySem.Challenge.cw_boatbridge_k04_what_two_have_holds : PySem.Challenge.rw_boatbridge_k04_what_two_have.Holds := by
  w_on; o_law; k_head; (case hw => w_witness2)
  k_fill
  refine L2.walk_of (l := PySem.Challenge.rw_boatbridge_k04_what_two_have) (n := 63) (k := 4) (x := "_law_script") (CX := fun _ => L2.CX0) (sp := fun w => Bb.spLaw _) rfl (by decide) rfl ⟨rfl, by decide, by decide⟩ (fun w h Y => PySem.W.kIn_of Y) ?F (fun _ _ a ns hl _ hS => ⟨a, ns, rfl, hS, hl, fun _ => rfl⟩) (fun _ _ _ _ _ h => h)
  case F =>
    intro w mg fa h KX G hmg
    refine' Bb.all_mk KX G hmg ?aStretch ?pgStretch ?hdStretch ?poStretch ?saStretch ?mkStretch ?kcStretch ?haStretch ?hnStretch ?htStretch ?hmStretch ?nfStretch ?nStretch_first ?nStretch_behind ?aStretch___init__ ?iStretch___init__ ?lStretch___init__ ?cStretch___init__ ?kStretch___init__ ?dStretch___init__ ?aStretch___eq__ ?iStretch___eq__ ?lStretch___eq__ ?cStretch___eq__ ?kStretch___eq__ ?ameet ?lmeet ?cmeet ?kmeet ?a_law_tape ?l_law_tape ?c_law_tape ?k_law_tape ?a_law_draw ?l_law_draw ?c_law_draw ?k_law_draw ?a_law_pick ?l_law_pick ?c_law_pick ?k_law_pick ?a_law_pair ?l_law_pair ?c_law_pair ?k_law_pair ?a_law_due ?l_law_due ?c_law_due ?k_law_due ?a_law_is ?l_law_is ?c_law_is ?k_law_is ?alaw ?llaw ?claw ?klaw ?zlen ?zisinstance ?zmax ?zmin ?zrange
    (case aStretch => k_is)
    (case pgStretch => k_is)
    (case hdStretch => k_is)
    (case poStretch => k_is)
    (case saStretch => k_is)
    (case mkStretch => k_is)
    (case kcStretch => k_is)
    (case haStretch => k_is)
    (case hnStretch => k_is)
    (case htStretch => k_is)
    (case hmStretch => k_is)
    (case nfStretch => k_is)
    (case nStretch_first => k_is)
    (case nStretch_behind => k_is)
    (case aStretch___init__ => k_is)
    (case iStretch___init__ => k_is)
    (case lStretch___init__ => k_is)
    (case cStretch___init__ => k_is)
    (case kStretch___init__ => k_is)
    (case dStretch___init__ => k_is)
    (case aStretch___eq__ => k_is)
    (case iStretch___eq__ => k_is)
    (case lStretch___eq__ => k_is)
    (case cStretch___eq__ => k_is)
    (case kStretch___eq__ => k_is)
    (case ameet => k_is)
    (case lmeet => k_is)
    (case cmeet => k_is)
    (case kmeet => k_is)
    (case a_law_tape => k_is)
    (case l_law_tape => k_is)
    (case c_law_tape => k_is)
    (case k_law_tape => k_is)
    (case a_law_draw => k_is)
    (case l_law_draw => k_is)
    (case c_law_draw => k_is)
    (case k_law_draw => k_is)
    (case a_law_pick => k_is)
    (case l_law_pick => k_is)
    (case c_law_pick => k_is)
    (case k_law_pick => k_is)
    (case a_law_pair => k_is)
    (case l_law_pair => k_is)
    (case c_law_pair => k_is)
    (case k_law_pair => k_is)
    (case a_law_due => k_is)
    (case l_law_due => k_is)
    (case c_law_due => k_is)
    (case k_law_due => k_is)
    (case a_law_is => k_is)
    (case l_law_is => k_is)
    (case c_law_is => k_is)
    (case k_law_is => k_is)
    (case alaw => k_is)
    (case llaw => k_is)
    (case claw => k_is)
    (case klaw => k_is)
    (case zlen => k_is)
    (case zisinstance => k_is)
    (case zmax => k_is)
    (case zmin => k_is)
    (case zrange => k_is)
