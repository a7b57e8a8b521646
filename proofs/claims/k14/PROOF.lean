import PyProof.Rows.All
import Wide.All
import OpenK.AllK
import Wide.FinOn
import PyProof.FString3
import PyProof.InstNe
import HandS.ForMost
import HandS.FStr
import HandS.StrMore
import HandS.IsInst
import HandS.Codes
import HandS.TryOnly
import HandS.SlotsOwn
import HandS.Defaults
import HandS.MakeKw
import HandS.MakeKwOnly
import HandS.OwnEq
import KE.KCallOwn
import KE.KFmtOwn
import HandS.ExcInit
import HandS.ExcIs
import HandS.ExcField
import HandS.ExcValue
import KE.KExcIs
import KE.KExcInit
import HandS.Conv
import OpenK.KOps
import PyProof.Rows.Range3
import PyProof.ListRange
import HandS.Style
import PyProof.ReprRoads
import PyProof.ExcBaseAll.LookupError
import PyProof.ExcBaseAll.IndexError
import HandS.SortInts
import HandS.SortKw
import HandS.Star
import HandS.Flow
import HandS.WordsExc
import HandS.FStrTup
import HandS.CallSlots
import HandS.Zip
import PySem.Challenge.RW_boatbridge_k14_room_beside_a_load
set_option Elab.async false
set_option linter.all false
set_option maxRecDepth 100000
namespace Bb
open PySem PySem.Spec PyProof.Rows L2 PySem.W
open C8 (pss_cut)
open TL (tl ext_tl partition_app partition_none)
def topS (i : Nat) : Stmt := PySem.Challenge.pw_boatbridge_k14_room_beside_a_load.main.body.getD i (.Pass ⟨0, 0, 0, 0⟩)
abbrev sTape : Stmt := topS 24
abbrev NTape : List Str := ["_law_script"]
theorem scTape : FnScope NTape ["_law_script"] (defScope sTape) := ⟨rfl, rfl, rfl, by decide +kernel, rfl, by decide +kernel, by decide +kernel⟩
abbrev sDraw : Stmt := topS 25
abbrev NDraw : List Str := ["_law_tape_here", "_law_many", "_law_digit", "_law_turn", "_law_cell", "_law_primes", "_law_prime", "_law_mixed"]
theorem scDraw : FnScope NDraw ["_law_tape_here", "_law_many"] (defScope sDraw) := ⟨rfl, rfl, rfl, by decide +kernel, rfl, by decide +kernel, by decide +kernel⟩
abbrev sPick : Stmt := topS 26
abbrev NPick : List Str := ["_law_tape_here", "_law_some"]
theorem scPick : FnScope NPick ["_law_tape_here", "_law_some"] (defScope sPick) := ⟨rfl, rfl, rfl, by decide +kernel, rfl, by decide +kernel, by decide +kernel⟩

/-- the tape at T: the cells' list, the draws done (at most n), the rest of a great cell -/
structure Tape (H : Hp) (T c : Addr) (n : Nat) : Prop where
  ex : ∃ (t r : Int) (ns : List Int), H T = some (.lst [.ref c, .int t, .int r]) ∧ H c = some (.lst (ns.map V.int)) ∧ c ≠ T ∧ 0 ≤ t ∧ t ≤ n ∧ ns.length ≤ 63
/-- all but the tape stands as it stood -/
def Keep (T : Addr) (H H' : Hp) : Prop := ∀ a o, a ≠ T → H a = some o → H' a = some o
theorem Keep.refl {T : Addr} {H : Hp} : Keep T H H := fun _ _ _ e => e
theorem Keep.trans {T : Addr} {H H1 H2 : Hp} (a : Keep T H H1) (b : Keep T H1 H2) : Keep T H H2 := fun x o n e => b x o n (a x o n e)
theorem Keep.updT {T : Addr} {H H1 : Hp} {o : HO} (a : Keep T H H1) : Keep T H (upd H1 T o) := fun x o n e => by
  rw [upd_ne n]; exact a x o n e
theorem Keep.new {T : Addr} {H H1 : Hp} {p : Addr} {o : HO} (a : Keep T H H1) (h : H1 p = none) : Keep T H (upd H1 p o) := fun x o n e => by
  have z := a x o n e
  rw [upd_ne (ne_of_none z h)]; exact z
theorem Tape.mono {H : Hp} {T c : Addr} {n m : Nat} (h : Tape H T c n) (l : n ≤ m) : Tape H T c m := by
  obtain ⟨t, r, ns, h1, h2, h3, h4, h5, h6⟩ := h.ex
  exact ⟨t, r, ns, h1, h2, h3, h4, by omega, h6⟩
theorem Tape.upd {H : Hp} {T c : Addr} {n : Nat} {p : Addr} {o : HO} (h : Tape H T c n) (n1 : p ≠ T) (n2 : p ≠ c) : Tape (upd H p o) T c n := by
  obtain ⟨t, r, ns, h1, h2, h3, h4, h5, h6⟩ := h.ex
  exact ⟨t, r, ns, by rw [upd_ne n1.symm]; exact h1, by rw [upd_ne n2.symm]; exact h2, h3, h4, h5, h6⟩
theorem Tape.new {H : Hp} {T c : Addr} {n : Nat} {p : Addr} {o : HO} (h : Tape H T c n) (hp : H p = none) : Tape (L2.upd H p o) T c n := by
  obtain ⟨t, r, ns, h1, h2, h3, h4, h5, h6⟩ := h.ex
  exact ⟨t, r, ns, by rw [upd_ne (ne_of_none h1 hp)]; exact h1, by rw [upd_ne (ne_of_none h2 hp)]; exact h2, h3, h4, h5, h6⟩
theorem Tape.nec {H : Hp} {T c : Addr} {n : Nat} {p : Addr} (h : Tape H T c n) (hp : H p = none) : p ≠ c := by
  obtain ⟨t, r, ns, _, h2, _⟩ := h.ex
  exact (ne_of_none h2 hp).symm
theorem Tape.ne {H : Hp} {T c : Addr} {n : Nat} {p : Addr} (h : Tape H T c n) (hp : H p = none) : p ≠ T := by
  obtain ⟨t, r, ns, h1, _⟩ := h.ex
  exact (ne_of_none h1 hp).symm
theorem upd_at {H : Hp} {p a : Addr} {o z : HO} (hp : H p = none) (h : H a = some z) : (upd H p o) a = some z := by
  rw [upd_ne (ne_of_none h hp)]; exact h
def spTape (K : PySem.W.Frag) : Sp := fun vs H Q _ => ∃ (a : Addr) (ns : List Int), vs = [.ref a] ∧ SqL K H a (ns.map V.int) ∧ ns.length ≤ 63 ∧
  ∀ T c H', H T = none → H c = none → Same H H' → Tape H' T c 0 → Q (.ref T) H'
def spDraw : Sp := fun vs H Q _ => ∃ (T c : Addr) (b : Int) (n : Nat), vs = [.ref T, .int b] ∧ 0 < b ∧ b < 1073741824 ∧ n < 1000000 ∧ Tape H T c n ∧
  ∀ d H', 0 ≤ d → d < b → Tape H' T c (n + 1) → Keep T H H' → Q (.int d) H'
/-- an item of a list, any one -/
def spPick : Sp := fun vs H Q _ => ∃ (T c p : Addr) (xs : List V) (n : Nat), vs = [.ref T, .ref p] ∧ H p = some (.lst xs) ∧ p ≠ T ∧ 0 < xs.length ∧ xs.length < 1000000 ∧ n < 1000000 ∧ Tape H T c n ∧
  ∀ (j : Nat) (x : V) H', xs[j]? = some x → Tape H' T c (n + 1) → Keep T H H' → Q x H'
theorem dp_ints {K : PySem.W.Frag} {H : Hp} : ∀ ns : List Int, DpAll K H (ns.map V.int) (ns.map PyData.int)
  | [] => .nil
  | _ :: r => .cons (.int _) (dp_ints r)
theorem cut63 {ns : List Int} (h : ns.length ≤ 63) : cutV (ns.map V.int) none (some 63) = ns.map V.int := by
  unfold cutV
  rw [HT.sIx_none, show HT.sIx (ns.map V.int).length (ns.map V.int).length (some 63) = min 63 (ns.map V.int).length from HT.sIx_nat _ _ 63, List.length_map, Nat.min_eq_right h]
  show ((ns.map V.int).take (ns.length - 0)) = _
  rw [Nat.sub_zero]
  exact List.take_of_length_le (by rw [List.length_map]; exact Nat.le_refl _)
theorem fmod_in {a b : Int} (h : 0 < b) : 0 ≤ a.fmod b ∧ a.fmod b < b := by
  rw [Int.fmod_eq_emod_of_nonneg a (Int.le_of_lt h)]; exact ⟨Int.emod_nonneg a (by omega), Int.emod_lt_of_pos a h⟩
theorem prime_at (t : Int) : ∃ (j : Nat) (p : Int), t.fmod 5 = (j : Int) ∧ ([.int 2147483647, .int 2147483629, .int 2147483587, .int 2147483579, .int 2147483563] : List V)[j]? = some (.int p) ∧ 0 < p ∧ p < 2147483648 := by
  obtain ⟨h1, h2⟩ := fmod_in (a := t) (b := 5) (by decide)
  generalize t.fmod 5 = z at h1 h2
  have : z = 0 ∨ z = 1 ∨ z = 2 ∨ z = 3 ∨ z = 4 := by omega
  rcases this with rfl | rfl | rfl | rfl | rfl
  · exact ⟨0, _, rfl, rfl, by decide, by decide⟩
  · exact ⟨1, _, rfl, rfl, by decide, by decide⟩
  · exact ⟨2, _, rfl, rfl, by decide, by decide⟩
  · exact ⟨3, _, rfl, rfl, by decide, by decide⟩
  · exact ⟨4, _, rfl, rfl, by decide, by decide⟩
/-- what the law's helpers ask of the module's names -/
structure Txt0 (mg : Str → Option Value) : Prop where
  mlen : mg "len" = none
section
variable {P : Program} {w : World} {K : PySem.W.Frag} {mg : Str → Option Value} {base : Heap}
theorem ok_draw {f : Addr} {fd : FuncData} {k : Nat} (F : Fun K "_law_draw" "_law_draw" sDraw f fd) (T : Txt0 mg) : FnOk P w K mg base CX0 (k + 1) f fd ["_law_tape_here", "_law_many"] spDraw := by
  refine F.ok scDraw (fun vs H Q E h => ?_) (fun cdv A outer s H vs Q E hr h => ?_)
  · obtain ⟨T, c, b, n, rfl, _⟩ := h
    rfl
  · obtain ⟨a, c, b, n, rfl, hb0, hb1, hn, hT, q⟩ := h
    obtain ⟨t, r, ns, h1, h2, h3, h4, h5, h6⟩ := hT.ex
    refine ⟨_,
      (pss_cons (ps_if (pt_cmpR op_gt (pe_ix ix_list (pv 0) pe_int (fun _ _ => rfl)) pe_int (nomark _))
      (pss_cons (ps_set (i := 2) scDraw.nd rfl (.inl rfl) (pe_op op_modN (pe_ix ix_list (pv 0) pe_int (fun _ _ => rfl)) (pv 1)))
      (pss_cons (ps_asg (pe_op op_fdivN (pe_ix ix_list (pv 0) pe_int (fun _ _ => rfl)) (pv 1)) (pg_sub (pv 0) pe_int set_list))
      (pss_one (ps_ret (pv 2)))))
      pss_nil)
      (pss_cons (ps_set (i := 3) scDraw.nd rfl (.inl rfl) (pe_ix ix_list (pv 0) pe_int (fun _ _ => rfl)))
      (pss_cut (ps_asg (pe_op op_add (pv 3) pe_int) (pg_sub (pv 0) pe_int set_list))
      (pss_cons (ps_set (i := 4) scDraw.nd rfl (.inl rfl) pe_int)
      (pss_cut (ps_if (pt_cmpR (op_neD hr.units) (pe_ix ix_list (pv 0) pe_int (fun _ _ => rfl)) (pe_lst pa_nil) (nomark _))
      (pss_one (ps_set (i := 4) scDraw.nd rfl (.inl rfl) (pe_ix ix_list (pe_ix ix_list (pv 0) pe_int (fun _ _ => rfl)) (pe_op op_modN (pv 3) (pe_callB call_len_seq (by rfl) T.mlen PySem.boot_len (pa_cons (pe_ix ix_list (pv 0) pe_int (fun _ _ => rfl)) pa_nil))) (fun _ _ => rfl))))
      pss_nil)
      (pss_cut (ps_if (PW.pt (pw_and (pt_cmpR op_ge (pv 4) (pe_op op_pow pe_int pe_int) (nomark _)) (pw_and1 (pt_cmpR op_lt (pv 3) (pe_callB call_len_seq (by rfl) T.mlen PySem.boot_len (pa_cons (pe_ix ix_list (pv 0) pe_int (fun _ _ => rfl)) pa_nil)) (nomark _)))))
      (pss_cons (ps_asg (pe_op op_fdivN (pe_op op_sub (pv 4) (pe_op op_pow pe_int pe_int)) (pv 1)) (pg_sub (pv 0) pe_int set_list))
      (pss_one (ps_ret (pe_op op_modN (pe_op op_sub (pv 4) (pe_op op_pow pe_int pe_int)) (pv 1)))))
      pss_nil)
      (pss_cons (ps_set (i := 5) scDraw.nd rfl (.inl rfl) (pe_lst (pa_cons pe_int (pa_cons pe_int (pa_cons pe_int (pa_cons pe_int (pa_cons pe_int pa_nil)))))))
      (pss_cons (ps_set (i := 6) scDraw.nd rfl (.inl rfl) (pe_ix ix_list (pv 5) (pe_op op_modN (pv 3) pe_int) (fun _ _ => rfl)))
      (pss_cut (ps_set (i := 7) scDraw.nd rfl (.inl rfl) (pe_op op_modN (pe_op op_add (pe_op op_add (pe_op op_add (pe_op op_mul (pe_op op_modN (pv 4) (pv 6)) pe_int) (pe_op op_mul (pe_op op_mul pe_int (pv 3)) (pv 3))) (pe_op op_mul pe_int (pv 3))) pe_int) (pv 6)))
      (pss_cut (ps_set (i := 7) scDraw.nd rfl (.inl rfl) (pe_op op_modN (pe_op op_mul (pv 7) (pe_op op_add (pv 7) pe_int)) (pe_ix ix_list (pv 5) (pe_op op_modN (pe_op op_add (pv 3) pe_int) pe_int) (fun _ _ => rfl))))
      (pss_one (ps_ret (pe_op op_modN (pe_op op_fdivN (pe_op op_modN (pe_op op_mul (pv 7) (pv 7)) pe_int) pe_int) (pv 1))))))))))))))
      , ?_⟩
    -- if tape[2] > 0
    refine ⟨_, rfl, a, _, 2, _, rfl, rfl, SqL.of h1, atI_nat (j := 2) rfl, _, _, rfl, rfl, _, rfl, ite2 (fun _ => ?_) (fun _ => ?_)⟩
    · obtain ⟨e1, e2⟩ := fmod_in (a := r) hb0
      refine ⟨_, rfl, a, _, 2, _, rfl, rfl, SqL.of h1, atI_nat (j := 2) rfl, _, rfl, _, _, rfl, rfl, by omega, ?_⟩
      refine ⟨_, rfl, a, _, 2, _, rfl, rfl, SqL.of h1, atI_nat (j := 2) rfl, _, rfl, _, _, rfl, rfl, ⟨by omega, by omega⟩, ?_⟩
      refine ⟨_, rfl, a, _, 2, 2, rfl, rfl, h1, rfl, ?_⟩
      refine ⟨_, rfl, q _ _ e1 e2 ⟨t, _, ns, upd_same, ?_, h3, h4, by omega, h6⟩ Keep.refl.updT⟩
      rw [upd_ne h3]; exact h2
    · refine ⟨_, rfl, a, _, 1, _, rfl, rfl, SqL.of h1, atI_nat (j := 1) rfl, ?_⟩
      refine ⟨fun σ H2 => σ = [some (.ref a), some (.int b), none, some (.int t), none, none, none, none] ∧ H2 a = some (.lst [.ref c, .int (t + 1), .int r]) ∧ H2 c = some (.lst (ns.map V.int)) ∧ Keep a H H2, ?_, ?_⟩
      · refine ⟨_, rfl, _, _, rfl, rfl, _, rfl, a, _, 1, 1, rfl, rfl, h1, rfl, rfl, upd_same, ?_, Keep.refl.updT⟩
        rw [upd_ne h3]; exact h2
      rintro σ H1 ⟨rfl, g1, g2, k0⟩
      -- if tape[0] != []: the two ways meet at a cell, any one
      refine ⟨fun σ H2 => ∃ cell : Int, σ = [some (.ref a), some (.int b), none, some (.int t), some (.int cell), none, none, none] ∧ H2 a = some (.lst [.ref c, .int (t + 1), .int r]) ∧ H2 c = some (.lst (ns.map V.int)) ∧ Keep a H H2, ?_, ?_⟩
      · refine ⟨_, rfl, a, _, 0, _, rfl, rfl, SqL.of g1, atI_nat (j := 0) rfl, Nat.zero_le _, fun l hl => ?_⟩
        have u1 := upd_at (o := .lst []) hl g1
        have u2 := upd_at (o := .lst []) hl g2
        refine ⟨_, .list [], .lst (SqL.of u2) (dp_ints _), .lst (SqL.of upd_same) .nil, ke_shaped_ints ns, ke_shaped_ints [], _, rfl, ?_⟩
        cases hns : ns with
        | nil => exact iteF ⟨0, rfl, u1, by rw [← hns]; exact u2, k0.new hl⟩
        | cons z zs =>
          refine iteT ?_
          rw [← hns]
          have hpos : 0 < (ns.length : Int) := by rw [hns]; simp
          refine ⟨_, rfl, a, _, 0, _, rfl, rfl, SqL.of u1, atI_nat (j := 0) rfl, _, rfl, _, rfl, a, _, 0, _, rfl, rfl, SqL.of u1, atI_nat (j := 0) rfl, c, _, rfl, .inl (SqL.of u2), _, _, rfl, rfl, ?_, ?_⟩
          · rw [List.length_map]; omega
          · obtain ⟨e1, e2⟩ := fmod_in (a := t) hpos
            obtain ⟨j, hj⟩ := Int.eq_ofNat_of_zero_le e1
            have hj2 : j < ns.length := by omega
            refine ⟨c, _, (j : Int), .int ns[j], rfl, ?_, SqL.of u2, atI_nat ?_, _, rfl, u1, u2, k0.new hl⟩
            · exact congrArg V.int (by rw [List.length_map]; exact hj)
            · rw [List.getElem?_map, List.getElem?_eq_getElem hj2]; rfl
      · rintro σ H2 ⟨cell, rfl, u1, u2, k2⟩
        -- if cell >= 10 ** 18 and turn < len(tape[0])
        have tp : ∀ (r' : Int) (H3 : Hp), H3 a = some (.lst [.ref c, .int (t + 1), .int r']) → H3 c = some (.lst (ns.map V.int)) → Tape H3 a c (n + 1) := fun r' H3 x1 x2 => ⟨t + 1, r', ns, x1, x2, h3, by omega, by omega, h6⟩
        refine ⟨fun σ H3 => σ = [some (.ref a), some (.int b), none, some (.int t), some (.int cell), none, none, none] ∧ H3 = H2, ?_, ?_⟩
        · refine ⟨_, rfl, _, _, rfl, rfl, ⟨by decide, by decide, by decide⟩, _, _, rfl, rfl, _, rfl, ite2 (fun _ => ?_) (fun _ => iteF ⟨rfl, rfl⟩)⟩
          refine ⟨_, rfl, _, rfl, a, _, 0, _, rfl, rfl, SqL.of u1, atI_nat (j := 0) rfl, c, _, rfl, .inl (SqL.of u2), _, _, rfl, rfl, _, rfl, ite2 (fun _ => ?_) (fun _ => ⟨rfl, rfl⟩)⟩
          refine ⟨_, rfl, _, _, rfl, rfl, ⟨by decide, by decide, by decide⟩, _, _, rfl, rfl, _, rfl, _, _, rfl, rfl, ⟨by omega, by omega⟩, _, rfl, a, _, 2, 2, rfl, rfl, u1, rfl, ?_⟩
          refine ⟨_, rfl, _, _, rfl, rfl, ⟨by decide, by decide, by decide⟩, _, _, rfl, rfl, _, rfl, _, _, rfl, rfl, by omega, ?_⟩
          exact q _ _ (fmod_in hb0).1 (fmod_in hb0).2 (tp _ _ upd_same (by rw [upd_ne h3]; exact u2)) k2.updT
        · rintro σ H3 ⟨rfl, rfl⟩
          -- the five primes, the mixing
          refine ⟨by show 5 ≤ sizeLine; decide, fun l hl => ?_⟩
          have w1 := upd_at (o := .lst [.int 2147483647, .int 2147483629, .int 2147483587, .int 2147483579, .int 2147483563]) hl u1
          have w2 := upd_at (o := .lst [.int 2147483647, .int 2147483629, .int 2147483587, .int 2147483579, .int 2147483563]) hl u2
          have w3 := upd_same (H := H3) (a := l) (o := .lst [.int 2147483647, .int 2147483629, .int 2147483587, .int 2147483579, .int 2147483563])
          obtain ⟨j1, p1, ej1, ep1, hp1, hq1⟩ := prime_at t
          obtain ⟨j2, p2, ej2, ep2, hp2, hq2⟩ := prime_at (t + 2)
          refine ⟨_, rfl, _, rfl, _, _, rfl, rfl, (by show (5 : Int) ≠ 0; decide), l, _, (j1 : Int), _, rfl, congrArg V.int ej1, SqL.of w3, atI_nat ep1, ?_⟩
          have late : ∀ {A B : Prop}, A → A := fun h => h
          refine ⟨fun σ H4 => ∃ m1 : Int, 0 ≤ m1 ∧ m1 < p1 ∧ σ = [some (.ref a), some (.int b), none, some (.int t), some (.int cell), some (.ref l), some (.int p1), some (.int m1)] ∧ H4 = upd H3 l (.lst [.int 2147483647, .int 2147483629, .int 2147483587, .int 2147483579, .int 2147483563]), ?_, ?_⟩
          · refine ⟨_, rfl, _, rfl, _, _, rfl, rfl, by omega, _, _, rfl, rfl, .inr ⟨by decide, by decide⟩, _, rfl, _, _, rfl, rfl, .inl ⟨by decide, by decide⟩, _, rfl, _, _, rfl, rfl, .inr ⟨by omega, by omega⟩, _, _, rfl, rfl, _, rfl, _, _, rfl, rfl, .inl ⟨by decide, by decide⟩, _, _, rfl, rfl, _, _, rfl, rfl, _, rfl, _, _, rfl, rfl, by omega, ?_⟩
            exact ⟨_, (fmod_in hp1).1, (fmod_in hp1).2, rfl, rfl⟩
          rintro σ H4 ⟨m1, m10, m11, rfl, rfl⟩
          refine ⟨fun σ H4 => ∃ m2 : Int, 0 ≤ m2 ∧ m2 < p2 ∧ σ = [some (.ref a), some (.int b), none, some (.int t), some (.int cell), some (.ref l), some (.int p1), some (.int m2)] ∧ H4 = upd H3 l (.lst [.int 2147483647, .int 2147483629, .int 2147483587, .int 2147483579, .int 2147483563]), ?_, ?_⟩
          · refine ⟨_, rfl, _, rfl, _, _, rfl, rfl, _, _, rfl, rfl, .inl ⟨by omega, by omega⟩, _, rfl, _, rfl, _, _, rfl, rfl, _, _, rfl, rfl, (by show (5 : Int) ≠ 0; decide), l, _, (j2 : Int), _, rfl, congrArg V.int ej2, SqL.of w3, atI_nat ep2, _, _, rfl, rfl, by omega, ?_⟩
            exact ⟨_, (fmod_in hp2).1, (fmod_in hp2).2, rfl, rfl⟩
          rintro σ H4 ⟨m2, m20, m21, rfl, rfl⟩
          refine ⟨_, rfl, _, rfl, _, _, rfl, rfl, .inl ⟨by omega, by omega⟩, _, _, rfl, rfl, (by show (2147483549 : Int) ≠ 0; decide), _, _, rfl, rfl, ⟨by decide, by decide⟩, _, rfl, _, _, rfl, rfl, by omega, ?_⟩
          exact q _ _ (fmod_in hb0).1 (fmod_in hb0).2 (tp _ _ w1 w2) (k2.new hl)
/-- an item of a list by a draw -/
theorem ok_pick {f fD : Addr} {fd fdD : FuncData} {k : Nat} (F : Fun K "_law_pick" "_law_pick" sPick f fd) (T : Txt0 mg) (F_law_draw : Fun K "_law_draw" "_law_draw" sDraw fD fdD) (g_law_draw : mg "_law_draw" = some (.ref fD)) (b_law_draw : Binds K fdD ["_law_tape_here", "_law_many"] []) :
    FnOk P w K mg base CX0 (k + 2) f fd ["_law_tape_here", "_law_some"] spPick := by
  have G_law_draw : FnOk P w K mg base CX0 (k + 1) fD fdD ["_law_tape_here", "_law_many"] spDraw := ok_draw F_law_draw T
  refine F.ok scPick (fun vs H Q E h => ?_) (fun cdv A outer s H vs Q E hr h => ?_)
  · obtain ⟨T, c, p, xs, n, rfl, _⟩ := h
    rfl
  · obtain ⟨a, c, p, xs, n, rfl, hS, hpa, hx0, hx1, hn, hT, q⟩ := h
    have hr_law_draw := hr
    refine ⟨_,
      (pss_one (ps_ret (pe_ix ix_list (pv 1) (pe_call G_law_draw hr_law_draw (by rfl) g_law_draw F_law_draw.kp b_law_draw .nil pass0 (pa_cons (pv 0) (pa_cons (pe_callB call_len_seq (by rfl) T.mlen PySem.boot_len (pa_cons (pv 1) pa_nil)) pa_nil))) (fun _ _ => rfl))))
      , ?_⟩
    refine ⟨_, rfl, _, rfl, _, rfl, p, xs, rfl, .inl (SqL.of hS), a, c, xs.length, n, rfl, by omega, by omega, hn, hT, fun d H' d0 d1 T' k' => ?_⟩
    obtain ⟨j, rfl⟩ := Int.eq_ofNat_of_zero_le d0
    have hj : j < xs.length := by omega
    exact ⟨p, xs, (j : Int), xs[j], rfl, rfl, SqL.of (k' p _ hpa hS), atI_nat (List.getElem?_eq_getElem hj), q j _ _ (List.getElem?_eq_getElem hj) T' k'⟩
/-- the tape's making: the cells in a list of their own -/
theorem ok_tape {f : Addr} {fd : FuncData} {k : Nat} (F : Fun K "_law_tape" "_law_tape" sTape f fd) (T : Txt0 mg) : FnOk P w K mg base CX0 (k + 1) f fd ["_law_script"] (spTape K) := by
  refine F.ok scTape (fun vs H Q E h => ?_) (fun cdv A outer s H vs Q E hr h => ?_)
  · obtain ⟨a, ns, rfl, _⟩ := h
    rfl
  · obtain ⟨a, ns, rfl, hS, hlen, q⟩ := h
    refine ⟨_,
      (pss_one (ps_ret (pe_lst (pa_cons (pe_slice sl_list (pv 0) po_none (po_some pe_int)) (pa_cons pe_int (pa_cons pe_int pa_nil))))))
      , ?_⟩
    refine ⟨_, rfl, _, rfl, a, _, rfl, hS, fun p hp => ?_⟩
    refine ⟨by show 3 ≤ sizeLine; decide, fun l hl => ?_⟩
    have nlp : p ≠ l := fun e => by rw [e, upd_same] at hl; cases hl
    have hl0 : H l = none := by rw [upd_ne nlp.symm] at hl; exact hl
    refine q l p _ hl0 hp (fun b o e => upd_at hl (upd_at hp e)) ⟨0, 0, ns, upd_same, ?_, nlp, by omega, by omega, hlen⟩
    rw [upd_ne nlp, upd_same, cut63 hlen]
end
/-! ### heaps that grow -/
theorem Tape.same {H H' : Hp} {T c : Addr} {n : Nat} (h : Tape H T c n) (s : Same H H') : Tape H' T c n := by
  obtain ⟨t, r, ns, h1, h2, h3, h4, h5, h6⟩ := h.ex
  exact ⟨t, r, ns, s _ _ h1, s _ _ h2, h3, h4, h5, h6⟩
theorem Keep.same {T : Addr} {H H1 H2 : Hp} (a : Keep T H H1) (b : Same H1 H2) : Keep T H H2 := fun x o n e => b x o (a x o n e)
theorem same_upd {H : Hp} {p : Addr} {o : HO} (h : H p = none) : Same H (upd H p o) := fun b x e => by
  rw [upd_ne (ne_of_none e h)]; exact e
theorem same_refl {H : Hp} : Same H H := fun _ _ e => e
theorem small_line {n : Nat} (h : n ≤ 100) : n ≤ sizeLine := Nat.le_trans h (by decide)
/-! ### a call with keywords alone -/
section
variable {X : Cx} {CX : CXT} {k : Nat} {f : Addr} {fd : FuncData} {ps ks : List Str} {sp : Sp} {E : XK} {x : Str} {p pos : Pos} {kws : List Keyword} {tk : TA} {g : List Value → List Value → List Value} {gV : List V → List V → List V}
theorem pe_callK0 (F : FnOk X.prog X.w X.K X.mg X.base CX k f fd ps sp) (hr : Room k X.A) (hg : Gl X x) (hm : X.mg x = some (.ref f)) (hk : PySem.W.keepIn X.K (.ref f) = true) (hb : KBinds X.K fd ps ks g gV) (hx : Passes CX X E)
    (hkw : PK X kws tk) (hall : (backToKw pos (keywordEach kws X.env)).all (·.1.isSome) = true := by rfl) (hks : (backToKw pos (keywordEach kws X.env)).filterMap (·.1) = ks := by rfl)
    (hdb : (x == ("__debug__" : Str)) = false := by decide)
    (hpl : ((backTo pos (starEach [] X.env)).any (·.1) || (backToKw pos (keywordEach kws X.env)).any (·.1.isNone)) = false := by rfl) :
    PE X (.Call (.Name x p) [] kws pos) (tCallK sp gV E tNil tk) := by
  refine ⟨fun pins s σ H Q I h => ?_⟩
  refine wpAny_Call_Name_kw (ld_glob I hg hm ?_ hdb)
  refine PySem.W.callWith_KW0 (h₀ := X.base) I.ok.mod.kin hk hall ?_ hpl
  refine thn (hkw.run pos pins s σ H _ I h) fun ws s2 ⟨zs, H2, I2, rz, q2⟩ => ⟨I2.kIn, ?_⟩
  rw [hks]
  exact run_fnk F hr hb hx I2 .nil rz q2
/-- keywords in the parameters' own order -/
theorem fun_kbinds {K : Frag} {x qual : Str} {st : Stmt} {f : Addr} {fd : FuncData} {ps ks : List Str} (F : Fun K x qual st f fd)
    (h : ∀ (kV doc pm : Value) (an : Option Addr) (cdv ct : Value) (us ws : List Value), (us ++ ws).length = ps.length → bindArgs (PySem.W.fnOf x qual (defArgs st) (defBody st) (defScope st) .none kV doc pm an cdv ct) ⟨us, ks.zip ws⟩ = pure (ps.zip (us ++ ws))) :
    KBinds K fd ps ks (· ++ ·) (· ++ ·) := by
  obtain ⟨oc, od, kV, doc, pm, an, cdv, ct, osl, rfl, lk, hcd⟩ := F.ex
  exact ⟨fun s us ws _ hl => .of_eq (h kV doc pm an cdv ct us ws hl), fun a b => a.append b⟩
theorem vals_rev : ∀ {zs : List V} {ws : List Value}, Vals zs ws → Vals zs.reverse ws.reverse
  | _, _, .nil => .nil
  | _, _, .cons r t => by
    rw [List.reverse_cons, List.reverse_cons]
    exact (vals_rev t).append (.cons r .nil)
/-- all by keywords -/
def kwAll {α : Type} (n : Nat) (us ws : List α) : List α := if us.length = 0 ∧ ws.length = n then ws else []
theorem kwAll_vals {n : Nat} {vs zs : List V} {us ws : List Value} (a : Vals vs us) (b : Vals zs ws) : Vals (kwAll n vs zs) (kwAll n us ws) := by
  unfold kwAll
  rw [a.length, b.length]
  split
  · exact b
  · exact .nil
theorem fun_kbindsA {K : Frag} {x qual : Str} {st : Stmt} {f : Addr} {fd : FuncData} {ps ks : List Str} (F : Fun K x qual st f fd) (hn : ps ≠ [])
    (h : ∀ (kV doc pm : Value) (an : Option Addr) (cdv ct : Value) (ws : List Value), ws.length = ps.length → bindArgs (PySem.W.fnOf x qual (defArgs st) (defBody st) (defScope st) .none kV doc pm an cdv ct) ⟨[], ks.zip ws⟩ = pure (ps.zip ws)) :
    KBinds K fd ps ks (kwAll ps.length) (kwAll ps.length) := by
  obtain ⟨oc, od, kV, doc, pm, an, cdv, ct, osl, rfl, lk, hcd⟩ := F.ex
  refine ⟨fun s us ws _ hl => ?_, kwAll_vals⟩
  unfold kwAll at hl ⊢
  split at hl
  · rename_i c
    rw [if_pos c, List.eq_nil_of_length_eq_zero c.1]
    exact .of_eq (h kV doc pm an cdv ct ws c.2)
  · exact absurd (List.eq_nil_of_length_eq_zero hl.symm) hn
/-- all by keywords, in the parameters' order turned about -/
theorem fun_kbindsR {K : Frag} {x qual : Str} {st : Stmt} {f : Addr} {fd : FuncData} {ps ks : List Str} (F : Fun K x qual st f fd) (hn : ps ≠ [])
    (h : ∀ (kV doc pm : Value) (an : Option Addr) (cdv ct : Value) (ws : List Value), ws.length = ps.length → bindArgs (PySem.W.fnOf x qual (defArgs st) (defBody st) (defScope st) .none kV doc pm an cdv ct) ⟨[], ks.zip ws⟩ = pure (ps.zip ws.reverse)) :
    KBinds K fd ps ks (fun us ws => (kwAll ps.length us ws).reverse) (fun us ws => (kwAll ps.length us ws).reverse) := by
  obtain ⟨oc, od, kV, doc, pm, an, cdv, ct, osl, rfl, lk, hcd⟩ := F.ex
  refine ⟨fun s us ws _ hl => ?_, fun a b => vals_rev (kwAll_vals a b)⟩
  rw [List.length_reverse] at hl
  unfold kwAll at hl ⊢
  split at hl
  · rename_i c
    rw [if_pos c, List.eq_nil_of_length_eq_zero c.1]
    exact .of_eq (h kV doc pm an cdv ct ws c.2)
  · exact absurd (List.eq_nil_of_length_eq_zero hl.symm) hn
end
/-! ### defs that are called where no repr is under way (so that repr of lists and tuples is known) -/
structure FnOkG (P : Program) (w : World) (K : PySem.W.Frag) (mg : Str → Option Value) (base : Heap) (CX : CXT) (k : Nat) (f : Addr) (fd : FuncData) (ps : List Str) (sp : Sp) : Prop where
  many : ∀ vs H Q E, sp vs H Q E → vs.length = ps.length
  goes : ∀ (A : Around) (outer : List Env) (s : Shared) (H : Hp) (args : Args) (us : List Value) (vs : List V) (Q : VK) (E : XK), A.guards = some [] → Room k A → Env0 P w K mg base A outer s H → BindsTo s fd args (ps.zip us) → Vals vs us → sp vs H Q E →
    codeAny (model P w) A (.call (.ref f) args) (CR CX outer P w H s Q E) s
theorem FnOk.g {P : Program} {w : World} {K : PySem.W.Frag} {mg : Str → Option Value} {base : Heap} {CX : CXT} {k : Nat} {f : Addr} {fd : FuncData} {ps : List Str} {sp : Sp} (F : FnOk P w K mg base CX k f fd ps sp) : FnOkG P w K mg base CX k f fd ps sp :=
  ⟨F.len, fun A o s H a us vs Q E _ => F.run A o s H a us vs Q E⟩
section
variable {P : Program} {w : World} {K : PySem.W.Frag} {mg : Str → Option Value} {base : Heap}
theorem okG {x qual : Str} {st : Stmt} {f : Addr} {fd : FuncData} {N ps : List Str} {k : Nat} {sp : Sp} (F : Fun K x qual st f fd) (S : FnScope N ps (defScope st)) (hn : ∀ vs H Q E, sp vs H Q E → vs.length = ps.length)
    (hb : ∀ (cdv : Value) (A : Around) (outer : List Env) (s : Shared) (H : Hp) (vs : List V) (Q : VK) (E : XK), A.guards = some [] → Room k (A.deeper (envOfC qual (defScope st) s.heap.objs.size f cdv)) → sp vs H Q E →
      ∃ t, PSs (cxOf CX0 P w K mg base N qual (defScope st) f cdv A outer s H E).nox (defBody st) t ∧ t { nx := fun _ H' => Q .non H', rt := Q } (start N vs) H) : FnOkG P w K mg base CX0 (k + 1) f fd ps sp := by
  obtain ⟨oc, od, kV, doc, pm, an, cdv, ct, osl, rfl, lk, hcd⟩ := F.ex
  constructor
  · exact hn
  intro A outer s H args us vs Q E gd hr env bnd rel want
  have olds : ∀ z y, base.get? z = some y → s.heap.get? z = some y := fun z y e => (env.bs z y e).1
  have inK : K.In s.heap := env.mod.kin.keeps olds
  have vis : ∀ q ∈ ps.zip us, (defScope st).names.lookup q.1 = some .local ∨ ((defScope st).names.lookup q.1 = some .cell ∧ ((cellsFrom (s.heap.objs.size + 1) (defScope st).names []).lookup q.1).isSome = true) := by
    intro q hq
    obtain ⟨n, v⟩ := q
    exact (S.par n (List.of_mem_zip hq).1).elim Or.inl fun c => Or.inr ⟨c, PySem.W.cellsFrom_some _ _ _ (Or.inl c)⟩
  apply codeAny_call_function hr.depth (inK _ _ lk) rfl S.co S.gen rfl (PySem.W.codeRec_of inK hcd)
  apply bnd
  refine wpAny_newFunctionEnv_cells S.kind vis fun env' he s1 x => ?_
  cases he
  refine ⟨(env.mod.nolimit.keeps olds).keeps x.toInCall.keep, codeAny_func ?_⟩
  obtain ⟨t, ht, hq⟩ := hb cdv A outer s H vs Q E gd (hr.deeper _) want
  have ht := ht.nox
  have J0 : L2.Inv (cxOf CX0 P w K mg base N qual (defScope st) f cdv A outer s H E) [] (start N vs) H s1 := inv_start S hr.hd env (hn _ _ _ _ want) rel x
  refine wpAny_mono (ht.run [] s1 (start N vs) H _ J0 hq) (fun fl s' z => ?_) fun _ _ z => z
  match fl, z with
  | .ret u, ⟨v, σ', H', J, rv, q⟩ => exact ⟨v, H', J.os, J.bare, J.base, J.hok, rv, q⟩
  | .next, ⟨σ', H', J, q⟩ => exact ⟨V.non, H', J.os, J.bare, J.base, J.hok, rfl, q⟩
  | .brk, ⟨_, _, _, q⟩ => exact q.elim
  | .cont, ⟨_, _, _, q⟩ => exact q.elim
end
section
variable {X : Cx} {CX : CXT} {k : Nat} {f : Addr} {fd : FuncData} {ps : List Str} {sp : Sp} {dvs : List V} {ds : List Value} {E : XK} {x : Str} {p pos : Pos} {e : Expr} {es : List Expr} {t : TA}
/-- f(e, ..), f such a def -/
theorem pe_callG (F : FnOkG X.prog X.w X.K X.mg X.base CX k f fd ps sp) (gd : X.A.guards = some []) (hr : Room k X.A) (hg : Gl X x) (hm : X.mg x = some (.ref f)) (hk : PySem.W.keepIn X.K (.ref f) = true) (hb : L2.Binds X.K fd ps ds) (hd : Vals dvs ds) (hx : Passes CX X E)
    (ha : PA X (e :: es) t) (n1 : (x == ("__debug__" : Str)) = false := by decide) (n2 : starEach (e :: es) X.env = (false, eval e X.env) :: starEach es X.env := by rfl) (n3 : (backTo pos (starEach es X.env)).any (·.1) = false := by rfl) :
    PE X (.Call (.Name x p) (e :: es) [] pos) (tCall sp dvs E t) := by
  constructor
  intro pins s σ H Q I h
  apply wpAny_Call_Name_kw (ld_glob I hg hm ?_ n1)
  refine PySem.W.callWith_K (h₀ := X.base) I.ok.mod.kin hk (thn (ha.run pos pins s σ H _ I h) ?_) n2 n3
  rintro us s1 ⟨vs, H1, I1, r, q⟩
  refine ⟨I1.kIn, ?_⟩
  have rr : Vals (vs ++ dvs) (us ++ ds) := r.append hd
  have ll : (us ++ ds).length = ps.length := rr.length.symm.trans (F.many _ _ _ _ q)
  refine wpAny_call (codeAny_mono (F.goes X.A X.stack s1 H1 ⟨us, []⟩ (us ++ ds) (vs ++ dvs) Q E gd hr I1.env0 (hb s1 us I1.kIn ll) rr q) fun z s' hz => ?_)
  match z, hz with
  | .error er, hz => exact hx pins σ H1 s1 er s' I1 hz
  | .ok (.ret u), hz => exact I1.after hz
  | .ok .next, hz => exact (show False from hz).elim
  | .ok .brk, hz => exact (show False from hz).elim
  | .ok .cont, hz => exact (show False from hz).elim
/-- repr(x) of data -/
def rReprD (K : PySem.W.Frag) : List V → Hp → VK → Prop := fun xs H Q => ∃ x d, xs = [x] ∧ Dp K H x d ∧ SeqAt.shaped d = true ∧ d.showable = true ∧ d.shown.length ≤ sizeLine ∧ Q (.str d.shown) H
theorem call_reprD (gd : X.A.guards = some []) (hr : Room k X.A) : CallR X (.builtin "repr") (rReprD X.K) := by
  intro pins s σ H xs us Q I r h
  obtain ⟨y, d, rfl, hd, sh, sw, sz, q⟩ := h
  obtain ⟨u, rfl, ru⟩ := Vals.one r
  have dd := SeqAt.depth_of_shaped sh
  have un := hr.un
  have nd : d.hasDict = true → sysModules ∉ ([] : List Addr) := fun z => by rw [PyData.hasDict_of_canLay d (SeqAt.canLay_of_shaped sh)] at z; cases z
  cases hd with
  | non =>
    cases (show u = Value.none from ru)
    exact P.repr_of_none ⟨V.str "None", H, I.tok _, ⟨_, rfl⟩, by rw [PyData.shown] at q; exact q⟩
  | bl b =>
    cases (show u = Value.bool b from ru)
    exact P.repr_of_bool ⟨V.str (if b then "True" else "False"), H, I.tok _, ⟨_, rfl⟩, by rw [PyData.shown] at q; exact q⟩
  | int i =>
    obtain ⟨t, rfl⟩ := (show ∃ t, u = Value.int i t from ru)
    refine P.repr_of_int (of_decide_eq_true (by rw [PyData.showable] at sw; exact sw)) ⟨V.str (toString i), H, I.tok _, ⟨_, rfl⟩, by rw [PyData.shown] at q; exact q⟩
  | str z =>
    obtain ⟨t, rfl⟩ := (show ∃ t, u = Value.str z t from ru)
    exact P.repr_of_str ⟨V.str (reprText z), H, I.tok _, ⟨_, rfl⟩, by rw [PyData.shown] at q; exact q⟩ (by rw [PyData.shown] at sz; exact sz)
  | lst a b =>
    obtain ⟨as, rd⟩ := Dp.reads I _ _ u (.lst a b) ru
    cases ru
    exact repr_of_reads' rd sw (fun z => by rw [PyData.hasDict_of_canLay _ (SeqAt.canLay_of_shaped sh)] at z; cases z) gd (by omega) (fun _ _ z => z) (fun h' t' tk hk => ⟨V.str (PyData.shown _), H, I.kept hk, ⟨_, rfl⟩, q⟩) sz
  | tup a b =>
    obtain ⟨as, rd⟩ := Dp.reads I _ _ u (.tup a b) ru
    cases ru
    exact repr_of_reads' rd sw (fun z => by rw [PyData.hasDict_of_canLay _ (SeqAt.canLay_of_shaped sh)] at z; cases z) gd (by omega) (fun _ _ z => z) (fun h' t' tk hk => ⟨V.str (PyData.shown _), H, I.kept hk, ⟨_, rfl⟩, q⟩) sz
end
/-! ### the law's end, for such a law -/
section
variable {P : Program} {w : World} {K : PySem.W.Frag} {mg mb : Str → Option Value} {k : Nat} {fa a : Addr} {fd : FuncData} {x : Str} {sp : Sp} {s₁ : Shared} {vs : List Value} {ns : List Int}
/-- from a heap in which nothing but the script may stand -/
theorem lawG0 (KX : K.In s₁.heap) (g1 : s₁.heap.Ns mainGlobals mg) (g2 : s₁.heap.Ns builtinsNs mb) (g3 : ∀ x : Str, x ≠ "__name__" → mb x = bootBuiltins x) (g4 : s₁.heap.NoLimit) (g5 : s₁.gens = #[])
    (ha : s₁.heap.get? a = some { cls := .type "list", data := .seq vs.toArray }) (hr : Room k callerA)
    (F : ∀ base : Heap, K.In base → base.Ns mainGlobals mg → FnOkG P w K mg base CX0 k fa fd [x] sp) (bd : ∀ (s : Shared) (u : Value), BindsTo s fd ⟨[u], []⟩ [(x, u)])
    (H : Hp) (hO : Only H) (want : sp [.ref a] H (fun v _ => v = .bl true) fun _ _ _ => False) (ok : HOk P w H s₁.heap) (hA : ∀ b, H b ≠ none → b = a) (hK : H a ≠ none → K.lookup a = none) :
    codeAny (model P w) callerA (.call (.ref fa) ⟨[.ref a], []⟩) (fun r s' => r = .ok (.ret (.bool true)) ∧ OldK s₁.heap s'.heap ∧ s'.os = s₁.os ∧ AllBare s'.gens) s₁ := by
  have noA : ∀ {b : Addr} {o : Obj} {es : Array DictEntry} {ep : Nat}, s₁.heap.get? b = some o → o.data = .dict es ep → H b = none := by
    intro b o es ep e d
    apply Classical.byContradiction
    intro z
    have e2 := e
    rw [hA b z, ha] at e2
    cases e2
    exact nomatch (show Data.seq vs.toArray _ = Data.dict es ep from d)
  have nsK : ∀ {b : Addr} {m : Str → Option Value}, s₁.heap.Ns b m → (hidT s₁.heap H).Ns b m := by
    rintro b m ⟨o, es, ep, e, d, r⟩
    exact ⟨o, es, ep, hidT_get e (noA e d), d, r⟩
  have kb : K.In (hidT s₁.heap H) := by
    intro b o e
    refine hidT_get (KX b o e) (Classical.byContradiction fun z => ?_)
    have eb := hA b z
    subst eb
    rw [hK z] at e
    cases e
  have M : Mod K mg (hidT s₁.heap H) := by
    obtain ⟨mc, h1, h2⟩ := g4
    exact ⟨kb, nsK g1, ⟨mb, nsK g2, g3⟩, ⟨mc, nsK h1, h2⟩⟩
  have e0 : Env0 P w K mg (hidT s₁.heap H) callerA [] s₁ H :=
    { frames := rfl, mod := M, bs := fun b o e => of_hidT e, bsz := Nat.le_of_eq (hidT_size _ _), funs := trivial, frf := fun b z => absurd (show b ∈ ([] : List Addr) from z) (by simp), hok := ok, bare := .of_eq g5 }
  have run := (F _ kb (nsK g1)).goes callerA [] s₁ H ⟨[.ref a], []⟩ [.ref a] [.ref a] _ _ rfl hr e0 (bd s₁ (.ref a)) (.cons rfl .nil) want
  refine codeAny_mono run fun r s' h => ?_
  match r, h with
  | .error e, h => exact (show False from h).elim
  | .ok .next, h => exact (show False from h).elim
  | .ok .brk, h => exact (show False from h).elim
  | .ok .cont, h => exact (show False from h).elim
  | .ok (.ret u), ⟨v, H', os, bare, un, ok', rv, (qv : v = .bl true)⟩ =>
    cases qv
    cases (show u = Value.bool true from rv)
    refine ⟨rfl, OldK.of_keep fun b o e => ?_, os, bare⟩
    cases q : H b with
    | none => exact un.keep b o e q (fun z => absurd (show b ∈ ([] : List Addr) from z) (by simp)) (by simp)
    | some y =>
      rcases hO b with z | ⟨ob, xs, z⟩
      · rw [z] at q; cases q
      · have f1 := (ok b _ z).1
        have f2 := (ok' b _ (un.frzs b ob _ z)).1
        rw [f1] at e
        cases e
        exact f2
theorem lawG (KX : K.In s₁.heap) (g1 : s₁.heap.Ns mainGlobals mg) (g2 : s₁.heap.Ns builtinsNs mb) (g3 : ∀ x : Str, x ≠ "__name__" → mb x = bootBuiltins x) (g4 : s₁.heap.NoLimit) (g5 : s₁.gens = #[])
    (ha : s₁.heap.get? a = some { cls := .type "list", data := .seq vs.toArray }) (hi : IntsAre vs ns) (hl : ns.length ≤ sizeLine) (hr : Room k callerA)
    (F : ∀ base : Heap, K.In base → base.Ns mainGlobals mg → FnOkG P w K mg base CX0 k fa fd [x] sp) (bd : ∀ (s : Shared) (u : Value), BindsTo s fd ⟨[u], []⟩ [(x, u)])
    (want : ∀ H : Hp, Only H → SqL K H a (ns.map V.int) → sp [.ref a] H (fun v _ => v = .bl true) fun _ _ _ => False) :
    codeAny (model P w) callerA (.call (.ref fa) ⟨[.ref a], []⟩) (fun r s' => r = .ok (.ret (.bool true)) ∧ OldK s₁.heap s'.heap ∧ s'.os = s₁.os ∧ AllBare s'.gens) s₁ := by
  have rv := vals_ints hi
  rcases hk : K.lookup a with _ | o
  · let H : Hp := fun b => if b = a then some (.frz { cls := .type "list", data := .seq vs.toArray } (.lst (ns.map V.int))) else none
    have Ha : H a = some (.frz { cls := .type "list", data := .seq vs.toArray } (.lst (ns.map V.int))) := if_pos rfl
    have Hn : ∀ b, b ≠ a → H b = none := fun b n => if_neg n
    have hO : Only H := fun b => (Classical.em (b = a)).elim (fun e => .inr ⟨_, _, e ▸ Ha⟩) fun n => .inl (Hn b n)
    have hA : ∀ b, H b ≠ none → b = a := fun b z => Classical.byContradiction fun n => z (Hn b n)
    refine lawG0 KX g1 g2 g3 g4 g5 ha hr F bd H hO (want H hO (.inl (.inr ⟨_, Ha⟩))) (fun b u z => ?_) hA fun _ => hk
    have e := hA b (by rw [z]; intro y; cases y)
    subst e
    rw [Ha] at z
    cases z
    exact ⟨ha, by rw [List.length_map]; exact hl, vs, _, rv, ha⟩
  · have e := KX a o hk
    rw [ha] at e
    cases e
    refine lawG0 KX g1 g2 g3 g4 g5 ha hr F bd (fun _ => none) (fun _ => .inl rfl) (want _ (fun _ => .inl rfl) (.inr ⟨_, vs.toArray, _, hk, rfl, rfl, rfl, by rw [List.size_toArray, hi.length]; exact hl, by simpa using rv⟩)) (fun b u z => nomatch (show (none : Option HO) = some u from z)) (fun b z => absurd rfl z) fun z => absurd rfl z
end
theorem walkG {l : PySem.W.OpenLaw} {n k : Nat} {q : Program} {loose : List Str} {XP : (Str → Option Value) → Heap → Prop} {YP : World → Heap → Prop} {d : DefRec} {K : Params → PySem.W.Frag} {sp : World → Sp} {x : Str}
    (hn : l.most = some n) (hn2 : n ≤ sizeLine) (hdf : d.params.defaults = []) (hr : Room k callerA) (hY : ∀ (w : World) (h : Heap), YP w h → (K w.params).In h)
    (F : ∀ (w : World) (mg : Str → Option Value) (fa : Addr) (h : Heap), (K w.params).In h → h.Ns mainGlobals mg → mg d.name = some (.ref fa) →
      ∃ fd : FuncData, (∀ (s : Shared) (u : Value), BindsTo s fd ⟨[u], []⟩ [(x, u)]) ∧ ∀ base : Heap, (K w.params).In base → base.Ns mainGlobals mg → FnOkG l.prog w (K w.params) mg base CX0 k fa fd [x] (sp w))
    (want : ∀ (w : World) (H : Hp) (a : Addr) (ns : List Int), ns.length ≤ n → Only H → SqL (K w.params) H a (ns.map V.int) → sp w [.ref a] H (fun v _ => v = .bl true) fun _ _ _ => False) :
    PySem.W.WalkO q loose XP YP l.row.toRowW d [] (fun f vs => PySem.call f vs) := by
  apply Att.attach_call hn hdf
  intro w s₀ s₁ mg mb fa o pm cd doc a vs ns G Y ho hd hcd hmg hobj hints hlen hg
  have KX := hY w _ Y
  obtain ⟨fd, bd, hF⟩ := F w mg fa _ KX G.T.g hmg
  exact lawG KX G.T.g G.T.b G.T.builtins G.T.nolimit hg hobj hints (Nat.le_trans hlen hn2) hr hF bd fun H hO hS => want w H a ns hlen hO hS
/-! ### an exception that is kept past its clause -/
/-- at a: an exception object of the class cls, its own dict at d -/
def keptX (cls : Value) (d : Option Addr) (a : Addr) : HO := .ext fun h => ∃ (oe : Obj) (vs : Array Value), h.get? a = some oe ∧ Zc cls d oe ∧ oe.data = .fields vs
theorem keptX_ok {P : Program} {w : World} {H : Hp} {h : Heap} {cls : Value} {d : Option Addr} {a : Addr} {oe : Obj} {vs : Array Value} (g : h.get? a = some oe) (z : Zc cls d oe) (f : oe.data = .fields vs) : ObjOk P w H h a (keptX cls d a) :=
  ⟨⟨oe, vs, g, z, f⟩, ⟨oe, g⟩, fun _ _ ⟨o, v, q, r⟩ k => ⟨o, v, k o q, r⟩⟩
theorem keptX_at {P : Program} {w : World} {H : Hp} {h : Heap} {cls : Value} {d : Option Addr} {a : Addr} (hok : HOk P w H h) (e : H a = some (keptX cls d a)) : ∃ (oe : Obj) (vs : Array Value), h.get? a = some oe ∧ Zc cls d oe ∧ oe.data = .fields vs := by
  have x : ObjOk P w H h a (.ext fun h => ∃ (oe : Obj) (vs : Array Value), h.get? a = some oe ∧ Zc cls d oe ∧ oe.data = .fields vs) := hok a _ e
  exact x.1
section
variable {X : Cx} {pins : List (Addr × Obj)} {σ : L2.St} {H : Hp} {s sI : Shared}
/-- the caught object is told to the ledger: it is none of the objects of the state sI ahead of it -/
theorem inv_keep (J : Inv X pins σ H sI) (ge : sI.heap.get? a = none) (I : Inv X pins σ H s) (hx : X.ex = []) {oe : Obj} {vs : Array Value} {cls : Value} {d : Option Addr} (ha : s.heap.get? a = some oe) (hz : Zc cls d oe) (hd : oe.data = .fields vs) (na : H a = none) :
    Inv X pins σ (upd H a (keptX cls d a)) s := by
  have ne : ∀ {b : Addr} {o : Obj}, sI.heap.get? b = some o → b ≠ a := by
    intro b o e z
    rw [z, ge] at e
    cases e
  have n0 : ∀ {b : Addr} {o : Obj}, X.s_0.heap.get? b = some o → b ≠ a := by
    intro b o e
    obtain ⟨o', e'⟩ := J.base.there b o e (by rw [hx]; exact fun z => nomatch z)
    exact ne e'
  have bs : Un X.fs X.ex X.H_0 (upd H a (keptX cls d a)) X.s_0.heap s.heap := {
    keep := I.base.keep
    slot := I.base.slot
    there := I.base.there
    free := by
      intro b o e n q
      rw [upd_ne (n0 e)]
      exact I.base.free b o e n q
    tups := by
      intro b xs e
      have z := I.base.tups b xs e
      rw [upd_ne (ne_of_none z na)]
      exact z
    frzs := by
      intro b o u e
      have z := I.base.frzs b o u e
      rw [upd_ne (ne_of_none z na)]
      exact z
    tbls := by
      intro b ps e
      obtain ⟨m, z⟩ := I.base.tbls b ps e
      exact ⟨m, by rw [upd_ne (ne_of_none z na)]; exact z⟩ }
  have fr : X.env.locals ≠ a := by
    obtain ⟨m, ⟨o, es, ep, ho, _⟩, _⟩ := J.loc
    exact ne ho
  refine ⟨I.ok, I.os, I.bare, bs, I.loc, I.cell, ?_, ?_, ?_, ?_, I.len⟩
  · rw [upd_ne fr]
    exact I.free
  · intro x c e
    obtain ⟨v, o, ho, _⟩ := J.cell x c e
    rw [upd_ne (ne ho)]
    exact I.freeC x c e
  · intro p hp
    obtain ⟨e, n, r⟩ := I.pin p hp
    refine ⟨e, ?_, r⟩
    rw [upd_ne (ne (J.pin p hp).1)]
    exact n
  · intro b o e
    by_cases hb : b = a
    · subst hb
      rw [upd_same] at e
      cases e
      exact keptX_ok ha hz hd
    · rw [upd_ne hb] at e
      refine (I.hok b o e).stay (fun c v _ q => q) (fun c q => ?_) (fun c xs q => ?_)
      · rw [upd_ne (ne_of_none q na)]
        exact q
      · rw [upd_ne (ne_of_none q na)]
        exact q
/-- into the clause's suite, no object pinned -/
theorem inv_into (I : Inv X pins σ H s) (a : Addr) : Inv (X.suite a (X.pn ++ pins)) [] σ H s where
  ok := I.ok.suite a _
  os := I.os
  bare := I.bare
  base := I.base
  loc := I.loc
  cell := I.cell
  free := I.free
  freeC := I.freeC
  pin := by
    intro p hp
    rw [List.append_nil] at hp
    exact I.pin p hp
  hok := I.hok
  len := I.len
/-- and out of it -/
theorem inv_outof {a : Addr} {pn : List (Addr × Obj)} (I : Inv (X.suite a (X.pn ++ pins)) pn σ H s) (ok : X.Ok) : Inv X pins σ H s where
  ok := ok
  os := I.os
  bare := I.bare
  base := I.base
  loc := I.loc
  cell := I.cell
  free := I.free
  freeC := I.freeC
  pin := fun p hp => I.pin p (List.mem_append_left _ hp)
  hok := I.hok
  len := I.len
end
/-- what the clause leaves: its own name is gone -/
def goneE (i : Nat) (D : Ends) : Ends where
  nx := fun σ H => D.nx (σ.set i none) H
  rt := D.rt
  bk := fun σ H => D.bk (σ.set i none) H
  ct := fun σ H => D.ct (σ.set i none) H
/-- what the clause wishes of the body's exceptions: each is caught, and stays -/
def wKeep (K : PySem.W.Frag) (c : Value) (i : Nat) (ts : Addr → Value → Option Addr → TS) (D : Ends) : WX := fun cls d σ H =>
  PySem.W.exmOne K cls c = some true ∧ ∀ a, H a = none → ts a cls d (goneE i D) (σ.set i (some (.ref a))) (upd H a (keptX cls d a))
section
variable {X : Cx} {x n : Str} {c : Value} {i : Nat} {body suite : List Stmt} {b₀ : Stmt} {np pos pos' : Pos} {tb : WX → TS} {ts : Addr → Value → Option Addr → TS}
theorem ps_try_keep (hs : X.stack = X.env :: X.outer) (hf : X.env.frame = some X.env.locals) (hex : X.ex = []) (hN : X.N.Nodup) (hi : X.N[i]? = some n) (hln : X.env.kindOf n = some .local) (hc : Names X x c)
    (hb : ∀ (W : WX) (pn : List (Addr × Obj)) (xe : Value → Shared → Prop), Takes (X.tr pn xe) W → PassesOwn (model X.prog X.w) X.A X.env xe → PSs (X.tr pn xe) body (tb W))
    (hsu : ∀ (a : Addr) (cls : Value) (d : Option Addr) (pn : List (Addr × Obj)), PSs (X.suite a pn) (b₀ :: suite) (ts a cls d)) :
    PS X (.Try body [.ExceptHandler (some (.Name x np)) (some n) (b₀ :: suite) pos'] [] [] pos) (fun D σ H => tb (wKeep X.K c i ts D) D σ H) := by
  constructor
  intro pins s σ H D I h
  have ok := I.ok
  have fr0 : X.A.frames = some (X.env :: X.outer) := by
    rw [ok.frames, hs]
  refine wpAny_Try_except ?_
  let xe' : Value → Shared → Prop := fun e s₁ => wpAny (model X.prog X.w) X.A (noteFrame e X.env) (fun _ s₂ => wpAny (model X.prog X.w) X.A (setFlight e none) (fun _ s₃ =>
    wpAny (model X.prog X.w) X.A (handleBy e X.env [.ExceptHandler (some (.Name x np)) (some n) (b₀ :: suite) pos']) (SP X pins D) X.xe s₃) X.xe s₂) X.xe s₁
  have catches : Takes (X.tr (X.pn ++ pins) xe') (wKeep X.K c i ts D) := by
    rintro u s' ⟨a, B, sI, pins', σ', H', cls, d, rfl, J', nb, up, sky, na, os, ag, hm, hyes⟩
    have J : Inv X pins σ' H' sI := J'.ofTry ok
    rw [show (X.tr (X.pn ++ pins) xe').stack = X.env :: X.outer from hs] at sky
    show wpAny (model X.prog X.w) X.A (noteFrame (.ref a) X.env) _ _ _
    refine Sky.land Zc.steady fr0 hf sky ?_
    intro h3 fl3 up3
    have J3 : Inv X pins σ' H' { s' with heap := h3 } := J.landed nb fl3.1 (up.trans up3) os ag
    refine wpAny_handleBy_cons (codeAny_handlers_test ?_) (fun q => nomatch q)
    -- the class is looked up and held against
    have look : PySem.W.Looks (model X.prog X.w) h3 (typeOf (.ref a)) cls := by
      obtain ⟨o3, v3, e3, z3, d3⟩ := fl3.there
      intro A Q E s k q
      refine wpAny_typeOf_ref (k _ _ e3) ?_
      rw [z3.1]
      exact q
    have hit := PySem.W.exm_one (M := model X.prog X.w) J3.kIn look hm
    have named : ∀ {Q : Value → Shared → Prop} {E : Value → Shared → Prop}, Q c { s' with heap := h3 } → wpAny (model X.prog X.w) (X.A.mark (some (.ref a))) (eval (.Name x np) X.env) Q E { s' with heap := h3 } := by
      intro Q E q
      have S3 := inv_into J3 a
      obtain ⟨hg, hdb, hv⟩ := hc
      rcases hv with hv | ⟨hv, hw, hn⟩
      · exact ld_glob (X := X.suite a (X.pn ++ pins)) S3 hg hv q hdb
      · exact ld_blt (X := X.suite a (X.pn ++ pins)) S3 hg hv hw q hn hdb
    refine named (hit.here (codeAny_handlers_suite_as (HandSPX.lands_againZ fl3 ?_)))
    intro h4 fl4 up4
    have J4 : Inv X pins σ' H' { s' with heap := h4 } := J.landed nb fl4.1 ((up.trans up3).trans up4) os ag
    obtain ⟨o4, v4, e4, z4, d4⟩ := fl4.there
    have ge : sI.heap.get? a = none := by
      cases q : sI.heap.get? a with
      | none => rfl
      | some o =>
        exfalso
        by_cases hm' : a ∈ frs (X.env :: X.outer)
        · obtain ⟨_, o', q', nf⟩ := fl4.2.2.1.mem hm'
          rw [e4] at q'
          cases q'
          exact nf _ d4
        · have z := nb a o q (by rw [show (X.tr (X.pn ++ pins) xe').stack = X.env :: X.outer from hs]; exact hm')
          rw [fl4.2.1] at z
          cases z
    have S4 := inv_into (inv_keep J ge J4 hex e4 z4 d4 na) a
    refine store_ok (X := X.suite a (X.pn ++ pins)) (v := .ref a) S4 hN hi (.inl hln) rfl ?_ (.inr hln)
    intro s5 S5
    refine wpAny_mono ((hsu a cls d (X.pn ++ pins)).run [] s5 _ _ (goneE i D) S5 (hyes a na)) ?_ (fun _ _ z => False.elim z)
    intro f s6 sp
    have out : ∀ {σ6 : L2.St} {H6 : Hp} {Q : Shared → Prop}, Inv (X.suite a (X.pn ++ pins)) [] σ6 H6 s6 → (∀ s7, Inv X pins (σ6.set i none) H6 s7 → Q s7) →
        wpAny (model X.prog X.w) X.A (do bindName X.env n .none; unbindBehindTheSuite X.env n pos') (fun _ s7 => Q s7) X.xe s6 := by
      intro σ6 H6 Q S6 hq
      exact gone_ok (inv_outof S6 ok) hN hi hln hq
    match f, sp with
    | .next, ⟨_, _, S6, q⟩ => exact out S6 fun s7 J7 => ⟨_, _, J7, q⟩
    | .brk, ⟨_, _, S6, q⟩ => exact out S6 fun s7 J7 => ⟨_, _, J7, q⟩
    | .cont, ⟨_, _, S6, q⟩ => exact out S6 fun s7 J7 => ⟨_, _, J7, q⟩
    | .ret u, ⟨_, _, _, S6, r, q⟩ => exact out S6 fun s7 J7 => ⟨_, _, _, J7, r, q⟩
  refine wpAny_mono ((hb (wKeep X.K c i ts D) (X.pn ++ pins) xe' catches PassesOwn.looking).run [] s σ H D (I.toTry _) h) ?_ (fun _ _ z => z)
  intro f s1 sp
  match f, sp with
  | .next, ⟨σ', H', J, q⟩ => exact wpAny_execs_nil ⟨σ', H', J.ofTry ok, q⟩
  | .brk, ⟨σ', H', J, q⟩ => exact ⟨σ', H', J.ofTry ok, q⟩
  | .cont, ⟨σ', H', J, q⟩ => exact ⟨σ', H', J.ofTry ok, q⟩
  | .ret u, ⟨v, σ', H', J, r, q⟩ => exact ⟨v, σ', H', J.ofTry ok, r, q⟩
end
/-! ### own exceptions under a class that is made by another's __new__ (KeyError, by LookupError's) -/
section
open Builtin Builtin.ObjectAttr
variable {prog : Program} {w : World} {M : Model} {A : Around} {E : Value → Shared → Prop} {R : Result → Shared → Prop} {h : Heap} {g : Array GenState} {d : Drawn} {t : Nat} {os : OsState}
variable {nm q : Str} {C N : Addr} {bs bm bmB : List Value} {hdct : Bool} {sn : List Str} {sub : List Value} {ab : Bool} {col : Option Bool} {dd : Option Addr} {k0 k1 k2 k3 k5 : Option Value} {B newId initId : String}
/-- what is asked of the classes above -/
structure Above (B : String) (bm : List Value) : Prop where
  is : bm.contains (.type B) = true
  noA : bm.contains (.type "AttributeError") = false
  noN : bm.contains (.type "NameError") = false
theorem mk_check (F : ExcBaseFacts B newId initId bmB) (T : Above B bm) {rest : List Value} {Q : Unit → Shared → Prop}
    (hC : h.get? C = some (excClassObj nm q C N bs bm hdct sn sub ab col dd k0 k1 k2 k3 k5 newId)) (hq : Q () ⟨h, g, d, t, os⟩) : wpAny M A (checkBuiltinCall newId ⟨.ref C :: rest, []⟩) Q E ⟨h, g, d, t, os⟩ := by
  have c1 : (Value.ref C :: bm).contains (.type B) = true := by
    rw [List.contains_cons, T.is, Bool.or_true]
  have c2 := F.noStar
  simp only [F.newKind, F.newSplit, F.newRow, checkBuiltinCall]
  repeat (first
    | refine wpAny_loadPart_at hC ?_
    | (refine wpAny_isSubtype_exc hC ?_; rw [c1])
    | refine wpAny_staticBase_exc hC ?_
    | refine wpAny_madeBy_exc hC ?_
    | simp only [bne_self_eq_false, Bool.false_eq_true, if_false]
    | wp_step)
  exact hq
theorem mk_new (F : ExcBaseFacts B newId initId bmB) (T : Above B bm) {rest : List Value}
    (hC : h.get? C = some (excClassObj nm q C N bs bm hdct sn sub ab col dd k0 k1 k2 k3 k5 newId)) (hz : rest.length ≤ sizeLine)
    (hq : R (.ok (.ret (.ref (h.objs.size + 1)))) ⟨(h.push (PySem.W.kdv_tup rest)).push (PySem.HandSPX.excO C h.objs.size), g, d, t, os⟩) :
    codeAny (model prog w) A (.builtin newId ⟨.ref C :: rest, []⟩) R ⟨h, g, d, t, os⟩ := by
  have ends := F.ends
  have c1 : (Value.ref C :: bm).contains (.type B) = true := by
    rw [List.contains_cons, T.is, Bool.or_true]
  have c2 : (Value.ref C :: bm).contains (.type "AttributeError") = false := by
    rw [List.contains_cons, T.noA]
    rfl
  have c3 : (Value.ref C :: bm).contains (.type "NameError") = false := by
    rw [List.contains_cons, T.noN]
    rfl
  refine PySem.codeAny_builtinAt F.entry ?_
  unfold Builtin.«BaseException.__new__»
  refine PySem.wpAt_bind ?_
  show PySem.wpAt _ _ _ (stack >>= _) _ _ _
  refine PySem.wpAt_bind (PySem.wpAt_stack ?_)
  intro p below
  refine PySem.wpAt_of_wpAny ?_
  wp_walk
  refine PySem.wpAt_of_wpAny ?_
  rw [F.owner]
  repeat (first
    | with_reducible refine wpAny_madeHere_exc F.canon hC ?_
    | with_reducible refine wpAny_loadPart_at hC ?_
    | (with_reducible refine wpAny_isSubtype_exc hC ?_; first | rw [c1] | rw [c2] | rw [c3])
    | wp_step)
  show R _ _
  rw [Heap.size_push]
  exact hq
theorem mk_type (F : ExcBaseFacts B newId initId bmB) (T : Above B bm) {rest : List Value} {fI : Addr} {Q : Fin → Shared → Prop}
    (hC : h.get? C = some (excClassObj nm q C N bs bm hdct sn sub ab col dd k0 k1 k2 k3 k5 newId)) (hi : PySem.W.Looks (model prog w) h (typeLookup (.ref C) "__init__") (some (.ref fI)))
    (hb : ∀ self, PySem.W.Looks (model prog w) h (bindSpecial (.ref fI) self) (.ref fI, [self])) (hz : rest.length ≤ sizeLine)
    (hq : codeAny (model prog w) A (.call (.ref fI) ⟨.ref (h.objs.size + 1) :: rest, []⟩) (fun r s' => match r with | .ok (.ret v) => v = .none ∧ Q (.done (.ret (.ref (h.objs.size + 1)))) s' | .ok _ => False | .error e => E e s')
      ⟨(h.push (PySem.W.kdv_tup rest)).push (PySem.HandSPX.excO C h.objs.size), g, d, t, os⟩) :
    wpAny (model prog w) A (Builtin.«type.__call__» ⟨.ref C :: rest, []⟩) Q E ⟨h, g, d, t, os⟩ := by
  have k : ∀ b o, h.get? b = some o → ((h.push (PySem.W.kdv_tup rest)).push (PySem.HandSPX.excO C h.objs.size)).get? b = some o := by
    intro b o e
    exact Heap.get?_push_of_some _ (Heap.get?_push_of_some _ e)
  have hC1 := k _ _ hC
  have got : ((h.push (PySem.W.kdv_tup rest)).push (PySem.HandSPX.excO C h.objs.size)).get? (h.objs.size + 1) = some (PySem.HandSPX.excO C h.objs.size) := by heap_get
  have self : (Value.ref C :: bm).contains (.ref C) = true := by simp
  repeat (first
    | with_reducible refine wpAny_loadPart_at hC ?_
    | with_reducible refine wpAny_madeBy_exc hC ?_
    | wp_step)
  refine codeAny_call_builtin_code (Code.quiet_builtin _ F.quiet) (mk_check F T hC (mk_new F T hC hz ?_))
  show wpAny _ _ _ _ _ _
  have look := hi.keeps k
  have bind := (hb (.ref (h.objs.size + 1))).keeps k
  unfold isInstance
  repeat (first
    | with_reducible refine wpAny_loadPart_at got ?_
    | (with_reducible refine wpAny_isSubtype_exc hC1 ?_; rw [self])
    | wp_step)
  show wpAny _ _ (typeLookup (.ref C) _) _ _ _
  refine look.at (wpAny_holding (wpAny_bind (bind.at (wpAny_bind (wpAny_call (codeAny_mono hq ?_))))))
  intro r s' z
  match r, z with
  | .error e, z => exact z
  | .ok (.ret v), ⟨e, z⟩ =>
    subst e
    first
      | exact wpAny_pure (wpAny_pure z)
      | (wp_walk; exact z)
theorem mk_call (F : ExcBaseFacts B newId initId bmB) (T : Above B bm) {rest : List Value} {fI : Addr}
    (hC : h.get? C = some (excClassObj nm q C N bs bm hdct sn sub ab col dd k0 k1 k2 k3 k5 newId)) (hi : PySem.W.Looks (model prog w) h (typeLookup (.ref C) "__init__") (some (.ref fI)))
    (hb : ∀ self, PySem.W.Looks (model prog w) h (bindSpecial (.ref fI) self) (.ref fI, [self])) (hz : rest.length ≤ sizeLine)
    (hq : codeAny (model prog w) (A.under (.builtin "type.__call__" ⟨.ref C :: rest, []⟩)) (.call (.ref fI) ⟨.ref (h.objs.size + 1) :: rest, []⟩) (PySem.W.InitBack (h.objs.size + 1) R)
      ⟨(h.push (PySem.W.kdv_tup rest)).push (PySem.HandSPX.excO C h.objs.size), g, d, t, os⟩) : codeAny (model prog w) A (.call (.ref C) ⟨rest, []⟩) R ⟨h, g, d, t, os⟩ := by
  have l1 := tc_lookup
  have l2 := tc_bind (.ref C)
  have ty : (⟨h, g, d, t, os⟩ : Shared).TypeIs (.ref C) "type" := ⟨_, hC, rfl⟩
  refine codeAny_of_tree ?_
  show wpAny _ _ (callAny (.ref C) _) _ _ _
  repeat (any_goals (first
    | assumption
    | with_reducible refine wpAny_loadPart_at hC ?_
    | wp_step))
  refine ⟨rfl, codeAny_call_builtin_at (Code.quiet_builtin _ (by decide +kernel)) entry_typeCall (wpAny_check_type_call_sub hC (mk_type F T hC hi hb hz (codeAny_mono hq ?_)))⟩
  intro r s' z
  rcases r with e | (v | _ | _ | _) <;> exact z
end
/-! ### own exceptions over any built-in class, with fields -/
section
open Builtin Builtin.ObjectAttr
/-- what the written part says of such a class -/
structure OexB (K : PySem.W.Frag) (C : Addr) : Prop where
  made : ∃ (B newId initId : String) (bmB bm : List Value) (nm q : Str) (N : Addr) (bs : List Value) (hdct : Bool) (sn : List Str) (sub : List Value) (ab : Bool) (col : Option Bool) (dd : Option Addr) (k0 k1 k2 k3 k5 : Option Value),
    PySem.ExcBaseFacts B newId initId bmB ∧ Above B bm ∧ K.lookup C = some (excClassObj nm q C N bs bm hdct sn sub ab col dd k0 k1 k2 k3 k5 newId)
  st : ∃ (T : String) (bmT : List Value), PySem.StoreFacts T bmT "object.__setattr__" "object" ∧ PySem.W.excOver K C bmT = true
  hd : PySem.W.hasDictIn K C = true
  sa : PySem.W.findIn K (.ref C) "__setattr__" = some (some (.builtin "object.__setattr__"))
  exC : PySem.W.subIn K (.ref C) (.type "BaseException") = some true
  tyC : PySem.W.typeIn K (.ref C) = some (.type "type")
  kC : PySem.W.keepIn K (.ref C) = true
theorem OexB.cd {K : PySem.W.Frag} {C : Addr} (T : OexB K C) : ∃ cd, PySem.W.clsIn K C = some cd ∧ cd.hasDict = true := PySem.W.any_some T.hd
theorem taker_none {K : PySem.W.Frag} {C : Addr} {f : Str} (h : PySem.W.findIn K (.ref C) f = some none) : PySem.W.takerIn K C f = some none := by
  unfold PySem.W.takerIn
  rw [h]
  rfl
variable {prog : Program} {w : World} {A : Around} {R : Result → Shared → Prop} {hp : Heap} {g : Array GenState} {d : Drawn} {t : Nat} {os : OsState} {K : PySem.W.Frag} {name : Str} {tk : Tok} {v : Value} {x C : Addr} {fv : Array Value}
theorem sa_first (T : OexB K C) (X : K.In hp) (hx : hp.get? x = some { cls := .ref C, data := .fields fv }) (ha : PySem.W.findIn K (.ref C) name = some none)
    (hq : ∀ h' tk' dx, (∀ b o, b ≠ x → hp.get? b = some o → h'.get? b = some o) → hp.objs.size ≤ dx → dx ≠ x → h'.get? x = some { cls := .ref C, dict := some dx, data := .fields fv } → h'.Ns1 dx (fun y => if y = name then some v else none) → R (.ok (.ret .none)) ⟨h', g, d, tk', os⟩) :
    codeAny (model prog w) A (.call (.builtin "object.__setattr__") ⟨[.ref x, .str name tk, v], []⟩) R ⟨hp, g, d, t, os⟩ := by
  obtain ⟨TT, bmT, SF, ov⟩ := T.st
  obtain ⟨cd, hcd, hdd⟩ := T.cd
  have I : PySem.W.InstAt hp x { cls := .ref C, data := .fields fv } C none := ⟨hx, rfl, rfl, trivial⟩
  have hxs : x ≠ hp.objs.size := Nat.ne_of_lt (Heap.lt_size hx)
  refine PySem.W.osa_openX SF X I ov (taker_none ha) (fun b => ?_)
  have lc : PySem.W.Looks (model prog w) hp (classData C) cd := PySem.W.looks_clsIn X hcd
  obtain ⟨z1, z2, z3, z4, z5, z6, z7, z8, z9, z10, z11⟩ := cd
  dsimp only at hdd
  subst hdd
  show wpAny _ _ (storeInOwnDict (.ref x) (.ref C) (.str name tk) name v b) _ _ _
  unfold storeInOwnDict ownDictForStores
  cases b <;>
  · repeat (first | with_reducible refine PySem.HandSPX.store_in_new ?_ ?_ | with_reducible refine wpAny_loadPart_at hx ?_ | with_reducible refine lc.at ?_ | wp_step)
    · exact ⟨_, #[], _, (Heap.get?_update_ne _ _ _ _ hxs.symm).trans (Heap.get?_push_at rfl rfl), rfl, fun e he => absurd he (by simp), fun _ => rfl⟩
    · intro h' tk' hn' hs
      have hx1 : (hp.push { cls := .type "dict", data := .dict #[] }).get? x = some { cls := .ref C, data := .fields fv } := Heap.get?_push_of_some _ hx
      refine hq h' tk' hp.objs.size ?_ (Nat.le_refl _) hxs.symm ?_ hn'
      · intro b o hb ho
        have e1 := hs.2 b (Nat.ne_of_lt (Heap.lt_size ho))
        rw [e1, Heap.get?_update_ne _ _ _ _ hb]
        exact Heap.get?_push_of_some _ ho
      · rw [hs.2 x hxs]
        exact Heap.get?_update_self _ hx1 rfl
theorem sa_further {dx : Addr} {m0 : Str → Option Value} {nl : List Str} (T : OexB K C) (X : K.In hp) (hx : hp.get? x = some { cls := .ref C, dict := some dx, data := .fields fv }) (hns : hp.Ns1 dx m0) (hw : Within m0 nl) (hz : nl.length ≤ 1000) (ha : PySem.W.findIn K (.ref C) name = some none)
    (hq : ∀ h' tk', (∀ b o, b ≠ dx → hp.get? b = some o → h'.get? b = some o) → h'.Ns1 dx (fun y => if y = name then some v else m0 y) → R (.ok (.ret .none)) ⟨h', g, d, tk', os⟩) :
    codeAny (model prog w) A (.call (.builtin "object.__setattr__") ⟨[.ref x, .str name tk, v], []⟩) R ⟨hp, g, d, t, os⟩ := by
  obtain ⟨TT, bmT, SF, ov⟩ := T.st
  obtain ⟨cd, hcd, hdd⟩ := T.cd
  obtain ⟨oD, _, _, hoD, _, _⟩ := hns.count hw
  have I : PySem.W.InstAt hp x { cls := .ref C, dict := some dx, data := .fields fv } C (some oD) := ⟨hx, rfl, rfl, hoD⟩
  refine PySem.W.osa_openX SF X I ov (taker_none ha) (fun b => ?_)
  have lc : PySem.W.Looks (model prog w) hp (classData C) cd := PySem.W.looks_clsIn X hcd
  obtain ⟨z1, z2, z3, z4, z5, z6, z7, z8, z9, z10, z11⟩ := cd
  dsimp only at hdd
  subst hdd
  show wpAny _ _ (storeInOwnDict (.ref x) (.ref C) (.str name tk) name v b) _ _ _
  unfold storeInOwnDict ownDictForStores
  cases b <;>
  · repeat (first | with_reducible refine PySem.OEX.store_in_old hns hw hz ?_ | with_reducible refine wpAny_loadPart_at hx ?_ | with_reducible refine lc.at ?_ | wp_step)
    intro h' tk' hn' hs
    exact hq h' tk' (fun b o hb ho => (hs.2 b hb).trans ho) hn'
end
section
variable {X : Cx} {pins : List (Addr × Obj)} {σ : L2.St} {H : Hp} {s : Shared} {a C dx : Addr} {f : Str} {y : V} {u : Value} {fs : List (Str × V)} {Q : Unit → Shared → Prop} {E : Value → Shared → Prop} {A : Around}
theorem put_first (T : OexB X.K C) (I : Inv X pins σ H s) (e : H a = some (exo a C none)) (hno : PySem.W.findIn X.K (.ref C) f = some none) (ry : RelV y u)
    (h : ∀ dx s', H dx = none → dx ≠ a → Inv X pins σ (upd (upd H dx (exd dx [(f, y)])) a (exo a C (some dx))) s' → Q () s') : wpAny (model X.prog X.w) A (setAttr (.ref a) f u) Q E s := by
  obtain ⟨t1, ho⟩ := exo_at I.hok e
  obtain ⟨hp, g, d, t, os⟩ := s
  refine PySem.W.set_plain I.kIn (od := none) ⟨ho, rfl, rfl, trivial⟩ T.sa (sa_first T I.kIn ho hno ?_)
  intro h' tk' dx k big ne hx hn
  have fresh : H dx = none := I.hok.fresh big
  have notd : ∀ {b : Addr} {o : Obj}, hp.get? b = some o → b ≠ dx := by
    intro b o q
    exact Nat.ne_of_lt (Nat.lt_of_lt_of_le (Heap.lt_size q) big)
  have nota : ∀ {b : Addr}, H b = none → b ≠ a := by
    intro b n z
    rw [z, e] at n
    cases n
  have step : Un X.fs [] H (upd (upd H dx (exd dx [(f, y)])) a (exo a C (some dx))) hp h' := by
    constructor
    case keep => exact fun b o q n _ _ => k b o (nota n) q
    case slot => exact fun b o q n _ _ => ⟨o.slots, k b o (nota n) q⟩
    case free =>
      intro b o q n _
      rw [upd_ne (nota n), upd_ne (notd q)]
      exact n
    case there =>
      intro b o q _
      by_cases hb : b = a
      · subst hb
        exact ⟨_, hx⟩
      · exact ⟨o, k b o hb q⟩
    case tups =>
      intro b xs q
      rw [upd_ne (at_ne e q exo_tup), upd_ne (ne_of_none q fresh)]
      exact q
    case frzs =>
      intro b o v q
      rw [upd_ne (at_ne e q exo_frz), upd_ne (ne_of_none q fresh)]
      exact q
    case tbls =>
      intro b ps q
      refine ⟨#[], ?_⟩
      rw [upd_ne (at_ne e q exo_tbl), upd_ne (ne_of_none q fresh), q]
      simp
  refine h dx _ fresh ne (I.un (t' := tk') step ?_)
  intro b o q
  by_cases hb : b = a
  · subst hb
    rw [upd_same] at q
    cases q
    exact exo_ok hx
  rw [upd_ne hb] at q
  by_cases hd : b = dx
  · subst hd
    rw [upd_same] at q
    cases q
    exact exd_ok hn (relO_put (fs := []) ry fun _ => True.intro)
  rw [upd_ne hd] at q
  refine (I.hok b o q).stay (fun c v hc z => k c v ?_ z) (fun c hc => ?_) (fun c xs hc => ?_)
  · rcases hc with rfl | hc
    · exact hb
    · exact at_ne e hc exo_own
  · rw [upd_ne (at_ne e hc exo_own), upd_ne (ne_of_none hc fresh)]
    exact hc
  · rw [upd_ne (at_ne e hc exo_tup), upd_ne (ne_of_none hc fresh)]
    exact hc
theorem put_further (T : OexB X.K C) (I : Inv X pins σ H s) (e : H a = some (exo a C (some dx))) (ed : H dx = some (exd dx fs)) (hl : fs.length ≤ 900) (hno : PySem.W.findIn X.K (.ref C) f = some none) (ry : RelV y u)
    (h : ∀ s', Inv X pins σ (upd H dx (exd dx ((f, y) :: fs))) s' → Q () s') : wpAny (model X.prog X.w) A (setAttr (.ref a) f u) Q E s := by
  obtain ⟨t1, ho⟩ := exo_at I.hok e
  obtain ⟨mA, hns, rel⟩ := exd_at I.hok ed
  have hw := within_of rel
  obtain ⟨hp, g, d, t, os⟩ := s
  obtain ⟨oD, _, _, hoD, _, _⟩ := hns.count hw
  refine PySem.W.set_plain I.kIn (od := some oD) ⟨ho, rfl, rfl, hoD⟩ T.sa (sa_further T I.kIn ho hns hw ?_ hno ?_)
  · rw [List.length_map]
    omega
  · intro h' tk' k hn
    have there : ∃ o, h'.get? dx = some o := by
      obtain ⟨o, _, _, e', _⟩ := hn
      exact ⟨o, e'⟩
    refine h _ (I.write (t' := tk') (x := dx) (e := dx) (o := exd dx ((f, y) :: fs)) ?_ (.inl rfl) k there (exd_ok hn (relO_put ry rel)))
    rw [ed]
    exact True.intro
end
/-- self.f = y in the __init__ of an exception -/
def tPut (K : PySem.W.Frag) (f : Str) (to te : TE) : TS := fun D σ H => te σ H fun y H1 => to σ H1 fun x H2 => ∃ a C : Addr, x = .ref a ∧ OexB K C ∧ PySem.W.findIn K (.ref C) f = some none ∧
  ((H2 a = some (exo a C none) ∧ ∀ dx, H2 dx = none → dx ≠ a → D.nx σ (upd (upd H2 dx (exd dx [(f, y)])) a (exo a C (some dx)))) ∨
    ∃ (dx : Addr) (fs : List (Str × V)), H2 a = some (exo a C (some dx)) ∧ H2 dx = some (exd dx fs) ∧ fs.length ≤ 900 ∧ D.nx σ (upd H2 dx (exd dx ((f, y) :: fs))))
section
variable {X : Cx} {o e : Expr} {es : List Expr} {to te : TE} {ta : TA} {f : Str} {p p' pos : Pos}
theorem ps_put (ho : PE X o to) (he : PE X e te) (hs : swapsWith e (some (.Attribute o f p')) pos.line X.env = pure false := by rfl) : PS X (.Assign [.Attribute o f p'] e pos) (tPut X.K f to te) := by
  constructor
  intro pins s σ H D I h
  refine plainObj_wpAny_Assign_Attribute (thn (he.run pins s σ H _ I h) ?_) hs
  rintro v s1 ⟨y, H1, I1, r1, q1⟩
  refine thn (ho.run pins s1 σ H1 _ I1 q1) ?_
  rintro u s2 ⟨x, H2, I2, r2, a, C, rfl, T, hno, q⟩
  obtain rfl : u = Value.ref a := r2
  rcases q with ⟨ea, q⟩ | ⟨dx, fs, ea, ed, hl, q⟩
  · exact put_first T I2 ea hno r1 fun dx s' n ne J => ⟨σ, _, J, q dx n ne⟩
  · exact put_further T I2 ea ed hl hno r1 fun s' J => ⟨σ, _, J, q⟩
/-- C(e, ..) of such a class, to be raised -/
theorem pmk_oexB {CX : CXT} {x : Str} {C fI : Addr} {k : Nat} {fd : FuncData} {ps : List Str} {sp : Sp} (T : OexB X.K C) (iC : PySem.W.findIn X.K (.ref C) "__init__" = some (some (.ref fI))) (tI : PySem.W.typeIn X.K (.ref fI) = some (.type "function"))
    (G : FnOk X.prog X.w X.K X.mg X.base CX k fI fd ps sp) (hr : Room (k + 1) X.A) (hb : Binds X.K fd ps []) (hx : Passes CX X (fun _ _ _ => False)) (hg : Gl X x) (hm : X.mg x = some (.ref C)) (ha : PA X (e :: es) ta)
    (hdb : (x == ("__debug__" : Str)) = false := by decide) (he : starEach (e :: es) X.env = (false, eval e X.env) :: starEach es X.env := by rfl) (hpl : (backTo pos (starEach es X.env)).any (·.1) = false := by rfl) :
    PMk X (.Call (.Name x p) (e :: es) [] pos) (tMkO C sp [] ta) := by
  intro pins s σ H Q I h
  obtain ⟨B, newId, initId, bmB, bm, nm, qn, N, bs, hdct, sn, sub, ab, col, dd, k0, k1, k2, k3, k5, FB, hT, hC0⟩ := T.made
  refine wpAny_Call_Name_kw (ld_glob I hg hm ?_ hdb)
  refine PySem.W.callWith_K (h₀ := X.base) I.ok.mod.kin T.kC (thn (ha.run pos pins s σ H _ I h) ?_) he hpl
  rintro us s1 ⟨vs, H1, I1, r1, hz, q1⟩
  refine ⟨I1.kIn, ?_⟩
  show wpAny _ _ (call (.ref C) us) _ _ _
  obtain ⟨hp, g, dr, tk, os⟩ := s1
  have hC := I1.kIn _ _ hC0
  let A1 := hp.objs.size + 1
  let hp2 := (hp.push (PySem.W.kdv_tup us)).push (PySem.HandSPX.excO C hp.objs.size)
  have big : hp.objs.size ≤ A1 := Nat.le_succ _
  have q2 := q1 A1 (I1.hok.fresh big)
  have kk : ∀ b o, hp.get? b = some o → hp2.get? b = some o := fun b o e => Heap.get?_push_of_some _ (Heap.get?_push_of_some _ e)
  have got : hp2.get? A1 = some (PySem.HandSPX.excO C hp.objs.size) := by
    show ((hp.push (PySem.W.kdv_tup us)).push (PySem.HandSPX.excO C hp.objs.size)).get? (hp.objs.size + 1) = _
    heap_get
  have I2 : Inv X pins σ (upd H1 A1 (exo A1 C none)) ⟨hp2, g, dr, tk, os⟩ := I1.laid (t' := tk) (a := A1) (o := exo A1 C none) (h' := hp2) kk big (exo_ok got)
  have r2 : Vals (V.ref A1 :: (vs ++ [])) (Value.ref A1 :: us) := by
    rw [List.append_nil]
    exact .cons rfl r1
  have hlen : (Value.ref A1 :: us).length = ps.length := by
    rw [← r2.length]
    exact G.len _ _ _ _ q2
  have hus : us.length ≤ sizeLine := by
    rw [← Paired.length r1, sizeLine_eq]
    omega
  have bd := hb ⟨hp2, g, dr, tk, os⟩ (Value.ref A1 :: us) I2.kIn (by rw [List.append_nil]; exact hlen)
  rw [List.append_nil] at bd
  refine wpAny_call (mk_call FB hT hC (PySem.W.looks_findIn I1.kIn iC) (fun self => PySem.W.bind_fn I1.kIn self tI) hus ?_)
  refine codeAny_mono (G.run _ X.stack _ _ ⟨Value.ref A1 :: us, []⟩ (Value.ref A1 :: us) _ _ (fun _ _ _ => False) (hr.make C us []) (I2.env0.make C us []) bd r2 q2) ?_
  intro r s' hq'
  match r, hq' with
  | .error er, hq' => exact hx pins σ _ _ er s' I2 hq'
  | .ok (.ret u), ⟨v, H2, os2, bare2, un2, hok2, rv, ev, d, fs, ea, ed, hd1, q3⟩ =>
    subst ev
    obtain ⟨h2, g2, d2, t2, os'⟩ := s'
    exact ⟨rv, mk_end (raises_own T.exC T.tyC) I1 big kk un2 hok2 os2 bare2 ea ed hd1 q3⟩
end
/-! ### a kept exception, looked at -/
/-- at a stands a kept exception of the class C with these fields -/
def KeptE (H : Hp) (a C : Addr) (fs : List (Str × V)) : Prop := ∃ dd : Addr, H a = some (keptX (.ref C) (some dd) a) ∧ H dd = some (.xd fs)
theorem keptE_inst {X : Cx} {pins : List (Addr × Obj)} {σ : L2.St} {H : Hp} {s : Shared} {a C : Addr} {fs : List (Str × V)} (I : Inv X pins σ H s) (h : KeptE H a C fs) : ∃ (ox od : Obj), PySem.W.InstAt s.heap a ox C (some od) ∧
    ∀ f, ∃ u, RelO (fs.lookup f) u ∧ PySem.W.lookIn f od = some u := by
  obtain ⟨dd, ea, ed⟩ := h
  obtain ⟨oe, vs, ho, hz, hd⟩ := keptX_at I.hok ea
  have hx : ObjOk X.prog X.w H s.heap dd (.xd fs) := I.hok dd _ ed
  obtain ⟨mA, hns, hr⟩ := hx
  obtain ⟨od, h1, hl⟩ := lookIn_ns hns
  refine ⟨oe, od, ⟨ho, hz.1, ?_, ?_⟩, fun f => ⟨mA f, hr f, hl f⟩⟩
  · unfold PySem.W.notCls
    rw [hd] <;> rfl
  · rw [hz.2]
    exact h1
/-- e.f, e a kept exception -/
def tFldX (K : PySem.W.Frag) (f : Str) (te : TE) : TE := fun σ H Q => te σ H fun x H1 => ∃ (a C : Addr) (fs : List (Str × V)) (v : V), x = .ref a ∧ XfC K C ∧ PySem.W.findIn K (.ref C) f = some none ∧ KeptE H1 a C fs ∧ fs.lookup f = some v ∧ Q v H1
theorem pe_fldX {X : Cx} {e : Expr} {te : TE} {pos : Pos} {n : Str} (he : PE X e te) (hb : attributeBase e n X.env (eval e X.env) = eval e X.env := by rfl) : PE X (.Attribute e n pos) (tFldX X.K n te) := by
  constructor
  intro pins s σ H Q I h
  refine attr_of hb (thn (he.run pins s σ H _ I h) ?_)
  rintro u s1 ⟨x, H1, I1, rx, a, C, fs, v, rfl, T, hno, hk, l, q⟩
  obtain rfl : u = Value.ref a := rx
  obtain ⟨ox, od, J, look⟩ := keptE_inst I1 hk
  obtain ⟨m, r, hl⟩ := look n
  obtain ⟨u, hu, ru⟩ := RelO.some_of (v := v) (o := m) (by rw [← l]; exact r)
  exact HandSPX.exc_get I1.kIn J T.ga T.gg T.exC (PySem.W.findObj_own T.hdC hno rfl (by rw [hl, hu])) (handed_of ru) ⟨v, H1, I1.tok _, ru, q⟩
theorem keptE_kit {K : PySem.W.Frag} {a C : Addr} {od : Option Obj} {ox : Obj} (T : ExcC K C) : PySem.W.KitX K (.ref a) (.ref C) (fun h => PySem.W.InstAt h a ox C od) := by
  obtain ⟨cd, hc, _⟩ := PySem.W.any_some T.hd
  exact PySem.W.kitx_exc (by rw [hc]; rfl) T.hg T.hk T.hs T.ha T.hn T.ht T.hm
/-- isinstance(e, c) of a kept exception, or of what the layer knows already -/
def rIsO (K : PySem.W.Frag) : List V → Hp → VK → Prop := fun xs H Q => rIsi K xs H Q ∨ ∃ (a C : Addr) (fs : List (Str × V)) (c : V) (u : Value) (b : Bool), xs = [.ref a, c] ∧ KeptE H a C fs ∧ ExcC K C ∧ ClsV c u ∧ PySem.W.kitOne K (.ref C) u = some b ∧ Q (.bl b) H
theorem call_isO {X : Cx} : CallR X (.builtin "isinstance") (rIsO X.K) := by
  intro pins s σ H xs us Q I r h
  rcases h with h | ⟨a, C, fs, c, u, b, rfl, hk, T, k, e, q⟩
  · exact call_isi pins s σ H xs us Q I r h
  obtain ⟨u1, u2, rfl, r1, r2⟩ := vals2 r
  obtain rfl : u1 = Value.ref a := r1
  have e2 := k.eq r2
  subst e2
  obtain ⟨ox, od, J, _⟩ := keptE_inst I hk
  exact PySem.W.kia_one (keptE_kit T) I.kIn J e (fun z => nomatch z) fun tk => ⟨.bl b, H, I.tok tk, rfl, q⟩
/-- isinstance(e, (c1, c2, ..)) of a kept exception, or of what the layer knows already -/
def rIsOT (K : PySem.W.Frag) : List V → Hp → VK → Prop := fun xs H Q => rIsiT K xs H Q ∨ ∃ (a C : Addr) (fs : List (Str × V)) (tp : Addr) (cs : List V) (us : List Value) (b : Bool), xs = [.ref a, .ref tp] ∧ KeptE H a C fs ∧ ExcC K C ∧ H tp = some (.tup cs) ∧ Paired ClsV cs us ∧
  PySem.W.kitAny K (.ref C) us = some b ∧ Q (.bl b) H
theorem call_isOT {X : Cx} : CallR X (.builtin "isinstance") (rIsOT X.K) := by
  intro pins s σ H xs us Q I r h
  rcases h with h | ⟨a, C, fs, tp, cs, ws, b, rfl, hk, T, hT, k, e, q⟩
  · exact call_isiT pins s σ H xs us Q I r h
  obtain ⟨u1, u2, rfl, r1, r2⟩ := vals2 r
  obtain rfl : u1 = Value.ref a := r1
  obtain rfl : u2 = Value.ref tp := r2
  obtain ⟨ox, od, J, _⟩ := keptE_inst I hk
  have ht : ObjOk X.prog X.w H s.heap tp (.tup cs) := I.hok tp _ hT
  obtain ⟨_, its, rv, o, h1, h2, n, h3⟩ := ht
  have e3 := ClsV.all k rv
  subst e3
  obtain ⟨oc, od', dt, sl⟩ := o
  simp only at h2 h3
  subst h2 h3
  exact PySem.W.kia_tup (keptE_kit T) I.kIn J h1 e (fun z => nomatch z) fun tk => ⟨.bl b, H, I.tok tk, rfl, q⟩
/-! ### an object made that may refuse -/
section
variable {X : Cx} {CX : CXT} {k : Nat} {f C : Addr} {fd : FuncData} {ps : List Str} {sp : Sp} {dvs : List V} {ds : List Value} {E : L2.St → XK} {x : Str} {p pos : Pos} {e : Expr} {es : List Expr} {t : TA}
def tMakeS (C : Addr) (sp : Sp) (dvs : List V) (E : L2.St → XK) (t : TA) : TE := fun σ H Q => t σ H fun vs H1 => ∀ x dx, H1 x = none → H1 dx = none → dx ≠ x → sp (.ref x :: (vs ++ dvs)) (upd (upd H1 dx (.own x)) x (.ins C dx [])) (fun v H2 => v = .non ∧ Q (.ref x) H2) (E σ)
theorem pe_makeS (M : Mk X.K C f) (G : FnOk X.prog X.w X.K X.mg X.base CX k f fd ps sp) (hr : Room (k + 1) X.A) (hg : Gl X x) (hm : X.mg x = some (.ref C)) (hb : Binds X.K fd ps ds) (hd : Vals dvs ds) (hx : ∀ σ, PassesAt CX X σ (E σ))
    (ha : PA X (e :: es) t) (hdb : (x == ("__debug__" : Str)) = false := by decide) (he : starEach (e :: es) X.env = (false, eval e X.env) :: starEach es X.env := by rfl) (hpl : (backTo pos (starEach es X.env)).any (·.1) = false := by rfl) :
    PE X (.Call (.Name x p) (e :: es) [] pos) (tMakeS C sp dvs E t) := by
  constructor
  intro pins s σ H Q I h
  refine wpAny_Call_Name_kw (ld_glob I hg hm ?_ hdb)
  refine PySem.W.callWith_K (h₀ := X.base) I.ok.mod.kin M.kp (thn (ha.run pos pins s σ H _ I h) ?_) he hpl
  rintro us s1 ⟨vs, H1, I1, r, q⟩
  refine ⟨I1.kIn, ?_⟩
  have q2 := q (s1.heap.objs.size + 1) s1.heap.objs.size (I1.hok.fresh (Nat.le_succ _)) (I1.hok.fresh (Nat.le_refl _)) (Nat.ne_of_lt (Nat.lt_succ_self _))
  have J := Inv.made (C := C) I1
  have r2 : Vals (V.ref (s1.heap.objs.size + 1) :: (vs ++ dvs)) (Value.ref (s1.heap.objs.size + 1) :: (us ++ ds)) := .cons rfl (r.append hd)
  have hl : (Value.ref (s1.heap.objs.size + 1) :: us ++ ds).length = ps.length := by
    have e := r2.length
    rw [G.len _ _ _ _ q2] at e
    exact e.symm
  refine wpAny_call (make_map (f := f) I1.kIn M.makes M.init (beq_iff_eq.mp M.fn) (codeAny_mono (G.run _ X.stack _ _ ⟨Value.ref (s1.heap.objs.size + 1) :: us, []⟩ (Value.ref (s1.heap.objs.size + 1) :: (us ++ ds)) _ _ (E σ) (hr.make C us [])
    (J.env0.make C us []) (hb _ (Value.ref (s1.heap.objs.size + 1) :: us) J.kIn hl) r2 q2) ?_))
  intro r s' hq
  match r, hq with
  | .error er, hq => exact hx σ pins _ _ er s' J hq
  | .ok (.ret u), hq =>
    obtain ⟨v, H', I3, rv, ev, q3⟩ := J.after hq
    subst ev
    exact ⟨rv, ⟨V.ref (s1.heap.objs.size + 1), H', I3, rfl, q3⟩⟩
end
/-! ### a block by a reading of one's own -/
theorem pss_imp {X : Cx} {b : List Stmt} {t t' : TS} (h : PSs X b t) (i : ∀ D σ H, t' D σ H → t D σ H) : PSs X b t' := ⟨fun pins s σ H D I z => h.run pins s σ H D I (i _ _ _ z)⟩
/-! ### o.m(e, .., k = v, ..), what is raised wished for at the caller's slots -/
section
variable {X : Cx} {CX : CXT} {k n : Nat} {f C : Addr} {fd : FuncData} {ps ks : List Str} {sp : Sp} {E : L2.St → XK} {m : Str} {apos pos : Pos} {o e : Expr} {es : List Expr} {kws : List Keyword} {ta : TE} {t tk : TA} {g : List Value → List Value → List Value} {gV : List V → List V → List V}
theorem passNo {P : Program} {w : World} {σ : L2.St} (hP : X.prog = P) (hw : X.w = w) : PassesAt (L2.CX P w) X σ E0 := by
  intro pins H s e s' I h
  obtain ⟨_, _, _, _, _, _, _, _, _, _, _, _, z⟩ := h
  exact (show False from z).elim
theorem run_kbn {pins : List (Addr × Obj)} {σ : L2.St} {H : Hp} {s : Shared} {Q : VK} {us ws : List Value} {vs zs : List V} (F : FnOk X.prog X.w X.K X.mg X.base CX k f fd ps sp) (hr : Room k X.A) (hb : KBn X.K fd ps n ks g gV) (hx : PassesAt CX X σ (E σ))
    (I : L2.Inv X pins σ H s) (r : Vals vs us) (rz : Vals zs ws) (l1 : vs.length = n) (l2 : zs.length = ks.length) (h : sp (gV vs zs) H Q (E σ)) : wpAny (model X.prog X.w) X.A (call (.ref f) us (ks.zip ws)) (EP X pins σ Q) X.xe s := by
  have bd := hb.to s us ws I.kIn (r.length.symm.trans l1) (rz.length.symm.trans l2)
  refine wpAny_call (codeAny_mono (F.run X.A X.stack s H ⟨us, ks.zip ws⟩ (g us ws) (gV vs zs) Q (E σ) hr I.env0 bd (hb.rel r rz) h) fun z s' hz => ?_)
  match z, hz with
  | .error er, hz => exact hx pins H s er s' I hz
  | .ok (.ret u), hz => exact I.after hz
  | .ok .next, hz => exact (show False from hz).elim
  | .ok .brk, hz => exact (show False from hz).elim
  | .ok .cont, hz => exact (show False from hz).elim
def tMethA (C : Addr) (m : Str) (n nk : Nat) (sp : Sp) (gV : List V → List V → List V) (E : L2.St → XK) (ta : TE) (t tk : TA) : TE := fun σ H Q => ta σ H fun x H1 => ∃ a dx fs, x = .ref a ∧ H1 a = some (.ins C dx fs) ∧ fs.lookup m = none ∧
  t σ H1 fun vs H2 => tk σ H2 fun zs H3 => vs.length = n ∧ zs.length = nk ∧ sp (gV (.ref a :: vs) zs) H3 Q (E σ)
theorem pe_methA {pl : Sem Bool} (he : PE X o ta) (c : Cls X.K C) (hm : Meth X.K C m f) (F : FnOk X.prog X.w X.K X.mg X.base CX k f fd ps sp) (hr : Room k X.A) (hb : KBn X.K fd ps (n + 1) ks g gV) (hx : ∀ σ, PassesAt CX X σ (E σ))
    (ha : PA X (e :: es) t) (hkw : PK X kws tk) (n1 : (backToKw pos (keywordEach kws X.env)).all (·.1.isSome) = true := by rfl) (n2 : (backToKw pos (keywordEach kws X.env)).filterMap (·.1) = ks := by rfl)
    (n3 : starEach (e :: es) X.env = (false, eval e X.env) :: starEach es X.env := by rfl) (n4 : ((backTo pos (starEach (e :: es) X.env)).any (·.1) || (backToKw pos (keywordEach kws X.env)).any (·.1.isNone)) = false := by rfl)
    (n5 : eval (.Call (.Attribute o m apos) (e :: es) kws pos) X.env = (do
      let ov ← eval o X.env
      standAt apos.atName
      let (f, first) ← holding [ov] (getMethod ov m pl)
      callWith pos f first (backTo pos (starEach (e :: es) X.env)) (backToKw pos (keywordEach kws X.env))) := by rfl) :
    PE X (.Call (.Attribute o m apos) (e :: es) kws pos) (tMethA C m n ks.length sp gV E ta t tk) := by
  constructor
  intro pins s σ H Q I h
  refine PySem.W.methodCall_KW (pl := pl) (thn (he.run pins s σ H _ I h) ?_) n5
  rintro u s1 ⟨x, H1, I1, rx, a, dx, fs, rfl, ea, l, q⟩
  cases (show u = Value.ref a from rx)
  refine getmeth_ok I1 ea c hm l ?_
  refine PySem.W.callWith_KW (first := [.ref a]) (h₀ := X.base) I.ok.mod.kin hm.kp n1 (thn (ha.run pos pins s1 σ H1 _ I1 q) ?_) n4 n3
  rintro us s2 ⟨vs, H2, I2, r, q2⟩
  refine thn (hkw.run pos pins s2 σ H2 _ I2 q2) ?_
  rintro ws s3 ⟨zs, H3, I3, rz, l1, l2, q3⟩
  refine ⟨I3.kIn, ?_⟩
  rw [n2]
  exact run_kbn (us := .ref a :: us) (vs := .ref a :: vs) F hr hb (hx σ) I3 (.cons rfl r) rz (congrArg Nat.succ l1) l2 q3
/-- o.m(k = v, ..) -/
theorem pe_methA0 {pl : Sem Bool} (he : PE X o ta) (c : Cls X.K C) (hm : Meth X.K C m f) (F : FnOk X.prog X.w X.K X.mg X.base CX k f fd ps sp) (hr : Room k X.A) (hb : KBn X.K fd ps 1 ks g gV) (hx : ∀ σ, PassesAt CX X σ (E σ))
    (hkw : PK X kws tk) (n1 : (backToKw pos (keywordEach kws X.env)).all (·.1.isSome) = true := by rfl) (n2 : (backToKw pos (keywordEach kws X.env)).filterMap (·.1) = ks := by rfl)
    (n4 : ((backTo pos (starEach [] X.env)).any (·.1) || (backToKw pos (keywordEach kws X.env)).any (·.1.isNone)) = false := by rfl)
    (n5 : eval (.Call (.Attribute o m apos) [] kws pos) X.env = (do
      let ov ← eval o X.env
      standAt apos.atName
      let (f, first) ← holding [ov] (getMethod ov m pl)
      callWith pos f first (backTo pos (starEach [] X.env)) (backToKw pos (keywordEach kws X.env))) := by rfl) :
    PE X (.Call (.Attribute o m apos) [] kws pos) (tMethA C m 0 ks.length sp gV E ta tNil tk) := by
  constructor
  intro pins s σ H Q I h
  refine PySem.W.methodCall_KW (pl := pl) (thn (he.run pins s σ H _ I h) ?_) n5
  rintro u s1 ⟨x, H1, I1, rx, a, dx, fs, rfl, ea, l, q⟩
  cases (show u = Value.ref a from rx)
  refine getmeth_ok I1 ea c hm l ?_
  refine PySem.W.callWith_KW0 (first := [.ref a]) (h₀ := X.base) I.ok.mod.kin hm.kp n1 ?_ n4
  refine thn (hkw.run pos pins s1 σ H1 _ I1 q) ?_
  rintro ws s3 ⟨zs, H3, I3, rz, l1, l2, q3⟩
  refine ⟨I3.kIn, ?_⟩
  rw [n2]
  exact run_kbn (us := [.ref a]) (vs := [.ref a]) F hr hb (hx σ) I3 (.cons rfl .nil) rz rfl l2 q3
/-- places alone, as a case of both -/
theorem kbn_of {K : Frag} {ds : List Value} {dvs : List V} (hb : L2.Binds K fd ps ds) (hd : Vals dvs ds) (hn : n + ds.length = ps.length) : KBn K fd ps n [] (fun us _ => us ++ ds) (fun vs _ => vs ++ dvs) :=
  ⟨fun s us ws X l1 l2 => hb s us X (by rw [List.length_append, l1, hn]), fun a _ => a.append hd⟩
end
/-! ### objects of an own class: their text, ==, !=, whatever stands at the right -/
section
variable {X : Cx} {CX : CXT} {C g : Addr} {n : Nat} {fd : FuncData} {ps : List Str} {sp : Sp} {E : XK}
/-- the callee runs, at whatever place below -/
theorem run_fnA {A : Around} {pins : List (Addr × Obj)} {σ : L2.St} {H : Hp} {s : Shared} {Q : VK} {us : List Value} {vs : List V} (F : FnOk X.prog X.w X.K X.mg X.base CX n g fd ps sp) (hr : Room n A) (e0 : A.frames = X.A.frames) (hb : L2.Binds X.K fd ps [])
    (hx : Passes CX X E) (I : L2.Inv X pins σ H s) (r : Vals vs us) (h : sp vs H Q E) : wpAny (model X.prog X.w) A (call (.ref g) us) (EP X pins σ Q) X.xe s := by
  have hl : (us ++ []).length = ps.length := by rw [List.append_nil, ← r.length]; exact F.len _ _ _ _ h
  have b := hb s us I.kIn hl
  rw [List.append_nil] at b
  have e := I.env0
  have e1 : Env0 X.prog X.w X.K X.mg X.base A X.stack s H := ⟨e0.trans e.frames, e.mod, e.bs, e.bsz, e.funs, e.frf, e.hok, e.bare⟩
  refine wpAny_call (codeAny_mono (F.run A X.stack s H ⟨us, []⟩ us vs Q E hr e1 b r h) fun r s' hq => ?_)
  cases r with
  | error e => exact hx pins σ H s e s' I hq
  | ok fl =>
    cases fl with
    | ret u => exact I.after hq
    | next => exact False.elim hq
    | brk => exact False.elim hq
    | cont => exact False.elim hq
theorem inst_of {pins : List (Addr × Obj)} {σ : L2.St} {H : Hp} {s : Shared} {a dx : Addr} {fs : List (Str × V)} (I : L2.Inv X pins σ H s) (h : H a = some (.ins C dx fs)) : ∃ od, PySem.W.InstAt s.heap a (instObj C dx) C (some od) := by
  obtain ⟨_, O1, _⟩ := ins_get I.hok h
  obtain ⟨od, J, _⟩ := O1.look
  exact ⟨od, J⟩
/-- one text comes back -/
def QStr (Q : VK) : VK := fun z H' => ∃ y : Str, z = .str y ∧ Q z H'
theorem strback {pins : List (Addr × Obj)} {σ : L2.St} {Q : VK} {v : Value} {s' : Shared} (h : EP X pins σ (QStr Q) v s') : StrBack (EP X pins σ Q) v s' := by
  obtain ⟨z, H', I', rz, y, rfl, q⟩ := h
  obtain ⟨t, rfl⟩ := (show ∃ t, v = Value.str y t from rz)
  exact ⟨.str y, H', I', ⟨t, rfl⟩, q⟩
def rOwn1 (C : Addr) (sp : Sp) (E : XK) (W : VK → VK) : List V → Hp → VK → Prop := fun xs H Q => ∃ a dx fs, xs = [V.ref a] ∧ H a = some (.ins C dx fs) ∧ sp [.ref a] H (W Q) E
/-- str(o), by o's own __str__ -/
theorem call_strOwn (hs : PySem.W.findIn X.K (.ref C) "__str__" = some (some (.ref g))) (hf : PySem.W.isFn X.K (.ref g) = true) (F : FnOk X.prog X.w X.K X.mg X.base CX n g fd ps sp) (hb : L2.Binds X.K fd ps [])
    (hr : Room (n + 2) X.A) (hx : Passes CX X E) : CallR X (.type "str") (rOwn1 C sp E QStr) := by
  intro pins s σ H vs us Q I r h
  obtain ⟨a, dx, fs, rfl, ha, q⟩ := h
  obtain ⟨u, rfl, ru⟩ := Vals.one r
  cases (show u = Value.ref a from ru)
  obtain ⟨od, J⟩ := inst_of I ha
  have hr2 : Room n X.A.in1.in1 := hr.in1.in1
  refine PySem.W.kso_call hr2.units0 I.kIn J hs hf ?_
  exact wpAny_mono (run_fnA (A := X.A.in1.in1) (us := [.ref a]) (vs := [.ref a]) F hr2 rfl hb hx I (.cons rfl .nil) q) (fun v s' z => strback z) fun _ _ x => x
/-- repr(o), by o's own __repr__ -/
theorem call_reprOwn (hs : PySem.W.findIn X.K (.ref C) "__repr__" = some (some (.ref g))) (hf : PySem.W.isFn X.K (.ref g) = true) (F : FnOk X.prog X.w X.K X.mg X.base CX n g fd ps sp) (hb : L2.Binds X.K fd ps [])
    (hr : Room (n + 1) X.A) (hx : Passes CX X E) : CallR X (.builtin "repr") (rOwn1 C sp E QStr) := by
  intro pins s σ H vs us Q I r h
  obtain ⟨a, dx, fs, rfl, ha, q⟩ := h
  obtain ⟨u, rfl, ru⟩ := Vals.one r
  cases (show u = Value.ref a from ru)
  obtain ⟨od, J⟩ := inst_of I ha
  have hr2 : Room n X.A.in1 := hr.in1
  obtain ⟨m, hF⟩ := I.fr
  refine PySem.W.repr_K hr2.units0 hF I.ok.mod.kin J hs hf ?_
  exact wpAny_mono (run_fnA (A := X.A.in1) (us := [.ref a]) (vs := [.ref a]) F hr2 rfl hb hx I (.cons rfl .nil) q) (fun v s' z => strback z) fun _ _ x => x
/-- o == y, by o's own __eq__, whatever y is -/
def rOwnY (K : PySem.W.Frag) (C : Addr) (sp : Sp) (E : XK) (W : VK → VK) : R2 := fun x y H Q => ∃ a dx fs t, x = .ref a ∧ H a = some (.ins C dx fs) ∧ TyX K H y t ∧ PySem.W.notFirst K C t = true ∧ sp [x, y] H (W Q) E
theorem op_eqY (hs : PySem.W.findIn X.K (.ref C) "__eq__" = some (some (.ref g))) (hf : PySem.W.isFn X.K (.ref g) = true) (F : FnOk X.prog X.w X.K X.mg X.base CX n g fd ps sp) (hb : L2.Binds X.K fd ps [])
    (hr : Room n X.A) (hx : Passes CX X E) : OpR X (compareOp .Eq) (rOwnY X.K C sp E id) := by
  intro pins s σ H x y v u Q I rx ry h
  obtain ⟨a, dx, fs, t, rfl, ha, ty, hn, q⟩ := h
  cases (show v = Value.ref a from rx)
  obtain ⟨od, J⟩ := inst_of I ha
  obtain ⟨P, Z, p, _⟩ := kit_of I ry ty
  obtain ⟨m, hF⟩ := I.fr
  show wpAny _ _ (richCompare .Eq _ _) _ _ _
  refine PySem.W.cmp_K (op := .Eq) (tb := t) hr.units0 hF I.ok.mod.kin J (Z.ty _ _ I.kIn p) hn hs hf ?_
  refine wpAny_mono (run_fnA (A := X.A) (us := [.ref a, u]) (vs := [.ref a, y]) F hr rfl hb hx I (.cons rfl (.cons ry .nil)) q) (fun w s' z => ?_) fun _ _ x => x
  obtain ⟨z', H', I', rz, qz⟩ := z
  exact SlX.cmpback rz ⟨z', H', I', rz, qz⟩
end
section
variable {prog : Program} {w : World} {A : Around} {E : Value → Shared → Prop} {s : Shared} {K : PySem.W.Frag} {x C f : Addr} {ox : Obj} {od : Option Obj} {b tb : Value}
open PySem.Builtin in
/-- a special method that is a built-in's, where it may be left unbound -/
theorem ifBoundB {name : Str} {id : String} {args : List Value} {Q : Option Value → Shared → Prop} (X : K.In s.heap) (I : PySem.W.InstAt s.heap x ox C od) (hs : PySem.W.findIn K (.ref C) name = some (some (.builtin id)))
    (hb : ∀ self, bindSpecial (.builtin id) self = pure (.builtin id, [self])) (h : wpAny (model prog w) A (call (.builtin id) (.ref x :: args)) (fun v => Q (some v)) E s) : wpAny (model prog w) A (callSpecialIfBound? (.ref x) name args) Q E s := by
  simp only [callSpecialIfBound?, bindSpecialIfBound?]
  refine wpAny_holding (wpAny_bind (wpAny_bind (wpAny_bind (I.type.here ((looks_findIn X hs).here ?_)))))
  refine wpAny_bind (wpAny_askSetting (wpAny_ite ?_))
  have fin : wpAny (model prog w) A (call (.builtin id) ([.ref x] ++ args) >>= fun v => pure (some v)) Q E s := wpAny_bind (wpAny_mono h (fun v s' h' => wpAny_pure h') fun _ _ h' => h')
  split
  · exact wpAny_bind ((Looks.of_pure (hb _)).here (wpAny_pure (by exact fin)))
  · exact wpAny_tryCatch (wpAny_bind ((Looks.of_pure (hb _)).here (wpAny_pure (by exact fin))))
open PySem.Builtin in
theorem objNe {Q : Value → Shared → Prop} (hu : A.in1.units < cLine) (X : K.In s.heap) (I : PySem.W.InstAt s.heap x ox C od) (hm : PySem.W.mroIn K C (.type "object") = some true) (hs : PySem.W.findIn K (.ref C) "__eq__" = some (some (.ref f))) (hf : PySem.W.isFn K (.ref f) = true)
    (h : wpAny (model prog w) A.in1 (call (.ref f) [.ref x, b]) (fun v s' => ∃ k, v = .bool k ∧ Q (.bool (!k)) s') E s) : wpAny (model prog w) A (call (.builtin "object.__ne__") [.ref x, b]) Q E s := by
  refine wpAny_call (codeAny_call_builtin (by decide +kernel) PySem.F.cmpEntry_ne (check_slot (i := "object.__ne__") (owner := "object") (n := "__ne__") (by decide +kernel) (by decide +kernel) (I.type.andThen (looks_mroIn X hm)) (PySem.F.cmpArgs_ne _ _) ?_))
  unfold Builtin.«object.__ne__»
  refine wpAny_bind (m := slotArgs "__ne__" 1 _) (wpAny_pure ?_)
  refine wpAny_bind (m := cRoomFor _ _) (wpAny_cRoomFor hu ?_)
  refine wpAny_bind (m := callSpecialIfBound? (.ref x) (Str.ofString "__eq__") _) (ifBound_K X I hs hf (wpAny_mono h (fun r s' hq => ?_) fun _ _ y => y))
  obtain ⟨k, rfl, hq⟩ := hq
  exact wpAny_bind (wpAny_truthy_bool (wpAny_pure hq))
/-- o != y, where the class says == alone -/
theorem ne_K {Q : Value → Shared → Prop} (hu : A.in1.units < cLine) (hu0 : A.units < cLine) (X : K.In s.heap) (I : PySem.W.InstAt s.heap x ox C od) (hb : Looks (model prog w) s.heap (typeOf b) tb) (hn : PySem.W.notFirst K C tb = true)
    (hm : PySem.W.mroIn K C (.type "object") = some true) (hne : PySem.W.findIn K (.ref C) "__ne__" = some (some (.builtin "object.__ne__"))) (hs : PySem.W.findIn K (.ref C) "__eq__" = some (some (.ref f))) (hf : PySem.W.isFn K (.ref f) = true)
    (h : wpAny (model prog w) A.in1 (call (.ref f) [.ref x, b]) (fun v s' => ∃ k, v = .bool k ∧ Q (.bool (!k)) s') E s) : wpAny (model prog w) A (richCompare .NotEq (.ref x) b) Q E s := by
  have one : wpAny (model prog w) A (tryCompare (.ref x) "__ne__" b) (fun r s' => ∃ v, r = some v ∧ Q v s') E s := by
    unfold tryCompare
    refine wpAny_bind (ifBoundB X I hne (by intro self; rfl) (objNe hu X I hm hs hf (wpAny_mono h (fun v s' hv => ?_) fun _ _ e => e)))
    obtain ⟨k, rfl, q⟩ := hv
    exact ⟨k, rfl, wpAny_pure ⟨_, rfl, q⟩⟩
  unfold richCompare
  simp only [oneThing_ref]
  refine wpAny_holding (wpAny_bind (wpAny_cRoomFor hu0 ?_))
  refine wpAny_bind (I.type.here (wpAny_bind (hb.here ?_)))
  split
  · rename_i q
    have e : PySem.W.subIn K tb (.ref C) = some false := by
      rcases Bool.or_eq_true_iff.mp hn with e | e
      · rw [beq_iff_eq.mp e] at q; simp at q
      · exact beq_iff_eq.mp e
    refine wpAny_bind ((looks_subIn X e).here ?_)
    simp only [Bool.false_eq_true, if_false]
    refine wpAny_bind (wpAny_mono one (fun r s' z => ?_) fun _ _ e => e)
    obtain ⟨v, rfl, hq⟩ := z
    exact wpAny_pure hq
  · refine wpAny_bind (wpAny_pure ?_)
    simp only [Bool.false_eq_true, if_false]
    refine wpAny_bind (wpAny_mono one (fun r s' z => ?_) fun _ _ e => e)
    obtain ⟨v, rfl, hq⟩ := z
    exact wpAny_pure hq
end
section
variable {X : Cx} {CX : CXT} {C g : Addr} {n : Nat} {fd : FuncData} {ps : List Str} {sp : Sp} {E : XK}
def QNot (Q : VK) : VK := fun z H' => ∃ k : Bool, z = .bl k ∧ Q (.bl (!k)) H'
theorem op_neY (hs : PySem.W.findIn X.K (.ref C) "__eq__" = some (some (.ref g))) (hf : PySem.W.isFn X.K (.ref g) = true) (hm : PySem.W.mroIn X.K C (.type "object") = some true) (hne : PySem.W.findIn X.K (.ref C) "__ne__" = some (some (.builtin "object.__ne__")))
    (F : FnOk X.prog X.w X.K X.mg X.base CX n g fd ps sp) (hb : L2.Binds X.K fd ps []) (hr : Room (n + 1) X.A) (hx : Passes CX X E) : OpR X (compareOp .NotEq) (rOwnY X.K C sp E QNot) := by
  intro pins s σ H x y v u Q I rx ry h
  obtain ⟨a, dx, fs, t, rfl, ha, ty, hn, q⟩ := h
  cases (show v = Value.ref a from rx)
  obtain ⟨od, J⟩ := inst_of I ha
  obtain ⟨P, Z, p, _⟩ := kit_of I ry ty
  show wpAny _ _ (richCompare .NotEq _ _) _ _ _
  have hr2 : Room n X.A.in1 := hr.in1
  refine ne_K (tb := t) hr2.units0 hr.units0 I.kIn J (Z.ty _ _ I.kIn p) hn hm hne hs hf ?_
  refine wpAny_mono (run_fnA (A := X.A.in1) (us := [.ref a, u]) (vs := [.ref a, y]) F hr2 rfl hb hx I (.cons rfl (.cons ry .nil)) q) (fun w s' z => ?_) fun _ _ x => x
  obtain ⟨z', H', I', rz, k, rfl, qz⟩ := z
  cases (show w = Value.bool k from rz)
  exact ⟨k, rfl, .bl (!k), H', I', rfl, qz⟩
end
/-! ### == with the object at the right: the left one's kind declines, the object's own is asked -/
section
variable {prog : Program} {w : World} {A : Around} {E : Value → Shared → Prop} {s : Shared} {K : PySem.W.Frag} {x C f : Addr} {dx : Addr} {od : Option Obj}
open PySem.Builtin
theorem int_decl (b : Int) (u : Tok) : Meets (Builtin.«int.__eq__» ⟨[.int b u, .ref x], []⟩) (fun _ R s => s.heap.get? x = some (instObj C dx) ∧ R (.ok (.ret .notImplemented)) s) :=
  .of_wp fun prog w A R s h => by obtain ⟨hp, g, d, tk, os⟩ := s; obtain ⟨hl, h⟩ := h; wp_walk using AutoSeq1.wpAny_loadPart' hl, wpAny_load hl; exact ⟨_, rfl, h⟩
theorem str_decl (b : Str) (u : Tok) : Meets (Builtin.«str.__eq__» ⟨[.str b u, .ref x], []⟩) (fun _ R s => s.heap.get? x = some (instObj C dx) ∧ R (.ok (.ret .notImplemented)) s) :=
  .of_wp fun prog w A R s h => by obtain ⟨hp, g, d, tk, os⟩ := s; obtain ⟨hl, h⟩ := h; wp_walk using AutoSeq1.wpAny_loadPart' hl, wpAny_load hl; exact ⟨_, rfl, h⟩
theorem none_decl : Meets (Builtin.«NoneType.__eq__» ⟨[.none, .ref x], []⟩) (fun _ R s => s.heap.get? x = some (instObj C dx) ∧ R (.ok (.ret .notImplemented)) s) :=
  .of_wp fun prog w A R s h => by obtain ⟨hp, g, d, tk, os⟩ := s; obtain ⟨hl, h⟩ := h; wp_walk; exact ⟨_, rfl, h⟩
theorem list_decl {l : Addr} {Q : Fin → Shared → Prop} (hi : Looks (model prog w) s.heap (isInstance (.ref x) (.type "list")) false) (h : Q (.done (.ret .notImplemented)) s) :
    wpAny (model prog w) A (Builtin.«list.__eq__» ⟨[.ref l, .ref x], []⟩) Q E s := by
  refine wpAny_bind (m := slotArgs "__eq__" 1 _) (wpAny_pure ?_)
  refine wpAny_bind (hi.here ?_)
  exact wpAny_pure h
theorem tuple_decl {l : Addr} {Q : Fin → Shared → Prop} (hi : Looks (model prog w) s.heap (isInstance (.ref x) (.type "tuple")) false) (h : Q (.done (.ret .notImplemented)) s) :
    wpAny (model prog w) A (Builtin.«tuple.__eq__» ⟨[.ref l, .ref x], []⟩) Q E s := by
  refine wpAny_bind (m := slotArgs "__eq__" 1 _) (wpAny_pure ?_)
  refine wpAny_bind (hi.here ?_)
  exact wpAny_pure h
/-- the left one declines -/
def Declines (prog : Program) (w : World) (A : Around) (E : Value → Shared → Prop) (a b : Value) (s : Shared) : Prop :=
  ∀ Q : Option Value → Shared → Prop, Q none s → wpAny (model prog w) A (tryCompare a "__eq__" b) Q E s
theorem decl_of {T id : String} {B : Builtin} {a b : Value} (hT : s.TypeIs a T) (slot : Slot T (cmpInfo .Eq).2.1 id) (entry : entryFor table id = some B) (args : argsOk id ⟨[a, b], []⟩)
    (h : ∀ Q : Fin → Shared → Prop, Q (.done (.ret .notImplemented)) s → wpAny (model prog w) A.in1 (B ⟨[a, b], []⟩) Q E s) : Declines prog w A E a b s := fun Q q =>
  wpAny_tryCompare_declines hT slot (GQ.call_here slot hT entry args (h _ ⟨rfl, q⟩))
theorem decl_ofM {T id : String} {B : Builtin} {a b : Value} {P : Shared → Prop} (hT : s.TypeIs a T) (slot : Slot T (cmpInfo .Eq).2.1 id) (entry : entryFor table id = some B) (args : argsOk id ⟨[a, b], []⟩)
    (m : Meets (B ⟨[a, b], []⟩) (fun _ R s => P s ∧ R (.ok (.ret .notImplemented)) s)) (hP : P s) : Declines prog w A E a b s := fun Q q =>
  wpAny_tryCompare_declines hT slot (GQ.call_here slot hT entry args (m prog w A (wants (fun v s' => v = .notImplemented ∧ Q none s') E) s ⟨hP, rfl, q⟩))
theorem refl_K {a ta : Value} {T : String} {Q : Value → Shared → Prop} (hu : A.units < cLine) (X : K.In s.heap) (I : PySem.W.InstAt s.heap x (instObj C dx) C od) (hT : s.TypeIs a T) (hsub : PySem.W.subIn K (.ref C) (.type T) = some false)
    (d : Declines prog w A E a (.ref x) s) (hs : PySem.W.findIn K (.ref C) "__eq__" = some (some (.ref f))) (hf : PySem.W.isFn K (.ref f) = true)
    (h : wpAny (model prog w) A (call (.ref f) [.ref x, a]) (PySem.W.CmpBack Q) E s) : wpAny (model prog w) A (richCompare .Eq a (.ref x)) Q E s := by
  have one : wpAny (model prog w) A (tryCompare (.ref x) "__eq__" a) (fun r s' => ∃ v, r = some v ∧ Q v s') E s := by
    unfold tryCompare
    refine wpAny_bind (ifBound_K X I hs hf (wpAny_mono h (fun v s' hv => ?_) fun _ _ e => e))
    cases v <;> first | exact hv.elim | exact wpAny_pure ⟨_, rfl, hv⟩
  simp only [richCompare, cmpInfo, hT.oneThing_none]
  try with_reducible refine wpAny_holding ?_
  refine wpAny_bind (wpAny_cRoomFor hu ?_)
  refine wpAny_bind (wpAny_typeOf hT (wpAny_bind (I.type.here ?_)))
  rw [show (Value.type T != Value.ref C) = true from rfl]
  simp only [if_true]
  refine wpAny_bind ((looks_subIn X hsub).here ?_)
  simp only [Bool.false_eq_true, if_false, Bool.not_false, if_true]
  refine wpAny_bind (m := tryCompare a _ _) (d _ ?_)
  refine wpAny_bind (m := tryCompare (.ref x) _ _) (wpAny_mono one (fun r s' z => ?_) fun _ _ e => e)
  obtain ⟨v, rfl, hq⟩ := z
  exact wpAny_pure hq
end
section
variable {prog : Program} {w : World} {A : Around} {E : Value → Shared → Prop} {s : Shared} {x : Addr}
open PySem.Builtin
theorem dict_decl {l : Addr} {Q : Fin → Shared → Prop} (hi : Looks (model prog w) s.heap (isInstance (.ref x) (.type "dict")) false) (h : Q (.done (.ret .notImplemented)) s) :
    wpAny (model prog w) A (Builtin.«dict.__eq__» ⟨[.ref l, .ref x], []⟩) Q E s := by
  refine wpAny_bind (m := Dict.dictSlotArgs "__eq__" _) (wpAny_pure ?_)
  refine wpAny_bind (hi.here ?_)
  exact wpAny_bind (wpAny_rule (wpAny_pure h))
end
section
variable {X : Cx} {CX : CXT} {C g : Addr} {n : Nat} {fd : FuncData} {ps : List Str} {sp : Sp} {E : XK}
/-- what may stand at the left of such an object -/
inductive LeftOk (H : Hp) : V → Prop where
  | non : LeftOk H .non
  | int (i : Int) : LeftOk H (.int i)
  | str (z : Str) : LeftOk H (.str z)
  | lst {p : Addr} {xs : List V} (h : H p = some (.lst xs)) : LeftOk H (.ref p)
  | tup {p : Addr} {xs : List V} (h : H p = some (.tup xs)) : LeftOk H (.ref p)
  | dK {p : Addr} {kvs : List (Key × V)} (h : H p = some (.dK kvs)) : LeftOk H (.ref p)
/-- the class is under none of Python's -/
structure NotSub (K : PySem.W.Frag) (C : Addr) : Prop where
  non : PySem.W.subIn K (.ref C) (.type "NoneType") = some false
  int : PySem.W.subIn K (.ref C) (.type "int") = some false
  str : PySem.W.subIn K (.ref C) (.type "str") = some false
  lst : PySem.W.subIn K (.ref C) (.type "list") = some false
  tup : PySem.W.subIn K (.ref C) (.type "tuple") = some false
  dct : PySem.W.subIn K (.ref C) (.type "dict") = some false
def rOwnR (C : Addr) (sp : Sp) (E : XK) : R2 := fun x y H Q => ∃ a dx fs, y = .ref a ∧ H a = some (.ins C dx fs) ∧ LeftOk H x ∧ sp [y, x] H Q E
theorem op_eqR (hs : PySem.W.findIn X.K (.ref C) "__eq__" = some (some (.ref g))) (hf : PySem.W.isFn X.K (.ref g) = true) (N : NotSub X.K C) (G : FnOk X.prog X.w X.K X.mg X.base CX n g fd ps sp) (hb : L2.Binds X.K fd ps [])
    (hr : Room n X.A) (hx : Passes CX X E) : OpR X (compareOp .Eq) (rOwnR C sp E) := by
  intro pins s σ H x y v u Q I rx ry h
  obtain ⟨a, dx, fs, rfl, ha, lo, q⟩ := h
  cases (show u = Value.ref a from ry)
  obtain ⟨od, J⟩ := inst_of I ha
  have hx0 : s.heap.get? a = some (instObj C dx) := J.at_
  show wpAny _ _ (richCompare .Eq _ _) _ _ _
  have fin : wpAny (model X.prog X.w) X.A (call (.ref g) [.ref a, v]) (PySem.W.CmpBack (EP X pins σ Q)) X.xe s :=
    wpAny_mono (run_fnA (A := X.A) (us := [.ref a, v]) (vs := [.ref a, x]) G hr rfl hb hx I (.cons rfl (.cons rx .nil)) q) (fun w s' z => by obtain ⟨z', H', I', rz, qz⟩ := z; exact SlX.cmpback rz ⟨z', H', I', rz, qz⟩) fun _ _ x => x
  have isI : ∀ T : String, PySem.W.subIn X.K (.ref C) (.type T) = some false → Looks (model X.prog X.w) s.heap (isInstance (.ref a) (.type T)) false := fun T e => J.type.andThen (looks_subIn I.kIn e)
  cases lo with
  | non =>
    cases (show v = Value.none from rx)
    exact refl_K (T := "NoneType") (ta := .none) hr.units0 I.kIn J rfl N.non (decl_ofM rfl F.slot_NoneType_eq F.entry_NoneType_eq (F.args_NoneType_eq_2 _ _) none_decl hx0) hs hf fin
  | int i =>
    obtain ⟨t, rfl⟩ := (show ∃ t, v = Value.int i t from rx)
    exact refl_K (T := "int") (ta := .none) hr.units0 I.kIn J (typeIs_int _ _ _) N.int (decl_ofM (typeIs_int _ _ _) F.slot_int_eq F.entry_int_eq (F.args_int_eq_2 _ _) (int_decl _ _) hx0) hs hf fin
  | str z =>
    obtain ⟨t, rfl⟩ := (show ∃ t, v = Value.str z t from rx)
    exact refl_K (T := "str") (ta := .none) hr.units0 I.kIn J (typeIs_str _ _ _) N.str (decl_ofM (typeIs_str _ _ _) F.slot_str_eq F.entry_str_eq (F.args_str_eq_2 _ _) (str_decl _ _) hx0) hs hf fin
  | @lst p xs h =>
    cases (show v = Value.ref p from rx)
    obtain ⟨_, its, k, _, hp⟩ := (show ObjOk X.prog X.w H s.heap p (.lst xs) from I.hok p _ h)
    have hT : s.TypeIs (.ref p) "list" := ⟨_, hp, rfl⟩
    exact refl_K (T := "list") (ta := .none) hr.units0 I.kIn J hT N.lst (decl_of hT F.slot_list_eq F.entry_list_eq (F.args_list_eq_2 _ _) fun Q' q' => list_decl (isI _ N.lst) q') hs hf fin
  | @tup p xs h =>
    cases (show v = Value.ref p from rx)
    obtain ⟨_, its, _, o, h1, h2, _⟩ := (show ObjOk X.prog X.w H s.heap p (.tup xs) from I.hok p _ h)
    have hT : s.TypeIs (.ref p) "tuple" := ⟨_, h1, h2⟩
    exact refl_K (T := "tuple") (ta := .none) hr.units0 I.kIn J hT N.tup (decl_of hT F.slot_tuple_eq F.entry_tuple_eq (F.args_tuple_eq_2 _ _) fun Q' q' => tuple_decl (isI _ N.tup) q') hs hf fin
  | @dK p kvs h =>
    cases (show v = Value.ref p from rx)
    obtain ⟨_, _, vs, _, o, es, ep, h1, h2, _⟩ := (show ObjOk X.prog X.w H s.heap p (.dK kvs) from I.hok p _ h)
    have hT : s.TypeIs (.ref p) "dict" := ⟨_, h1, h2.1⟩
    exact refl_K (T := "dict") (ta := .none) hr.units0 I.kIn J hT N.dct (decl_of hT F.slot_dict_eq F.entry_dict_eq (F.args_dict_eq_2 _ _) fun Q' q' => dict_decl (isI _ N.dct) q') hs hf fin
end
/-! ### in, count, index over a list, each == by the object's own -/
section
open SeqAt AutoSeq1 MeetsSeq MeetsSeq2 MeetsSeq3 SeqRoads2
open PySem.Builtin
variable {prog : Program} {w : World} {A : Around} {R : Result → Shared → Prop}
/-- at each turn the list is read anew, the turn's == gives bs i -/
def LoopB (prog : Program) (w : World) (A : Around) (E : Value → Shared → Prop) (l : Addr) (x : Value) (N : Nat) (bs : Nat → Bool) (I : Nat → Shared → Prop) : Prop :=
  ∀ i s, I i s → ∃ (items : Array Value) (n : Nat), s.heap.get? l = some { cls := .type "list", data := .seq items n } ∧ items.size = N ∧
    ∀ (h1 : i < items.size), wpAny (model prog w) A.in1 (eqBool items[i] x) (fun r s' => r = bs i ∧ I (i + 1) s') E s
def cntB (bs : Nat → Bool) : Nat → Nat → Int
  | 0, _ => 0
  | k + 1, i => (if bs i then 1 else 0) + cntB bs k (i + 1)
theorem count_loopG (l : Addr) (x : Value) (N : Nat) (bs : Nat → Bool) (I : Nat → Shared → Prop) (hl : LoopB prog w A (fun e s' => R (.error e) s') l x N bs I) (k : Nat) :
    ∀ (i : Nat) (found : Int), N - i = k → i ≤ N → ∀ s, I i s → (∀ s, I N s → R (.ok (.ret (.int (found + cntB bs k i) s.toks))) { s with toks := s.toks + 1 }) →
      wpAny (model prog w) A.in1 (Builtin.«list.count.loop» ⟨[.ref l, x, rawInt i, rawInt found], []⟩) (GQ.FinOf prog w A R) (fun e s' => R (.error e) s') s := by
  induction k with
  | zero =>
    intro i found hk hi s h fin
    obtain ⟨items, n, hl1, hs1, _⟩ := hl _ _ h
    have hi' : i = N := by omega
    have hR := fin s (hi' ▸ h)
    obtain ⟨hp, g, d, tk, os⟩ := s
    wp_walk using wpAny_loadPart' hl1
    have hi1 : items[((i : Nat) : Int).toNat]? = none := by simp; omega
    rw [hi1]
    wp_walk
    have e0 : found + cntB bs 0 i = found := by show found + 0 = found; omega
    rw [e0] at hR
    exact hR
  | succ k ih =>
    intro i found hk hi s h fin
    obtain ⟨items, n, hl1, hs1, turn⟩ := hl _ _ h
    have hlt : i < items.size := by omega
    have ht := turn hlt
    obtain ⟨hp, g, d, tk, os⟩ := s
    wp_walk using wpAny_loadPart' hl1
    have hi1 : items[((i : Nat) : Int).toNat]? = some items[i] := by simp [hlt]
    have hc : ((i : Int) + 1) = ((i + 1 : Nat) : Int) := by omega
    rw [hi1]
    refine wpAny_bind (wpAny_mono ht (fun r s2 h2 => ?_) fun _ _ x => x)
    obtain ⟨hr, h2⟩ := h2
    subst hr
    have e1 : (if bs i = true then found + 1 else found) + cntB bs k (i + 1) = found + cntB bs (k + 1) i := by
      show _ = found + ((if bs i then 1 else 0) + cntB bs k (i + 1))
      cases bs i <;> simp <;> omega
    have hrec := ih (i + 1) (if bs i = true then found + 1 else found) (by omega) (by omega) s2 h2 (fun s q => by rw [e1]; exact fin s q)
    obtain ⟨hp2, g2, d2, tk2, os2⟩ := s2
    wp_walk
    rw [hc]
    refine ⟨plainId_quiet plain_count_loop _, codeAny_builtin entry_count_loop (by
      rw [Around.under_plainId plain_count_loop _]

      exact hrec)⟩
end
section
open SeqAt AutoSeq1 MeetsSeq MeetsSeq2 MeetsSeq3 SeqRoads2
open PySem.Builtin
variable {prog : Program} {w : World} {A : Around} {R : Result → Shared → Prop}
theorem list_countG (l : Addr) (x : Value) (N : Nat) (bs : Nat → Bool) (I : Nat → Shared → Prop) (hl : LoopB prog w A (fun e s' => R (.error e) s') l x N bs I) {s : Shared} (h : I 0 s)
    (fin : ∀ s, I N s → R (.ok (.ret (.int (cntB bs N 0) s.toks))) { s with toks := s.toks + 1 }) :
    wpAny (model prog w) A.in1 (Builtin.«list.count» ⟨[.ref l, x], []⟩) (GQ.FinOf prog w A R) (fun e s' => R (.error e) s') s := by
  obtain ⟨items, n, hl1, hs1, _⟩ := hl _ _ h
  have hrec := count_loopG (A := A) (R := R) l x N bs I hl N 0 0 rfl (Nat.zero_le _) s h (fun s q => by rw [Int.zero_add]; exact fin s q)
  obtain ⟨hp, g, d, tk, os⟩ := s
  wp_walk using wpAny_loadPart' hl1
  exact ⟨plainId_quiet plain_count_loop _, codeAny_builtin entry_count_loop (by
    rw [Around.under_plainId plain_count_loop _]
    exact hrec)⟩
theorem index_loopG (l : Addr) (x : Value) (N : Nat) (bs : Nat → Bool) (I : Nat → Shared → Prop) (hl : LoopB prog w A (fun e s' => R (.error e) s') l x N bs I) (upto : Int) (j : Nat) (hj : j < N) (hupto : (j : Int) < upto) (hit : bs j = true)
    (fin : ∀ s, I (j + 1) s → R (.ok (.ret (.int j s.toks))) { s with toks := s.toks + 1 }) (k : Nat) :
    ∀ i : Nat, j - i = k → i ≤ j → (∀ m, i ≤ m → m < j → bs m = false) → ∀ s, I i s →
      wpAny (model prog w) A.in1 (Builtin.«list.index.loop» ⟨[.ref l, x, rawInt i, rawInt upto], []⟩) (GQ.FinOf prog w A R) (fun e s' => R (.error e) s') s := by
  induction k with
  | zero =>
    intro i hk hij hno s h
    have hij' : i = j := by omega
    subst hij'
    obtain ⟨items, n, hl1, hs1, turn⟩ := hl _ _ h
    have hlt : i < items.size := by omega
    have ht := turn hlt
    obtain ⟨hp, g, d, tk, os⟩ := s
    wp_walk using wpAny_loadPart' hl1
    have hi : (if (i : Int) < upto then items[((i : Nat) : Int).toNat]? else none) = some items[i] := by simp [hupto, hlt]
    rw [hi]
    refine wpAny_bind (wpAny_mono ht (fun r s2 h2 => ?_) fun _ _ x => x)
    obtain ⟨hr, h2⟩ := h2
    subst hr
    rw [hit]
    have hR := fin s2 h2
    obtain ⟨hp2, g2, d2, tk2, os2⟩ := s2
    wp_walk
    exact hR
  | succ k ih =>
    intro i hk hij hno s h
    obtain ⟨items, n, hl1, hs1, turn⟩ := hl _ _ h
    have hlt : i < items.size := by omega
    have hst : (i : Int) < upto := by omega
    have ht := turn hlt
    obtain ⟨hp, g, d, tk, os⟩ := s
    wp_walk using wpAny_loadPart' hl1
    have hi : (if (i : Int) < upto then items[((i : Nat) : Int).toNat]? else none) = some items[i] := by simp [hst, hlt]
    have hc : ((i : Int) + 1) = ((i + 1 : Nat) : Int) := by omega
    rw [hi]
    refine wpAny_bind (wpAny_mono ht (fun r s2 h2 => ?_) fun _ _ x => x)
    obtain ⟨hr, h2⟩ := h2
    subst hr
    rw [hno i (Nat.le_refl _) (by omega)]
    have hrec := ih (i + 1) (by omega) (by omega) (fun m h1 h2 => hno m (by omega) h2) s2 h2
    obtain ⟨hp2, g2, d2, tk2, os2⟩ := s2
    wp_walk
    rw [hc]
    exact ⟨plainId_quiet plain_index_loop _, codeAny_builtin entry_index_loop (by
      rw [Around.under_plainId plain_index_loop _]
      exact hrec)⟩
theorem list_indexG (l : Addr) (x : Value) (N : Nat) (bs : Nat → Bool) (I : Nat → Shared → Prop) (hl : LoopB prog w A (fun e s' => R (.error e) s') l x N bs I) (j : Nat) (hj : j < N) (hsmall : (j : Int) < 2 ^ 63 - 1) (hit : bs j = true) (hno : ∀ m, m < j → bs m = false)
    (fin : ∀ s, I (j + 1) s → R (.ok (.ret (.int j s.toks))) { s with toks := s.toks + 1 }) {s : Shared} (h : I 0 s) :
    wpAny (model prog w) A.in1 (Builtin.«list.index» ⟨[.ref l, x], []⟩) (GQ.FinOf prog w A R) (fun e s' => R (.error e) s') s := by
  obtain ⟨items, n, hl1, hs1, _⟩ := hl _ _ h
  have hrec := index_loopG (A := A) (R := R) l x N bs I hl (2 ^ 63 - 1) j hj hsmall hit fin j 0 (by omega) (Nat.zero_le _) (fun m _ h2 => hno m h2) s h
  obtain ⟨hp, g, d, tk, os⟩ := s
  wp_walk using wpAny_loadPart' hl1
  have a1 : ((fun i : Int => if i < 0 then max 0 (i + (items.size : Int)) else i) ((none : Option Int).getD 0)) = ((0 : Nat) : Int) := by simp
  have a2 : ((fun i : Int => if i < 0 then max 0 (i + (items.size : Int)) else i) ((none : Option Int).getD (2 ^ 63 - 1))) = 2 ^ 63 - 1 := by simp
  rw [a1, a2]
  exact ⟨plainId_quiet plain_index_loop _, codeAny_builtin entry_index_loop (by
    rw [Around.under_plainId plain_index_loop _]
    exact hrec)⟩
theorem contains_loopG (l : Addr) (x : Value) (N : Nat) (bs : Nat → Bool) (I : Nat → Shared → Prop) (hl : LoopB prog w A (fun e s' => R (.error e) s') l x N bs I) (j : Nat) (hj : j < N) (hit : bs j = true)
    (fin : ∀ s, I (j + 1) s → R (.ok (.ret (.bool true))) s) (k : Nat) :
    ∀ i : Nat, j - i = k → i ≤ j → (∀ m, i ≤ m → m < j → bs m = false) → ∀ s, I i s →
      wpAny (model prog w) A.in1 (Builtin.«list.__contains__.loop» ⟨[.ref l, x, rawInt i], []⟩) (GQ.FinOf prog w A R) (fun e s' => R (.error e) s') s := by
  induction k with
  | zero =>
    intro i hk hij hno s h
    have hij' : i = j := by omega
    subst hij'
    obtain ⟨items, n, hl1, hs1, turn⟩ := hl _ _ h
    have hlt : i < items.size := by omega
    have ht := turn hlt
    obtain ⟨hp, g, d, tk, os⟩ := s
    wp_walk using wpAny_loadPart' hl1
    have hi : items[((i : Nat) : Int).toNat]? = some items[i] := by simp [hlt]
    rw [hi]
    refine wpAny_bind (wpAny_mono ht (fun r s2 h2 => ?_) fun _ _ x => x)
    obtain ⟨hr, h2⟩ := h2
    subst hr
    rw [hit]
    have hR := fin s2 h2
    obtain ⟨hp2, g2, d2, tk2, os2⟩ := s2
    wp_walk
    exact hR
  | succ k ih =>
    intro i hk hij hno s h
    obtain ⟨items, n, hl1, hs1, turn⟩ := hl _ _ h
    have hlt : i < items.size := by omega
    have ht := turn hlt
    obtain ⟨hp, g, d, tk, os⟩ := s
    wp_walk using wpAny_loadPart' hl1
    have hi : items[((i : Nat) : Int).toNat]? = some items[i] := by simp [hlt]
    have hc : ((i : Int) + 1) = ((i + 1 : Nat) : Int) := by omega
    rw [hi]
    refine wpAny_bind (wpAny_mono ht (fun r s2 h2 => ?_) fun _ _ x => x)
    obtain ⟨hr, h2⟩ := h2
    subst hr
    rw [hno i (Nat.le_refl _) (by omega)]
    have hrec := ih (i + 1) (by omega) (by omega) (fun m h1 h2 => hno m (by omega) h2) s2 h2
    obtain ⟨hp2, g2, d2, tk2, os2⟩ := s2
    wp_walk
    rw [hc]
    exact ⟨plainId_quiet plain_contains_loop _, codeAny_builtin entry_contains_loop (by
      rw [Around.under_plainId plain_contains_loop _]
      exact hrec)⟩
theorem list_containsG (l : Addr) (x : Value) (N : Nat) (bs : Nat → Bool) (I : Nat → Shared → Prop) (hl : LoopB prog w A (fun e s' => R (.error e) s') l x N bs I) (j : Nat) (hj : j < N) (hit : bs j = true) (hno : ∀ m, m < j → bs m = false)
    (fin : ∀ s, I (j + 1) s → R (.ok (.ret (.bool true))) s) {s : Shared} (h : I 0 s) :
    wpAny (model prog w) A.in1 (Builtin.«list.__contains__» ⟨[.ref l, x], []⟩) (GQ.FinOf prog w A R) (fun e s' => R (.error e) s') s := by
  obtain ⟨items, n, hl1, hs1, _⟩ := hl _ _ h
  have hrec := contains_loopG (A := A) (R := R) l x N bs I hl j hj hit fin j 0 (by omega) (Nat.zero_le _) (fun m _ h2 => hno m h2) s h
  obtain ⟨hp, g, d, tk, os⟩ := s
  wp_walk using wpAny_loadPart' hl1
  exact ⟨plainId_quiet plain_contains_loop _, codeAny_builtin entry_contains_loop (by
    rw [Around.under_plainId plain_contains_loop _]
    exact hrec)⟩
end
section
open SeqAt
variable {X : Cx} {CX : CXT} {C g : Addr} {n : Nat} {fd : FuncData} {ps : List Str} {sp : Sp} {E : XK}
/-- what an own == tells: (x, y) are known, the answer is b, only new objects come -/
def EqB (X : Cx) (n : Nat) (D : V → V → Hp → Bool → Prop) : Prop :=
  ∀ (A : Around) (pins : List (Addr × Obj)) (s : Shared) (σ : L2.St) (H : Hp) (x y : V) (u v : Value) (b : Bool), L2.Sub X n A → L2.Inv X pins σ H s → RelV x u → RelV y v → D x y H b →
    wpAny (model X.prog X.w) A (eqBool u v) (fun r s' => r = b ∧ ∃ H', L2.Inv X pins σ H' s' ∧ Same H H') X.xe s
/-- the promise of such an __eq__ -/
def spEqB (D : V → V → Hp → Bool → Prop) : Sp := fun vs H Q _ => ∃ (x y : V) (b : Bool), vs = [x, y] ∧ D x y H b ∧ ∀ H', Same H H' → Q (.bl b) H'
/-- both are objects of the class; of one and itself the answer is True -/
structure DOk (C : Addr) (D : V → V → Hp → Bool → Prop) : Prop where
  ins : ∀ x y H b, D x y H b → ∃ a dx fs a' dx' fs', x = .ref a ∧ H a = some (.ins C dx fs) ∧ y = .ref a' ∧ H a' = some (.ins C dx' fs')
  self : ∀ x H b, D x x H b → b = true
  mono : ∀ x y H H' b, Same H H' → D x y H b → D x y H' b
theorem eqB_ins {D : V → V → Hp → Bool → Prop} (O : DOk C D) (hs : PySem.W.findIn X.K (.ref C) "__eq__" = some (some (.ref g))) (hf : PySem.W.isFn X.K (.ref g) = true) (hn : PySem.W.notFirst X.K C (.ref C) = true)
    (F : FnOk X.prog X.w X.K X.mg X.base CX n g fd ps (spEqB D)) (hb : L2.Binds X.K fd ps []) (hx : Passes CX X E0) : EqB X n D := by
  intro A pins s σ H x y u v b sb I rx ry d
  obtain ⟨a, dx, fs, a', dx', fs', rfl, ha, rfl, ha'⟩ := O.ins x y H b d
  cases (show u = Value.ref a from rx)
  cases (show v = Value.ref a' from ry)
  by_cases e : a = a'
  · subst e
    have e2 := O.self _ _ _ d
    subst e2
    unfold eqBool
    refine wpAny_holding ?_
    simp only [beq_self_eq_true, if_true]
    refine wpAny_bind (wpAny_rule (wpAny_pure ?_))
    exact ⟨rfl, H, I, fun _ _ e => e⟩
  · obtain ⟨od, J⟩ := inst_of I ha
    obtain ⟨od', J'⟩ := inst_of I ha'
    obtain ⟨m, hF⟩ := I.fr
    refine GQ.eqBool_refG e (PySem.W.cmp_K (op := .Eq) (tb := .ref C) sb.room.units0 hF I.ok.mod.kin J J'.type hn hs hf ?_)
    refine wpAny_mono (run_fnA (A := A) (us := [.ref a, .ref a']) (vs := [.ref a, .ref a']) (Q := fun z H' => z = .bl b ∧ Same H H') F sb.room sb.fr hb hx I (.cons rfl (.cons rfl .nil)) ⟨_, _, b, rfl, d, fun H' k => ⟨rfl, k⟩⟩) (fun w s' z => ?_) fun _ _ x => x
    obtain ⟨z', H', I', rz, rfl, k⟩ := z
    cases (show w = Value.bool b from rz)
    exact ⟨b, rfl, rfl, H', I', k⟩
theorem loopB_of {D : V → V → Hp → Bool → Prop} (O : DOk C D) (e : EqB X n D) {A : Around} (sb : L2.Sub X (n + 1) A) {pins : List (Addr × Obj)} {σ : L2.St} {H : Hp} {l : Addr} {xs : List V} {x : V} {u : Value} {bs : Nat → Bool} (hl : H l = some (.lst xs)) (ru : RelV x u)
    (hd : ∀ i y, xs[i]? = some y → D y x H (bs i)) : LoopB X.prog X.w A X.xe l u xs.length bs (fun _ s' => ∃ H', L2.Inv X pins σ H' s' ∧ Same H H') := by
  rintro i s ⟨H', I, k⟩
  obtain ⟨_, its, m, r, hp⟩ := (show ObjOk X.prog X.w H' s.heap l (.lst xs) from I.hok l _ (k _ _ hl))
  refine ⟨its.toArray, m, hp, by simpa using r.length.symm, fun h1 => ?_⟩
  have h1' : i < its.length := by simpa using h1
  have hix : i < xs.length := by rw [r.length]; exact h1'
  obtain ⟨v, hv, rv⟩ := r.get (List.getElem?_eq_getElem hix)
  have ev : its.toArray[i] = v := by
    rw [List.getElem?_eq_getElem h1'] at hv
    simpa using hv
  rw [ev]
  refine wpAny_mono (e A.in1 pins s σ H' _ _ _ _ (bs i) sb.in1 I rv ru (O.mono _ _ _ _ _ k (hd i _ (List.getElem?_eq_getElem hix)))) (fun r s' z => ?_) fun _ _ x => x
  obtain ⟨hr, H2, I2, k2⟩ := z
  exact ⟨hr, H2, I2, k.trans k2⟩
theorem sub_here (hr : Room n X.A) : L2.Sub X n X.A := ⟨hr, rfl⟩
def rCntB (D : V → V → Hp → Bool → Prop) : V → List V → Hp → VK → Prop := fun x xs H Q => ∃ (l : Addr) (ys : List V) (y : V) (bs : Nat → Bool), x = .ref l ∧ xs = [y] ∧ H l = some (.lst ys) ∧ (∀ i z, ys[i]? = some z → D z y H (bs i)) ∧ ∀ H', Same H H' → Q (.int (cntB bs ys.length 0)) H'
theorem mt_countB {D : V → V → Hp → Bool → Prop} (O : DOk C D) (e : EqB X n D) (hr : Room (n + 1) X.A) : MtR X "list.count" (rCntB D) := by
  intro pins s σ H x xs v us Q I rx rxs h
  obtain ⟨l, ys, y, bs, rfl, rfl, hl, hd, q⟩ := h
  cases (show v = Value.ref l from rx)
  obtain ⟨u, rfl, ru⟩ := rxs.one
  obtain ⟨_, its, m, _, hp⟩ := (show ObjOk X.prog X.w H s.heap l (.lst ys) from I.hok l _ hl)
  refine GQ.call_here F.slot_list_count ⟨_, hp, rfl⟩ F.entry_list_count (F.args_list_count_2 _ _) ?_
  refine list_countG l u ys.length bs (fun _ s' => ∃ H', L2.Inv X pins σ H' s' ∧ Same H H') (loopB_of O e (sub_here hr) (pins := pins) (σ := σ) hl ru hd) ⟨H, I, fun _ _ e => e⟩ fun s' z => ?_
  obtain ⟨H', I', k⟩ := z
  exact ⟨.int _, H', I'.tok _, ⟨_, rfl⟩, q H' k⟩
def rIdxB (D : V → V → Hp → Bool → Prop) : V → List V → Hp → VK → Prop := fun x xs H Q => ∃ (l : Addr) (ys : List V) (y : V) (bs : Nat → Bool) (j : Nat), x = .ref l ∧ xs = [y] ∧ H l = some (.lst ys) ∧ (∀ i z, ys[i]? = some z → D z y H (bs i)) ∧ j < ys.length ∧ j < 1000000 ∧ bs j = true ∧ (∀ m, m < j → bs m = false) ∧ ∀ H', Same H H' → Q (.int (j : Nat)) H'
theorem mt_indexB {D : V → V → Hp → Bool → Prop} (O : DOk C D) (e : EqB X n D) (hr : Room (n + 1) X.A) : MtR X "list.index" (rIdxB D) := by
  intro pins s σ H x xs v us Q I rx rxs h
  obtain ⟨l, ys, y, bs, j, rfl, rfl, hl, hd, hj, hj2, hit, hno, q⟩ := h
  cases (show v = Value.ref l from rx)
  obtain ⟨u, rfl, ru⟩ := rxs.one
  obtain ⟨_, its, m, _, hp⟩ := (show ObjOk X.prog X.w H s.heap l (.lst ys) from I.hok l _ hl)
  refine GQ.call_here F.slot_list_index ⟨_, hp, rfl⟩ F.entry_list_index (F.args_list_index_2 _ _) ?_
  refine list_indexG l u ys.length bs (fun _ s' => ∃ H', L2.Inv X pins σ H' s' ∧ Same H H') (loopB_of O e (sub_here hr) (pins := pins) (σ := σ) hl ru hd) j hj (by omega) hit hno (fun s' z => ?_) ⟨H, I, fun _ _ e => e⟩
  obtain ⟨H', I', k⟩ := z
  exact ⟨.int _, H', I'.tok _, ⟨_, rfl⟩, q H' k⟩
def rInB (D : V → V → Hp → Bool → Prop) : R2 := fun y x H Q => ∃ (l : Addr) (ys : List V) (bs : Nat → Bool) (j : Nat), x = .ref l ∧ H l = some (.lst ys) ∧ (∀ i z, ys[i]? = some z → D z y H (bs i)) ∧ j < ys.length ∧ bs j = true ∧ (∀ m, m < j → bs m = false) ∧ ∀ H', Same H H' → Q (.bl true) H'
/-- y in xs, where it is -/
theorem op_inB {D : V → V → Hp → Bool → Prop} (O : DOk C D) (e : EqB X n D) (hr : Room (n + 1) X.A) : OpR X (compareOp .In) (rInB D) := by
  intro pins s σ H y x u v Q I ru rx h
  obtain ⟨l, ys, bs, j, rfl, hl, hd, hj, hit, hno, q⟩ := h
  cases (show v = Value.ref l from rx)
  obtain ⟨_, its, m, _, hp⟩ := (show ObjOk X.prog X.w H s.heap l (.lst ys) from I.hok l _ hl)
  show wpAny _ X.A (do return Value.bool (← PySem.contains (.ref l) u)) _ _ s
  have hT : s.TypeIs (.ref l) "list" := ⟨_, hp, rfl⟩
  refine wpAny_bind (wpAny_contains_slot hT F.slot_list_contains (wpAny_mono (GQ.call_here (Q := fun v s' => v = .bool true ∧ ∃ H', L2.Inv X pins σ H' s' ∧ Same H H') (E := X.xe) F.slot_list_contains hT F.entry_list_contains (F.args_list_contains_2 _ _)
    (list_containsG l u ys.length bs (fun _ s' => ∃ H', L2.Inv X pins σ H' s' ∧ Same H H') (loopB_of O e (sub_here hr) (pins := pins) (σ := σ) hl ru hd) j hj hit hno (fun s' z => ⟨rfl, z⟩) ⟨H, I, fun _ _ e => e⟩)) (fun v s' hv => ?_) fun _ _ e => e))
  obtain ⟨rfl, H', I', k⟩ := hv
  exact wpAny_truthy_bool (wpAny_pure ⟨.bl true, H', I', rfl, q H' k⟩)
end
/-! ### objects of an own class: len and truth by an own __len__; the length of a range -/
section
variable {prog : Program} {w : World} {A : Around} {E : Value → Shared → Prop} {s : Shared} {K : PySem.W.Frag} {x C f : Addr} {ox : Obj} {od : Option Obj}
theorem len_bodyK {Q : Value → Shared → Prop} (X : K.In s.heap) (I : PySem.W.InstAt s.heap x ox C od) (hs : PySem.W.findIn K (.ref C) "__len__" = some (some (.ref f))) (hf : PySem.W.isFn K (.ref f) = true)
    (h : wpAny (model prog w) A (call (.ref f) [.ref x]) (PySem.W.LenBack Q) E s) : wpAny (model prog w) A (Builtin.«len» ⟨[.ref x], []⟩) (fun fin s' => ∃ v, fin = .done (.ret v) ∧ Q v s') E s := by
  unfold Builtin.«len»
  refine wpAny_bind (m := oneArg "len" _) (wpAny_pure ?_)
  refine wpAny_bind (m := callSpecial? (.ref x) (Str.ofString "__len__")) (PySem.W.special_fn X I hs (beq_iff_eq.mp hf) (wpAny_mono h ?_ fun _ _ y => y))
  intro r s' hr
  match r, hr with
  | .int n u, ⟨⟨h0, h1⟩, hq⟩ =>
    refine wpAny_bind (wpAny_holding (wpAny_pure ?_))
    refine wpAny_bind (wpAny_letGo ?_)
    show wpAny _ _ (if n < 0 then _ else _) _ _ _
    rw [if_neg (by omega)]
    show wpAny _ _ (if n ≥ 2 ^ 63 then _ else _) _ _ _
    rw [if_neg (by omega)]
    exact wpAny_bind (wpAny_mkInt (wpAny_pure ⟨_, rfl, hq⟩))
theorem truthy_len {Q : Bool → Shared → Prop} (X : K.In s.heap) (I : PySem.W.InstAt s.heap x ox C od) (hb : PySem.W.findIn K (.ref C) "__bool__" = some none) (hs : PySem.W.findIn K (.ref C) "__len__" = some (some (.ref f))) (hf : PySem.W.isFn K (.ref f) = true)
    (h : wpAny (model prog w) A.in1 (call (.ref f) [.ref x]) (PySem.W.LenBack fun v s' => ∃ n t, v = .int n t ∧ Q (n != 0) s') E s) : wpAny (model prog w) A (truthy (.ref x)) Q E s := by
  unfold truthy
  refine wpAny_bind (m := callSpecial? (.ref x) (Str.ofString "__bool__")) (wpAny_bind (wpAny_bind (I.type.here ((PySem.W.looks_findIn X hb).here (wpAny_pure ?_)))))
  refine wpAny_bind (wpAny_bind (I.type.here ((PySem.W.looks_findIn X hs).here ?_)))
  show wpAny _ _ (runValue (.builtin "len" ⟨[.ref x], []⟩) >>= _) _ _ _
  refine wpAny_bind (wpAny_runValue (codeAny_builtin PySem.entry_len ?_))
  rw [Around.under_plainId PySem.plain_len _]
  refine wpAny_mono (len_bodyK X I hs hf h) ?_ (fun _ _ y => y)
  rintro fin s' ⟨v, rfl, n, t, rfl, q⟩
  exact wpAny_pure q
theorem bool_own {Q : Value → Shared → Prop} (h : wpAny (model prog w) A.in1.in1 (truthy (.ref x)) (fun b s' => Q (.bool b) s') E s) : wpAny (model prog w) A (call (.type "bool") [.ref x]) Q E s := by
  have g : MeetsIn prog w (Builtin.«bool.__new__» ⟨[.type "bool", .ref x], []⟩) (fun A R s => wpAny (model prog w) A.in1 (truthy (.ref x)) (fun b s' => R (.ok (.ret (.bool b))) s') (fun e s' => R (.error e) s') s) := by
    intro A R s hs
    obtain ⟨hp, g, d, tk, os⟩ := s
    have f1 := F.conv_sub_bool
    have hs2 : wpAny (model prog w) A.in1 (truthy (.ref x)) (fun b s' => wpAny (model prog w) A.in1 (ret (.bool b) : Sem Fin) (fun fin s' => match fin with | .done f => R (.ok f) s' | .again c' => c'.quiet = true ∧ codeAny (model prog w) A c' R s') (fun e s' => R (.error e) s') s') (fun e s' => R (.error e) s') ⟨hp, g, d, tk, os⟩ :=
      wpAny_mono hs (fun b s' z => wpAny_pure z) fun _ _ z => z
    repeat (any_goals (first | assumption | exact hs2 | wp_step))
  exact callType_newIn F.called_bool F.newNe_bool (F.typeCall_bool_1 _) (F.newCall_bool_1 _) (fun obj => F.args_object_init_2 obj _) F.entry_bool_new g (wpAny_mono h (fun b s' z => ⟨rfl, z⟩) fun _ _ z => z)
end
section
variable {X : Cx} {CX : CXT} {C g : Addr} {n : Nat} {fd : FuncData} {ps : List Str} {sp : Sp} {E : XK}
def QLen (Q : VK) : VK := fun z H' => ∃ m : Int, z = .int m ∧ 0 ≤ m ∧ m < 2 ^ 62 ∧ Q (.int m) H'
def QTru (Q : VK) : VK := fun z H' => ∃ m : Int, z = .int m ∧ 0 ≤ m ∧ m < 2 ^ 62 ∧ Q (.bl (m != 0)) H'
/-- len(o), by o's own __len__ -/
theorem call_lenOwn (hs : PySem.W.findIn X.K (.ref C) "__len__" = some (some (.ref g))) (hf : PySem.W.isFn X.K (.ref g) = true) (F : FnOk X.prog X.w X.K X.mg X.base CX n g fd ps sp) (hb : L2.Binds X.K fd ps [])
    (hr : Room (n + 1) X.A) (hx : Passes CX X E) : CallR X (.builtin "len") (rOwn1 C sp E QLen) := by
  intro pins s σ H vs us Q I r h
  obtain ⟨a, dx, fs, rfl, ha, q⟩ := h
  obtain ⟨u, rfl, ru⟩ := Vals.one r
  cases (show u = Value.ref a from ru)
  obtain ⟨od, J⟩ := inst_of I ha
  obtain ⟨m, hF⟩ := I.fr
  refine PySem.W.len_K hF I.ok.mod.kin J hs hf ?_
  refine wpAny_mono (run_fnA (A := X.A.in1) (us := [.ref a]) (vs := [.ref a]) F hr.in1 rfl hb hx I (.cons rfl .nil) q) ?_ (fun _ _ x => x)
  rintro v s' ⟨z, H', I', rz, m, rfl, m0, m1, q'⟩
  obtain ⟨t, rfl⟩ := (show ∃ t, v = Value.int m t from rz)
  exact ⟨⟨m0, Int.lt_trans m1 (by decide)⟩, .int m, H', I'.tok _, ⟨_, rfl⟩, q'⟩
theorem truthyOwn (hbl : PySem.W.findIn X.K (.ref C) "__bool__" = some none) (hs : PySem.W.findIn X.K (.ref C) "__len__" = some (some (.ref g))) (hf : PySem.W.isFn X.K (.ref g) = true) (F : FnOk X.prog X.w X.K X.mg X.base CX n g fd ps sp) (hb : L2.Binds X.K fd ps [])
    {A : Around} (hr : Room (n + 1) A) (hA : A.frames = X.A.frames) (hx : Passes CX X E) {pins : List (Addr × Obj)} {σ : L2.St} {H : Hp} {s : Shared} {a dx : Addr} {fs : List (Str × V)} {Q : VK} (I : L2.Inv X pins σ H s) (ha : H a = some (.ins C dx fs))
    (q : sp [.ref a] H (QTru Q) E) : wpAny (model X.prog X.w) A (truthy (.ref a)) (fun b s' => ∃ H', L2.Inv X pins σ H' s' ∧ Q (.bl b) H') X.xe s := by
  obtain ⟨od, J⟩ := inst_of I ha
  refine truthy_len I.kIn J hbl hs hf ?_
  refine wpAny_mono (run_fnA (A := A.in1) (us := [.ref a]) (vs := [.ref a]) F hr.in1 hA hb hx I (.cons rfl .nil) q) ?_ (fun _ _ x => x)
  rintro v s' ⟨z, H', I', rz, m, rfl, m0, m1, q'⟩
  obtain ⟨t, rfl⟩ := (show ∃ t, v = Value.int m t from rz)
  exact ⟨⟨m0, Int.lt_trans m1 (by decide)⟩, m, _, rfl, H', I'.tok _, q'⟩
/-- bool(o), by o's own __len__ -/
theorem call_boolOwn (hbl : PySem.W.findIn X.K (.ref C) "__bool__" = some none) (hs : PySem.W.findIn X.K (.ref C) "__len__" = some (some (.ref g))) (hf : PySem.W.isFn X.K (.ref g) = true) (F : FnOk X.prog X.w X.K X.mg X.base CX n g fd ps sp) (hb : L2.Binds X.K fd ps [])
    (hr : Room (n + 3) X.A) (hx : Passes CX X E) : CallR X (.type "bool") (rOwn1 C sp E QTru) := by
  intro pins s σ H vs us Q I r h
  obtain ⟨a, dx, fs, rfl, ha, q⟩ := h
  obtain ⟨u, rfl, ru⟩ := Vals.one r
  cases (show u = Value.ref a from ru)
  refine bool_own (wpAny_mono (truthyOwn hbl hs hf F hb (A := X.A.in1.in1) hr.in1.in1 rfl hx I ha q) ?_ fun _ _ x => x)
  rintro b s' ⟨H', I', q'⟩
  exact ⟨.bl b, H', I', rfl, q'⟩
/-- len(range(..)) -/
def tLenRg (te : L2.St → Hp → (Int → Int → Hp → Prop) → Prop) : TE := fun σ H Q => te σ H fun a b H1 => (b - a).toNat < 2 ^ 62 ∧ Q (.int ((b - a).toNat : Nat)) H1
theorem pe_lenRg {e : Expr} {te : L2.St → Hp → (Int → Int → Hp → Prop) → Prop} {p pos : Pos} (hg : Gl X "len") (hm : X.mg "len" = none) (he : PRg X e te) (na : starEach [e] X.env = (false, eval e X.env) :: starEach [] X.env := by rfl) : PE X (.Call (.Name "len" p) [e] [] pos) (tLenRg te) := by
  constructor
  intro pins s σ H Q I h
  refine wpAny_Call_Name_kw (ld_blt I hg hm PySem.boot_len ?_ (by decide) (by decide))
  refine PyProof.Rows.callWith_builtin1 (PyProof.Rows.args_cons (thn (he pins s σ H _ I h) ?_) na) na rfl
  rintro x s1 ⟨r, a, b, t, u, v, H1, rfl, hr, I1, hz, q⟩
  refine PyProof.Rows.args_nil (call_len_range (n := (b - a).toNat) hr ?_ ?_ ⟨.int ((b - a).toNat : Nat), H1, I1.tok _, ⟨_, rfl⟩, q⟩)
  · unfold Builtin.Range.rangeSize
    rw [if_pos (by decide)]
    split
    · rw [Int.ediv_one]
      omega
    · omega
  · omega
end
/-! ### walks by enumerate; counts of texts; calls that may raise, where nothing is raised -/
theorem for_enum {K : PySem.W.Frag} {a : Addr} {xs : List V} {g : TG} {tb : TS} {D : L2.Ends} {σ : L2.St} {H : Hp} (Pv : Nat → L2.St → Hp → Prop) (h0 : Pv 0 σ H) (hl : ∀ i σ H, i ≤ xs.length → Pv i σ H → SqL K H a xs)
    (hs : ∀ i x T σ H, xs[i]? = some x → Pv i σ H → H T = none → g (.ref T) σ (upd H T (.tup [.int (i : Nat), x])) fun σ2 H2 => tb { D with nx := Pv (i + 1), ct := Pv (i + 1), bk := D.nx } σ2 H2) (hd : ∀ σ H, Pv xs.length σ H → D.nx σ H) :
    ∃ W : Nat → Nat → L2.St → Hp → Prop, (∃ m, W 0 m σ H) ∧ ∀ i m σ H, W i m σ H →
      ((Ite K a).stop i H ∧ D.nx σ H) ∨ ((Ite K a).go i H ∧ ∃ N : L2.St → Hp → Prop, (∀ σ' H', N σ' H' → ∃ m', m' < m ∧ W (i + 1) m' σ' H') ∧ ∀ x H', (Ite K a).yld i H x H' → g x σ H' fun σ2 H2 => tb { D with nx := N, ct := N, bk := D.nx } σ2 H2) := by
  refine ⟨fun i m σ H => m = xs.length - i ∧ i ≤ xs.length ∧ Pv i σ H, ⟨xs.length, by simp, Nat.zero_le _, h0⟩, ?_⟩
  rintro i m σ H ⟨rfl, hi, p⟩
  have q := hl i σ H hi p
  by_cases hlt : i < xs.length
  · refine .inr ⟨⟨xs, xs[i], q, by simp [hlt]⟩, Pv (i + 1), fun σ' H' p' => ⟨xs.length - (i + 1), by omega, rfl, hlt, p'⟩, ?_⟩
    rintro x H' ⟨T, y, rfl, hT, rfl, hy⟩
    exact hs i y T σ H (hy xs q) p hT
  · have e : i = xs.length := by omega
    subst e
    exact .inl ⟨⟨xs, q, Nat.le_refl _⟩, hd σ H p⟩
abbrev rLenQ (K : PySem.W.Frag) : List V → Hp → VK → Prop := fun xs H Q => ∃ p ys, xs = [V.ref p] ∧ (SqL K H p ys ∨ SqT K H p ys) ∧ Q (.int ((ys.length : Nat) : Int)) H
section
variable {X : Cx}
theorem eqBool_tx {prog : Program} {w : World} {A : Around} {E : Value → Shared → Prop} {s : Shared} {i j : Str} {t u : Tok} {Q : Bool → Shared → Prop} (h : Q (decide (i = j)) s) : wpAny (model prog w) A (eqBool (.str i t) (.str j u)) Q E s := wpAny_eqBool_str h
/-- xs.count(t) of texts -/
def rCntTx : V → List V → Hp → VK → Prop := fun x xs H Q => ∃ (l : Addr) (rs : List Str) (b : Str), x = .ref l ∧ xs = [.str b] ∧ H l = some (.lst (rs.map V.str)) ∧ Q (.int (cntB (fun i => decide (rs.getD i "" = b)) rs.length 0)) H
theorem mt_countTx : MtR X "list.count" rCntTx := by
  intro pins s σ H x xs v us Q I rx rxs h
  obtain ⟨l, rs, b, rfl, rfl, hl, q⟩ := h
  cases (show v = Value.ref l from rx)
  obtain ⟨u, rfl, ru⟩ := rxs.one
  obtain ⟨tb, rfl⟩ := (show ∃ t, u = Value.str b t from ru)
  obtain ⟨_, its, m, _, hp⟩ := (show ObjOk X.prog X.w H s.heap l (.lst (rs.map V.str)) from I.hok l _ hl)
  refine GQ.call_here F.slot_list_count ⟨_, hp, rfl⟩ F.entry_list_count (F.args_list_count_2 _ _) ?_
  refine list_countG l (.str b tb) rs.length (fun i => decide (rs.getD i "" = b)) (fun _ s' => L2.Inv X pins σ H s') ?_ I (fun s' I' => ⟨.int _, H, I'.tok _, ⟨_, rfl⟩, q⟩)
  intro i s' I'
  obtain ⟨_, its, m, r, hp⟩ := (show ObjOk X.prog X.w H s'.heap l (.lst (rs.map V.str)) from I'.hok l _ hl)
  have hlen : its.length = rs.length := by rw [← r.length, List.length_map]
  refine ⟨its.toArray, m, hp, by simpa using hlen, fun h1 => ?_⟩
  have h1' : i < its.length := by simpa using h1
  have hix : i < rs.length := by omega
  obtain ⟨v, hv, rv⟩ := r.get (show (rs.map V.str)[i]? = some (.str rs[i]) by rw [List.getElem?_map, List.getElem?_eq_getElem hix]; rfl)
  have ev : its.toArray[i] = v := by
    rw [List.getElem?_eq_getElem h1'] at hv
    simpa using hv
  obtain ⟨tv, e2⟩ := (show ∃ t, v = Value.str rs[i] t from rv)
  rw [ev, e2]
  refine eqBool_tx ⟨?_, I'⟩
  show decide (rs[i] = b) = decide (rs.getD i "" = b)
  rw [List.getD_eq_getElem?_getD, List.getElem?_eq_getElem hix]
  rfl
theorem passF {P : Program} {w : World} (hP : X.prog = P) (hw : X.w = w) : Passes (L2.CX P w) X E0 := fun pins σ H s e s' I h => passNo (σ := σ) hP hw pins H s e s' I h
end
theorem cntB_count {rs : List Str} {b : Str} : ∀ (k i : Nat), i + k ≤ rs.length → cntB (fun i => decide (rs.getD i "" = b)) k i = ((((rs.drop i).take k).count b : Nat) : Int)
  | 0, i, _ => by simp [cntB]
  | k + 1, i, h => by
    have hi : i < rs.length := by omega
    have ih := cntB_count (rs := rs) (b := b) k (i + 1) (by omega)
    rw [List.drop_eq_getElem_cons hi, List.take_succ_cons, List.count_cons]
    show (if decide (rs.getD i "" = b) = true then (1 : Int) else 0) + cntB _ k (i + 1) = _
    rw [ih]
    have e : rs.getD i "" = rs[i] := by rw [List.getD_eq_getElem?_getD, List.getElem?_eq_getElem hi]; rfl
    rw [e]
    by_cases c : rs[i] = b
    · simp [c]; omega
    · simp [c]
theorem cnt_all {rs : List Str} {b : Str} : cntB (fun i => decide (rs.getD i "" = b)) rs.length 0 = ((rs.count b : Nat) : Int) := by
  have := cntB_count (rs := rs) (b := b) rs.length 0 (by omega)
  rw [this, List.drop_zero, List.take_length]
theorem nodup_count {rs : List Str} : (∀ z ∈ rs, ((rs.count z : Nat) : Int) = 1) ↔ rs.Nodup := by
  rw [List.nodup_iff_count]
  constructor
  · intro h z
    by_cases c : z ∈ rs
    · have := h z c; omega
    · rw [List.count_eq_zero_of_not_mem c]; omega
  · intro h z hz
    have h1 := h z
    have h2 := List.count_pos_iff.mpr hz
    omega
abbrev sBInit : Stmt := inClass (topS 16) 0
abbrev NBInit : List Str := ["self", "name", "bears"]
theorem scBInit : FnScope NBInit ["self", "name", "bears"] (defScope sBInit) := ⟨rfl, rfl, rfl, by decide +kernel, rfl, by decide +kernel, by decide +kernel⟩
abbrev sIsW : Stmt := topS 8
abbrev NIsW : List Str := ["thing", "least", "most"]
theorem scIsW : FnScope NIsW ["thing", "least", "most"] (defScope sIsW) := ⟨rfl, rfl, rfl, by decide +kernel, rfl, by decide +kernel, by decide +kernel⟩
abbrev sAreB : Stmt := topS 21
abbrev NAreB : List Str := ["thing", "names", "boat", "name"]
theorem scAreB : FnScope NAreB ["thing"] (defScope sAreB) := ⟨rfl, rfl, rfl, by decide +kernel, rfl, by decide +kernel, by decide +kernel⟩
abbrev sAreS : Stmt := topS 22
abbrev NAreS : List Str := ["thing", "span"]
theorem scAreS : FnScope NAreS ["thing"] (defScope sAreS) := ⟨rfl, rfl, rfl, by decide +kernel, rfl, by decide +kernel, by decide +kernel⟩
abbrev sBrInit : Stmt := inClass (topS 20) 0
abbrev NBrInit : List Str := ["self", "boats", "spans"]
theorem scBrInit : FnScope NBrInit ["self", "boats", "spans"] (defScope sBrInit) := ⟨rfl, rfl, rfl, by decide +kernel, rfl, by decide +kernel, by decide +kernel⟩
abbrev sBrBoats : Stmt := inClass (topS 20) 4
abbrev NBrBoats : List Str := ["self"]
theorem scBrBoats : FnScope NBrBoats ["self"] (defScope sBrBoats) := ⟨rfl, rfl, rfl, by decide +kernel, rfl, by decide +kernel, by decide +kernel⟩
abbrev sBrSpans : Stmt := inClass (topS 20) 5
abbrev NBrSpans : List Str := ["self"]
theorem scBrSpans : FnScope NBrSpans ["self"] (defScope sBrSpans) := ⟨rfl, rfl, rfl, by decide +kernel, rfl, by decide +kernel, by decide +kernel⟩
abbrev sBrLen : Stmt := inClass (topS 20) 2
abbrev NBrLen : List Str := ["self"]
theorem scBrLen : FnScope NBrLen ["self"] (defScope sBrLen) := ⟨rfl, rfl, rfl, by decide +kernel, rfl, by decide +kernel, by decide +kernel⟩
/-! ### Boats -/
theorem nb : ¬ (("name" : Str) = "bears") := by decide +kernel
def boatF (n : Str) (b : Int) : List (Str × V) := putF "bears" (.int b) (putF "name" (.str n) [])
theorem boatF_name (n : Str) (b : Int) : (boatF n b).lookup ("name" : Str) = some (.str n) := by
  unfold boatF
  rw [lookup_putF, if_neg nb, lookup_putF, if_pos rfl]
theorem boatF_bears (n : Str) (b : Int) : (boatF n b).lookup ("bears" : Str) = some (.int b) := by
  unfold boatF
  rw [lookup_putF, if_pos rfl]
def BoatAt (C : Addr) (H : Hp) (p : Addr) (n : Str) (b : Int) : Prop := ∃ dx, H p = some (.ins C dx (boatF n b))
structure BCl (K : PySem.W.Frag) (mg : Str → Option Value) (C : Addr) : Prop where
  cl : Cls K C
  nN : NoAttr K C "name"
  nB : NoAttr K C "bears"
  gC : mg "Boat" = some (.ref C)
  ha : PySem.W.findIn K (.ref C) "__class__" = some (some (.builtin "object.__class__"))
  hn : PySem.W.specialIn K (.builtin "object.__class__") "__get__" = some (some (.builtin "getset_descriptor.__get__"))
  htk : PySem.W.takesIn K (.builtin "object.__class__") = some true
  hm : PySem.W.mroIn K C (.type "object") = some true
theorem isBoat {K : PySem.W.Frag} {mg : Str → Option Value} {C : Addr} (T : BCl K mg C) {H : Hp} {p : Addr} {n : Str} {b : Int} (h : BoatAt C H p n b) : TyX K H (.ref p) (.ref C) := by
  obtain ⟨dx, e⟩ := h
  exact .base (.ins e T.cl T.ha T.hn T.htk T.hm)
theorem kitC {K : PySem.W.Frag} {C : Addr} : PySem.W.kitOne K (.ref C) (.ref C) = some true := if_pos (beq_self_eq_true _)
theorem made_same {H H' : Hp} {x dx : Addr} {o1 o2 : HO} (hx : H x = none) (hdx : H dx = none) (k : ∀ y o, y ≠ x → (upd (upd H dx o1) x o2) y = some o → H' y = some o) : Same H H' := fun y o e =>
  k y o (ne_of_none e hx) (by rw [upd_ne (ne_of_none e hx), upd_ne (ne_of_none e hdx)]; exact e)
/-- a list of Boats, by names and bearings -/
inductive Boats (C : Addr) (H : Hp) : List V → List (Str × Int) → Prop
  | nil : Boats C H [] []
  | cons {a : Addr} {r : Str × Int} {xs : List V} {rs : List (Str × Int)} : BoatAt C H a r.1 r.2 → Boats C H xs rs → Boats C H (.ref a :: xs) (r :: rs)
theorem Boats.len {C : Addr} {H : Hp} {xs : List V} {rs : List (Str × Int)} (h : Boats C H xs rs) : xs.length = rs.length := by
  induction h with
  | nil => rfl
  | cons _ _ ih => rw [List.length_cons, List.length_cons, ih]
theorem Boats.at {C : Addr} {H : Hp} {xs : List V} {rs : List (Str × Int)} (h : Boats C H xs rs) : ∀ {i : Nat} {y : V}, xs[i]? = some y → ∃ a r, y = .ref a ∧ rs[i]? = some r ∧ BoatAt C H a r.1 r.2 := by
  induction h with
  | nil => intro i y e; cases e
  | cons e _ ih =>
    intro i y z
    cases i with
    | zero => cases z; exact ⟨_, _, rfl, rfl, e⟩
    | succ i => exact ih z
theorem Boats.mono {C : Addr} {H H' : Hp} {xs : List V} {rs : List (Str × Int)} (h : Boats C H xs rs) (s : ∀ a dx n b, H a = some (.ins C dx (boatF n b)) → H' a = some (.ins C dx (boatF n b))) : Boats C H' xs rs := by
  induction h with
  | nil => exact .nil
  | cons e _ ih =>
    obtain ⟨dx, e⟩ := e
    exact .cons ⟨dx, s _ _ _ _ e⟩ ih
theorem Boats.same {C : Addr} {H H' : Hp} {xs : List V} {rs : List (Str × Int)} (h : Boats C H xs rs) (s : Same H H') : Boats C H' xs rs := h.mono fun a dx n b e => s _ _ e
theorem Boats.app {C : Addr} {H : Hp} {xs ys : List V} {rs ss : List (Str × Int)} (h : Boats C H xs rs) (h2 : Boats C H ys ss) : Boats C H (xs ++ ys) (rs ++ ss) := by
  induction h with
  | nil => exact h2
  | cons e _ ih => exact .cons e ih
/-! ### Bridges -/
def brF (bl sl : Addr) : List (Str × V) := putF "_spans" (.ref sl) (putF "_boats" (.ref bl) [])
theorem brF_boats (bl sl : Addr) : (brF bl sl).lookup ("_boats" : Str) = some (.ref bl) := by
  unfold brF; repeat (rw [lookup_putF]; first | rw [if_pos rfl] | rw [if_neg (by decide +kernel)])
theorem brF_spans (bl sl : Addr) : (brF bl sl).lookup ("_spans" : Str) = some (.ref sl) := by
  unfold brF; repeat (rw [lookup_putF]; first | rw [if_pos rfl] | rw [if_neg (by decide +kernel)])
theorem brF_no (bl sl : Addr) {x : Str} (h1 : ¬ x = "_boats") (h2 : ¬ x = "_spans") : (brF bl sl).lookup x = none := by
  unfold brF
  rw [lookup_putF, if_neg h2, lookup_putF, if_neg h1]
  rfl
theorem brF_mboats (bl sl : Addr) : (brF bl sl).lookup ("boats" : Str) = none := brF_no bl sl (by decide +kernel) (by decide +kernel)
theorem brF_mspans (bl sl : Addr) : (brF bl sl).lookup ("spans" : Str) = none := brF_no bl sl (by decide +kernel) (by decide +kernel)
/-- a Bridge of these boats and spans stands at p -/
structure BrAt (C CB : Addr) (H : Hp) (p bl sl : Addr) (rows : List (Str × Int)) (spans : List Int) : Prop where
  ex : ∃ dx bs, H p = some (.ins CB dx (brF bl sl)) ∧ H bl = some (.lst bs) ∧ Boats C H bs rows
  sp : H sl = some (.lst (spans.map V.int))
theorem BrAt.same {C CB : Addr} {H H' : Hp} {p bl sl : Addr} {rows : List (Str × Int)} {spans : List Int} (h : BrAt C CB H p bl sl rows spans) (s : Same H H') : BrAt C CB H' p bl sl rows spans := by
  obtain ⟨dx, bs, e1, e2, e3⟩ := h.ex
  exact ⟨⟨dx, bs, s _ _ e1, s _ _ e2, e3.same s⟩, s _ _ h.sp⟩
theorem BrAt.keep {C CB T : Addr} {H H' : Hp} {p bl sl : Addr} {rows : List (Str × Int)} {spans : List Int} {xs : List V} (h : BrAt C CB H p bl sl rows spans) (hT : H T = some (.lst xs)) (k : Keep T H H') (n1 : bl ≠ T) (n2 : sl ≠ T) : BrAt C CB H' p bl sl rows spans := by
  obtain ⟨dx, bs, e1, e2, e3⟩ := h.ex
  exact ⟨⟨dx, bs, k _ _ (ne_of e1 hT (by intro z; cases z)) e1, k _ _ n1 e2, e3.mono fun a dx n b e => k _ _ (ne_of e hT (by intro z; cases z)) e⟩, k _ _ n2 h.sp⟩
structure BrCl (K : PySem.W.Frag) (mg : Str → Option Value) (CB : Addr) : Prop where
  cl : Cls K CB
  nB : NoAttr K CB "_boats"
  nS : NoAttr K CB "_spans"
  gC : mg "Bridge" = some (.ref CB)
/-- boats and spans that make a Bridge -/
structure Good (rows : List (Str × Int)) (spans : List Int) : Prop where
  l0 : 1 ≤ rows.length
  l1 : rows.length ≤ 10
  nd : (rows.map Prod.fst).Nodup
  sl : spans.length = rows.length + 1
  sb : ∀ z ∈ spans, 1 ≤ z ∧ z ≤ 1000000
structure TxtB (mg : Str → Option Value) : Prop where
  misinstance : mg "isinstance" = none
  mlen : mg "len" = none
  mall : mg "all" = none
  mlist : mg "list" = none
  mint : mg "int" = none
  mbool : mg "bool" = none
  mMB : ∃ t, mg "MOST_BOATS" = some (.int 10 t)
  mMO : ∃ t, mg "MOST_BORNE" = some (.int 1000000 t)
def spBInit (C : Addr) : Sp := fun vs H Q _ => ∃ (p dx : Addr) (n : Str) (b : Int), vs = [.ref p, .str n, .int b] ∧ H p = some (.ins C dx []) ∧ ∀ H', BoatAt C H' p n b → (∀ x o, x ≠ p → H x = some o → H' x = some o) → Q .non H'
/-- a number within, a truth, or another thing -/
def spIsW (K : PySem.W.Frag) : Sp := fun vs H Q _ => ∃ (v : V) (lo hi : Int), vs = [v, .int lo, .int hi] ∧ ((∃ i, v = .int i ∧ Q (.bl (decide (lo ≤ i) && decide (i ≤ hi))) H) ∨ (∃ b, v = .bl b ∧ Q (.bl false) H) ∨ ∃ t, TyX K H v t ∧ PySem.W.kitOne K t (.type "int") = some false ∧ Q (.bl false) H)
def spAreB (C : Addr) : Sp := fun vs H Q _ => ∃ (l : Addr) (bs : List V) (rows : List (Str × Int)), vs = [.ref l] ∧ H l = some (.lst bs) ∧ Boats C H bs rows ∧ 1 ≤ rows.length ∧ rows.length ≤ 10 ∧ ∀ H', Same H H' → Q (.bl (decide (rows.map Prod.fst).Nodup)) H'
def spAreS : Sp := fun vs H Q _ => ∃ (l : Addr) (ns : List Int), vs = [.ref l] ∧ H l = some (.lst (ns.map V.int)) ∧ ns.length ≤ 1000 ∧ ∀ H', Same H H' → Q (.bl (ns.all fun z => decide (1 ≤ z) && decide (z ≤ 1000000))) H'
def spBrInit (C CB : Addr) : Sp := fun vs H Q _ => ∃ (p dx l s : Addr) (bs : List V) (rows : List (Str × Int)) (spans : List Int), vs = [.ref p, .ref l, .ref s] ∧ H p = some (.ins CB dx []) ∧ H l = some (.lst bs) ∧ Boats C H bs rows ∧ H s = some (.lst (spans.map V.int)) ∧ Good rows spans ∧
  ∀ bl sl H', H bl = none → H sl = none → BrAt C CB H' p bl sl rows spans → (∀ x o, x ≠ p → H x = some o → H' x = some o) → Q .non H'
def spBrBoats (C CB : Addr) : Sp := fun vs H Q _ => ∃ (p bl sl : Addr) (rows : List (Str × Int)) (spans : List Int), vs = [.ref p] ∧ BrAt C CB H p bl sl rows spans ∧ ∀ l bs H', Same H H' → H l = none → H' l = some (.lst bs) → Boats C H' bs rows → Q (.ref l) H'
def spBrSpans (C CB : Addr) : Sp := fun vs H Q _ => ∃ (p bl sl : Addr) (rows : List (Str × Int)) (spans : List Int), vs = [.ref p] ∧ BrAt C CB H p bl sl rows spans ∧ ∀ l H', Same H H' → H l = none → H' l = some (.lst (spans.map V.int)) → Q (.ref l) H'
def spBrLen (C CB : Addr) : Sp := fun vs H Q _ => ∃ (p bl sl : Addr) (rows : List (Str × Int)) (spans : List Int), vs = [.ref p] ∧ BrAt C CB H p bl sl rows spans ∧ Q (.int (rows.length : Nat)) H
section
variable {P : Program} {w : World} {K : PySem.W.Frag} {mg : Str → Option Value} {base : Heap} {C CB : Addr}
theorem ok_binit {f : Addr} {fd : FuncData} {k : Nat} (F : Fun K "__init__" "Boat.__init__" sBInit f fd) (T : BCl K mg C) : FnOk P w K mg base CX0 (k + 1) f fd ["self", "name", "bears"] (spBInit C) := by
  refine F.ok scBInit (fun vs H Q E h => ?_) (fun cdv A outer s H vs Q E hr h => ?_)
  · obtain ⟨p, dx, a, b, rfl, _⟩ := h
    rfl
  · obtain ⟨p, dx, n, b, rfl, hp, q⟩ := h
    refine ⟨_,
      (pss_cons (ps_fld (pv 0) (pv 1) rfl)
      (pss_one (ps_fld (pv 0) (pv 2) rfl)))
      , ?_⟩
    refine ⟨_, rfl, _, rfl, p, C, dx, _, rfl, hp, T.cl, T.nN, (by show 0 < 1000; decide), ?_⟩
    refine ⟨_, rfl, _, rfl, p, C, dx, _, rfl, upd_same, T.cl, T.nB, (by show 1 < 1000; decide), ?_⟩
    exact q _ ⟨dx, upd_same⟩ fun x o n e => by rw [upd_ne n, upd_ne n]; exact e
theorem ok_isw {f : Addr} {fd : FuncData} {k : Nat} (F : Fun K "is_whole" "is_whole" sIsW f fd) (T : TxtB mg) : FnOk P w K mg base CX0 (k + 1) f fd ["thing", "least", "most"] (spIsW K) := by
  refine F.ok scIsW (fun vs H Q E h => ?_) (fun cdv A outer s H vs Q E hr h => ?_)
  · obtain ⟨v, lo, hi, rfl, _⟩ := h
    rfl
  · obtain ⟨v, lo, hi, rfl, h⟩ := h
    refine ⟨_,
      (pss_one (ps_ret (pe_and (pe_callB call_isi (by rfl) T.misinstance (by decide +kernel) (pa_cons (pv 0) (pa_cons (pe_bltn (v := .ty "int") (u := .type "int") (by rfl) T.mint (by decide +kernel) rfl) pa_nil))) (pe_and (pe_not (pe_callB call_isi (by rfl) T.misinstance (by decide +kernel) (pa_cons (pv 0) (pa_cons (pe_bltn (v := .ty "bool") (u := .type "bool") (by rfl) T.mbool (by decide +kernel) rfl) pa_nil)))) (pe_one (pe_chain op_le op_le (pv 1) (pv 0) (pv 2)))))))
      , ?_⟩
    rcases h with ⟨i, rfl, q⟩ | ⟨b, rfl, q⟩ | ⟨t, ty, hk, q⟩
    · refine ⟨_, rfl, _, _, _, _, true, rfl, .ty "int", .base (.int _), kit_ty (by decide +kernel), _, rfl, ?_⟩
      refine ⟨_, rfl, _, _, _, _, false, rfl, .ty "bool", .base (.int _), kit_ty (by decide +kernel), _, rfl, _, rfl, ?_⟩
      refine ⟨_, rfl, _, rfl, _, _, rfl, rfl, _, rfl, ite2 (fun c => ?_) (fun c => ?_)⟩
      · refine ⟨_, rfl, _, _, rfl, rfl, ?_⟩
        rw [c, Bool.true_and] at q
        exact q
      · rw [show decide (lo ≤ i) = false from Bool.eq_false_iff.mpr c, Bool.false_and] at q
        exact q
    · refine ⟨_, rfl, _, _, _, _, true, rfl, .ty "int", .base (.bl _), kit_ty (by decide +kernel), _, rfl, ?_⟩
      exact ⟨_, rfl, _, _, _, _, true, rfl, .ty "bool", .base (.bl _), kit_ty (by decide +kernel), _, rfl, _, rfl, q⟩
    · exact ⟨_, rfl, _, _, _, _, false, rfl, .ty "int", ty, hk, _, rfl, q⟩
theorem ok_areb {f : Addr} {fd : FuncData} {k : Nat} (F : Fun K "_are_boats" "_are_boats" sAreB f fd) (T : TxtB mg) (TB : BCl K mg C) : FnOk P w K mg base CX0 (k + 1) f fd ["thing"] (spAreB C) := by
  refine F.ok scAreB (fun vs H Q E h => ?_) (fun cdv A outer s H vs Q E hr h => ?_)
  · obtain ⟨l, bs, rows, rfl, _⟩ := h
    rfl
  · obtain ⟨l, bs, rows, rfl, hl, hb, l0, l1, q⟩ := h
    obtain ⟨t1, mMOST_BOATS⟩ := T.mMB
    have gC := TB.gC
    have hbl := hb.len
    refine ⟨_,
      (pss_cons (ps_if (PW.pt (pw_or (pt_not (pt_val (pe_callB call_isi (by rfl) T.misinstance (by decide +kernel) (pa_cons (pv 0) (pa_cons (pe_bltn (v := .ty "list") (u := .type "list") (by rfl) T.mlist (by decide +kernel) rfl) pa_nil))))) (pw_or1 (pt_not (pt_chain op_le op_le pe_int (pe_callB call_len_seq (by rfl) T.mlen PySem.boot_len (pa_cons (pv 0) pa_nil)) (pe_glob (v := .int 10) (by rfl) mMOST_BOATS ⟨_, rfl⟩))))))
      (pss_one (ps_ret pe_bl))
      pss_nil)
      (pss_cons (ps_if (pt_not (pt_val (pe_callB (cr_all rfl) (by rfl) T.mall (by decide +kernel) (pa_cons (pe_lc (own := [("boat", 2)]) (g := gName 2) (tt := tYes) rfl scAreB.nd (pi_list (pv 0)) (blkOk_by (N := NAreB) (own := [("boat", 2)]) (sc := defScope sAreB) (by decide +kernel)) (fun _ _ _ _ _ => pg_name (i := 2) scAreB.nd rfl (Or.inl rfl)) (fun _ _ _ _ _ => pts_nil) (fun _ _ _ _ _ => (pe_callB (r := rIsi K) call_isi (by rfl) T.misinstance (by decide +kernel) (pa_cons (pv 2) (pa_cons (pe_glob (v := .ref C) (by rfl) gC rfl) pa_nil))))) pa_nil))))
      (pss_one (ps_ret pe_bl))
      pss_nil)
      (pss_cut (ps_set (i := 1) scAreB.nd rfl (.inr rfl) (pe_lc (own := [("boat", 2)]) (g := gName 2) (tt := tYes) rfl scAreB.nd (pi_list (pv 0)) (blkOk_by (N := NAreB) (own := [("boat", 2)]) (sc := defScope sAreB) (by decide +kernel)) (fun _ _ _ _ _ => pg_name (i := 2) scAreB.nd rfl (Or.inl rfl)) (fun _ _ _ _ _ => pts_nil) (fun _ _ _ _ _ => (show PE _ _ (tFld K (tVar 2) "name") from pe_fld (pv 2) rfl))))
      (pss_one (ps_ret (pe_callB (cr_all rfl) (by rfl) T.mall (by decide +kernel) (pa_cons (pe_lc (own := [("name", 3)]) (g := gName 3) (tt := tYes) rfl scAreB.nd (pi_list (pv 1)) (blkOk_by (N := NAreB) (own := [("name", 3)]) (sc := defScope sAreB) (by decide +kernel)) (fun _ _ _ _ _ => pg_name (i := 3) scAreB.nd rfl (Or.inl rfl)) (fun _ _ _ _ _ => pts_nil) (fun _ _ _ _ _ => (pe_cmpR op_eq (show PE _ _ (tBM K "list" rCntTx (tVar 1) (tCons (tVar 3) tNil)) from pe_bm PySem.F.plainAttrs_list PySem.F.slot_list_count PySem.F.type_list_count mt_countTx (pv 1) (pa_cons (pv 3) pa_nil)) pe_int (nomark _)))) pa_nil)))))))
      , ?_⟩
    refine ⟨_, rfl, _, _, _, _, true, rfl, .ty "list", .base (.lst hl), kit_ty (by decide +kernel), _, rfl, iteF ?_⟩
    refine ⟨_, rfl, l, _, rfl, .inl (SqL.of hl), _, _, rfl, rfl, _, rfl, ite2 (fun _ => ?_) (fun c => absurd (decide_eq_true (show (1 : Int) ≤ bs.length by omega)) c)⟩
    refine ⟨_, _, rfl, rfl, _, rfl, ite2 (fun c => absurd c (by rw [decide_eq_true (show (bs.length : Int) ≤ 10 by omega)]; intro z; cases z)) (fun _ => ?_)⟩
    -- all are Boats
    refine ⟨_, rfl, l, rfl, ⟨_, SqL.of hl⟩, fun D hD => ?_⟩
    refine lc_list (K := K) (a := l) (xs := bs) (fun i H' => H' D = some (.lst ((List.replicate i true).map V.bl)) ∧ Same H H')
      ⟨upd_same, same_upd hD⟩ (fun i H' _ ⟨_, z⟩ => SqL.of (z _ _ hl)) ?_ ?_
    · rintro i y H' hy ⟨eD, si⟩
      obtain ⟨a, r, rfl, hr2, ha⟩ := hb.at hy
      have hi : i < bs.length := (List.getElem?_eq_some_iff.mp hy).1
      obtain ⟨dx, ea⟩ := ha
      refine ⟨rfl, _, rfl, _, _, _, _, true, rfl, .own C, isBoat TB ⟨dx, si _ _ ea⟩, kitC, _, eD, ?_, ?_, fun z o e => by rw [upd_ne (ne_of_none e hD)]; exact si _ _ e⟩
      · rw [List.length_map, List.length_replicate]; exact Nat.lt_of_lt_of_le (show i < 100 by omega) (small_line (by decide))
      · rw [upd_same, List.replicate_succ', List.map_append]; rfl
    rintro H1 ⟨eD, s1⟩
    refine ⟨D, _, rfl, SqL.of eD, _, rfl, ?_⟩
    rw [show (List.replicate bs.length true).all id = true by simp]
    refine iteF ?_
    -- names
    refine ⟨fun σ H2 => ∃ (np : Addr), σ = [some (.ref l), some (.ref np), none, none] ∧ H2 np = some (.lst ((rows.map Prod.fst).map V.str)) ∧ Same H H2, ?_, ?_⟩
    · refine ⟨_, rfl, l, rfl, ⟨_, SqL.of (s1 _ _ hl)⟩, fun D2 hD2 => ?_⟩
      refine lc_list (K := K) (a := l) (xs := bs) (fun i H' => H' D2 = some (.lst (((rows.take i).map Prod.fst).map V.str)) ∧ Same H1 H')
        ⟨upd_same, same_upd hD2⟩ (fun i H' _ ⟨_, z⟩ => SqL.of (z _ _ (s1 _ _ hl))) ?_ ?_
      · rintro i y H' hy ⟨eD2, si⟩
        obtain ⟨a, r, rfl, hr2, ⟨dx, ea⟩⟩ := hb.at hy
        have hi : i < bs.length := (List.getElem?_eq_some_iff.mp hy).1
        refine ⟨rfl, _, rfl, a, C, dx, _, _, rfl, si _ _ (s1 _ _ ea), TB.cl, TB.nN, boatF_name _ _, _, eD2, ?_, ?_, fun z o e => by rw [upd_ne (ne_of_none e hD2)]; exact si _ _ e⟩
        · rw [List.length_map, List.length_map, List.length_take]; exact Nat.lt_of_lt_of_le (show _ < 100 by omega) (small_line (by decide))
        · rw [upd_same, List.take_succ, hr2]; simp
      · rintro H' ⟨eD2, si⟩
        rw [hbl, List.take_length] at eD2
        exact ⟨D2, rfl, eD2, s1.trans si⟩
    rintro σ H2 ⟨np, rfl, en, s2⟩
    have lnm : (rows.map Prod.fst).length = rows.length := List.length_map ..
    refine ⟨_, rfl, np, rfl, ⟨_, SqL.of en⟩, fun D3 hD3 => ?_⟩
    refine lc_list (K := K) (a := np) (xs := (rows.map Prod.fst).map V.str) (fun i H' => H' D3 = some (.lst ((((rows.map Prod.fst).take i).map fun z => decide ((((rows.map Prod.fst).count z : Nat) : Int) = 1)).map V.bl)) ∧ Same H2 H')
      ⟨upd_same, same_upd hD3⟩ (fun i H' _ ⟨_, z⟩ => SqL.of (z _ _ en)) ?_ ?_
    · rintro i y H' hy ⟨eD3, si⟩
      rw [List.getElem?_map] at hy
      cases hx : (rows.map Prod.fst)[i]? with
      | none => rw [hx] at hy; cases hy
      | some z =>
        rw [hx] at hy
        cases hy
        have hi : i < (rows.map Prod.fst).length := (List.getElem?_eq_some_iff.mp hx).1
        refine ⟨rfl, _, rfl, .inl ⟨rfl, _, SqL.of (si _ _ en)⟩, _, rfl, np, rows.map Prod.fst, z, rfl, rfl, si _ _ en, ?_⟩
        rw [cnt_all]
        refine ⟨rfl, _, eD3, ?_, ?_, fun z o e => by rw [upd_ne (ne_of_none e hD3)]; exact si _ _ e⟩
        · rw [List.length_map, List.length_map, List.length_take]; exact Nat.lt_of_lt_of_le (show _ < 100 by omega) (small_line (by decide))
        · have ez : decide (V.int (((rows.map Prod.fst).count z : Nat) : Int) = V.int 1) = decide ((((rows.map Prod.fst).count z : Nat) : Int) = 1) := decide_eq_decide.mpr ⟨fun e => V.int.inj e, fun e => congrArg V.int e⟩
          rw [upd_same, List.take_succ, hx, ez]; simp
    rintro H3 ⟨eD3, s3⟩
    rw [List.length_map, List.take_length] at eD3
    refine ⟨D3, _, rfl, SqL.of eD3, ?_⟩
    have e : ((rows.map Prod.fst).map fun z => decide ((((rows.map Prod.fst).count z : Nat) : Int) = 1)).all id = decide (rows.map Prod.fst).Nodup := by
      rw [Bool.eq_iff_iff, List.all_map, List.all_eq_true, decide_eq_true_eq, ← nodup_count]
      constructor
      · intro h z hz
        exact of_decide_eq_true (h z hz)
      · intro h z hz
        exact decide_eq_true (h z hz)
    rw [e]
    exact q _ (s2.trans s3)
theorem ok_ares {f fW : Addr} {fd fdW : FuncData} {k : Nat} (F : Fun K "_are_spans" "_are_spans" sAreS f fd) (T : TxtB mg) (Fis_whole : Fun K "is_whole" "is_whole" sIsW fW fdW) (gis_whole : mg "is_whole" = some (.ref fW)) (bis_whole : Binds K fdW ["thing", "least", "most"] []) :
    FnOk P w K mg base CX0 (k + 2) f fd ["thing"] spAreS := by
  have Gis_whole : FnOk P w K mg base CX0 (k + 1) fW fdW ["thing", "least", "most"] (spIsW K) := ok_isw Fis_whole T
  refine F.ok scAreS (fun vs H Q E h => ?_) (fun cdv A outer s H vs Q E hr h => ?_)
  · obtain ⟨l, ns, rfl, _⟩ := h
    rfl
  · obtain ⟨l, ns, rfl, hl, hlen, q⟩ := h
    obtain ⟨t1, mMOST_BORNE⟩ := T.mMO
    have hris_whole := hr
    refine ⟨_,
      (pss_one (ps_ret (pe_and (pe_callB call_isi (by rfl) T.misinstance (by decide +kernel) (pa_cons (pv 0) (pa_cons (pe_bltn (v := .ty "list") (u := .type "list") (by rfl) T.mlist (by decide +kernel) rfl) pa_nil))) (pe_one (pe_callB (cr_all rfl) (by rfl) T.mall (by decide +kernel) (pa_cons (pe_lc (own := [("span", 1)]) (g := gName 1) (tt := tYes) rfl scAreS.nd (pi_list (pv 0)) (blkOk_by (N := NAreS) (own := [("span", 1)]) (sc := defScope sAreS) (by decide +kernel)) (fun _ _ _ _ _ => pg_name (i := 1) scAreS.nd rfl (Or.inl rfl)) (fun _ _ _ _ _ => pts_nil) (fun _ _ _ _ _ => (pe_call Gis_whole hris_whole (by rfl) gis_whole Fis_whole.kp bis_whole .nil pass0 (pa_cons (pv 1) (pa_cons pe_int (pa_cons (pe_glob (v := .int 1000000) (by rfl) mMOST_BORNE ⟨_, rfl⟩) pa_nil)))))) pa_nil))))))
      , ?_⟩
    refine ⟨_, rfl, _, _, _, _, true, rfl, .ty "list", .base (.lst hl), kit_ty (by decide +kernel), _, rfl, ?_⟩
    refine ⟨_, rfl, l, rfl, ⟨_, SqL.of hl⟩, fun D hD => ?_⟩
    refine lc_list (K := K) (a := l) (xs := ns.map V.int) (fun i H' => H' D = some (.lst (((ns.take i).map fun z => decide (1 ≤ z) && decide (z ≤ 1000000)).map V.bl)) ∧ Same H H')
      ⟨upd_same, same_upd hD⟩ (fun i H' _ ⟨_, z⟩ => SqL.of (z _ _ hl)) ?_ ?_
    · rintro i y H' hy ⟨eD, si⟩
      rw [List.getElem?_map] at hy
      cases hx : ns[i]? with
      | none => rw [hx] at hy; cases hy
      | some z =>
        rw [hx] at hy
        cases hy
        have hi : i < ns.length := (List.getElem?_eq_some_iff.mp hx).1
        refine ⟨rfl, _, rfl, .int z, 1, 1000000, rfl, .inl ⟨z, rfl, _, eD, ?_, ?_, fun z o e => by rw [upd_ne (ne_of_none e hD)]; exact si _ _ e⟩⟩
        · rw [List.length_map, List.length_map, List.length_take]; exact Nat.lt_of_lt_of_le (show _ < 2000 by omega) (Nat.le_trans (show 2000 ≤ 100000 by decide) (by decide))
        · rw [upd_same, List.take_succ, hx]; simp
    rintro H1 ⟨eD, s1⟩
    rw [List.length_map, List.take_length] at eD
    refine ⟨D, _, rfl, SqL.of eD, ?_⟩
    rw [List.all_map]
    exact q _ s1
theorem ok_brinit {f fB fS fW : Addr} {fd fdB fdS fdW : FuncData} {k : Nat} (F : Fun K "__init__" "Bridge.__init__" sBrInit f fd) (T : TxtB mg) (TB : BCl K mg C) (TC : BrCl K mg CB)
    (F_are_boats : Fun K "_are_boats" "_are_boats" sAreB fB fdB) (g_are_boats : mg "_are_boats" = some (.ref fB)) (b_are_boats : Binds K fdB ["thing"] [])
    (F_are_spans : Fun K "_are_spans" "_are_spans" sAreS fS fdS) (g_are_spans : mg "_are_spans" = some (.ref fS)) (b_are_spans : Binds K fdS ["thing"] [])
    (Fis_whole : Fun K "is_whole" "is_whole" sIsW fW fdW) (gis_whole : mg "is_whole" = some (.ref fW)) (bis_whole : Binds K fdW ["thing", "least", "most"] []) :
    FnOk P w K mg base CX0 (k + 3) f fd ["self", "boats", "spans"] (spBrInit C CB) := by
  have G_are_boats : FnOk P w K mg base CX0 (k + 2) fB fdB ["thing"] (spAreB C) := ok_areb F_are_boats T TB
  have G_are_spans : FnOk P w K mg base CX0 (k + 2) fS fdS ["thing"] spAreS := ok_ares F_are_spans T Fis_whole gis_whole bis_whole
  refine F.ok scBrInit (fun vs H Q E h => ?_) (fun cdv A outer s H vs Q E hr h => ?_)
  · obtain ⟨p, dx, l, s, bs, rows, spans, rfl, _⟩ := h
    rfl
  · obtain ⟨p, dx, l, sp, bs, rows, spans, rfl, hp, hl, hb, hs, hg, q⟩ := h
    have hr_are_boats := hr
    have hr_are_spans := hr
    have hbl := hb.len
    refine ⟨_, PSs.nox (
      (pss_cons (ps_if (PW.pt (pw_or (pt_not (pt_val (pe_call G_are_boats hr_are_boats (by rfl) g_are_boats F_are_boats.kp b_are_boats .nil pass0 (pa_cons (pv 1) pa_nil)))) (pw_or (pt_not (pt_val (pe_call G_are_spans hr_are_spans (by rfl) g_are_spans F_are_spans.kp b_are_spans .nil pass0 (pa_cons (pv 2) pa_nil)))) (pw_or1 (pt_cmpR op_ne (pe_callB call_len_seq (by rfl) T.mlen PySem.boot_len (pa_cons (pv 2) pa_nil)) (pe_op op_add (pe_callB call_len_seq (by rfl) T.mlen PySem.boot_len (pa_cons (pv 1) pa_nil)) pe_int) (nomark _))))))
      (pss_one ps_never)
      pss_nil)
      (pss_cons (ps_fld (pv 0) (pe_callTy call_list_of (by rfl) T.mlist (by decide +kernel) (pa_cons (pv 1) pa_nil)) rfl)
      (pss_one (ps_fld (pv 0) (pe_callTy call_list_of (by rfl) T.mlist (by decide +kernel) (pa_cons (pv 2) pa_nil)) rfl))))
      ), ?_⟩
    refine ⟨_, rfl, l, bs, rows, rfl, hl, hb, hg.l0, hg.l1, fun H1 s1 => ⟨_, rfl, ?_⟩⟩
    rw [decide_eq_true hg.nd]
    refine iteF ⟨_, rfl, sp, spans, rfl, s1 _ _ hs, by rw [hg.sl]; have := hg.l1; omega, fun H2 s2 => ⟨_, rfl, ?_⟩⟩
    rw [show (spans.all fun z => decide (1 ≤ z) && decide (z ≤ 1000000)) = true from List.all_eq_true.mpr fun z hz => by rw [decide_eq_true (hg.sb z hz).1, decide_eq_true (hg.sb z hz).2]; rfl]
    have s12 := s1.trans s2
    refine iteF ⟨_, rfl, sp, _, rfl, .inl (SqL.of (s12 _ _ hs)), _, rfl, l, _, rfl, .inl (SqL.of (s12 _ _ hl)), _, _, rfl, rfl, rfl, _, rfl, ?_⟩
    have e0 : (!decide (V.int (((spans.map V.int).length : Nat) : Int) = V.int (((bs.length : Nat) : Int) + 1))) = false := by
      rw [decide_eq_true (congrArg V.int (show (((spans.map V.int).length : Nat) : Int) = ((bs.length : Nat) : Int) + 1 by rw [List.length_map, hg.sl, hbl]; rfl))]
      rfl
    rw [e0]
    refine iteF ?_
    have hp2 := s12 _ _ hp
    refine ⟨_, rfl, l, _, rfl, .inl (SqL.of (s12 _ _ hl)), fun bl hbl0 => ?_⟩
    have nbp : p ≠ bl := ne_of_none hp2 hbl0
    have sb := same_upd (o := .lst bs) hbl0
    refine ⟨_, rfl, p, CB, dx, _, rfl, sb _ _ hp2, TC.cl, TC.nB, (by show 0 < 1000; decide), ?_⟩
    have nsp : sp ≠ p := ne_of (s12 _ _ hs) hp2 (by intro z; cases z)
    have hs2 : (upd (upd H2 bl (.lst bs)) p (.ins CB dx (putF "_boats" (.ref bl) []))) sp = some (.lst (spans.map V.int)) := by rw [upd_ne nsp]; exact sb _ _ (s12 _ _ hs)
    refine ⟨_, rfl, sp, _, rfl, .inl (SqL.of hs2), fun sl hsl0 => ?_⟩
    have nsl : sl ≠ p := fun e => by rw [e, upd_same] at hsl0; cases hsl0
    have hsl1 : (upd H2 bl (.lst bs)) sl = none := by rw [upd_ne nsl] at hsl0; exact hsl0
    have nslbl : sl ≠ bl := fun e => by rw [e, upd_same] at hsl1; cases hsl1
    have hsl2 : H2 sl = none := by rw [upd_ne nslbl] at hsl1; exact hsl1
    refine ⟨_, rfl, p, CB, dx, _, rfl, by rw [upd_ne nsl.symm]; exact upd_same, TC.cl, TC.nS, (by show 1 < 1000; decide), ?_⟩
    have back : ∀ x, H2 x = none → H x = none := fun x e => by
      cases z : H x with
      | none => rfl
      | some o => rw [s12 _ _ z] at e; cases e
    have keep : ∀ x o, x ≠ p → H2 x = some o → (upd (upd (upd (upd H2 bl (.lst bs)) p (.ins CB dx (putF "_boats" (.ref bl) []))) sl (.lst (spans.map V.int))) p (.ins CB dx (putF "_spans" (.ref sl) (putF "_boats" (.ref bl) [])))) x = some o := fun x o n e => by
      rw [upd_ne n, upd_ne (ne_of_none e hsl2), upd_ne n, upd_ne (ne_of_none e hbl0)]; exact e
    refine q bl sl _ (back _ hbl0) (back _ hsl2) ⟨⟨dx, bs, upd_same, ?_, ?_⟩, ?_⟩ (fun x o n e => keep x o n (s12 _ _ e))
    · rw [upd_ne nbp.symm, upd_ne nslbl.symm, upd_ne nbp.symm]; exact upd_same
    · refine (hb.same s12).mono fun a dx' n b e => ?_
      by_cases ea : a = p
      · rw [ea, hp2] at e
        cases e
      · exact keep a _ ea e
    · rw [upd_ne nsl, upd_same]
theorem ok_brboats {f : Addr} {fd : FuncData} {k : Nat} (F : Fun K "boats" "Bridge.boats" sBrBoats f fd) (T : TxtB mg) (TC : BrCl K mg CB) : FnOk P w K mg base CX0 (k + 1) f fd ["self"] (spBrBoats C CB) := by
  refine F.ok scBrBoats (fun vs H Q E h => ?_) (fun cdv A outer s H vs Q E hr h => ?_)
  · obtain ⟨p, bl, sl, rows, spans, rfl, _⟩ := h
    rfl
  · obtain ⟨p, bl, sl, rows, spans, rfl, hp, q⟩ := h
    obtain ⟨dx, bs, e1, e2, e3⟩ := hp.ex
    refine ⟨_,
      (pss_one (ps_ret (pe_callTy call_list_of (by rfl) T.mlist (by decide +kernel) (pa_cons (pe_fld (pv 0) rfl) pa_nil))))
      , ?_⟩
    exact ⟨_, rfl, p, CB, dx, _, _, rfl, e1, TC.cl, TC.nB, brF_boats bl sl, bl, _, rfl, .inl (SqL.of e2), fun l hl => q l bs _ (same_upd hl) hl upd_same (e3.same (same_upd hl))⟩
theorem ok_brspans {f : Addr} {fd : FuncData} {k : Nat} (F : Fun K "spans" "Bridge.spans" sBrSpans f fd) (T : TxtB mg) (TC : BrCl K mg CB) : FnOk P w K mg base CX0 (k + 1) f fd ["self"] (spBrSpans C CB) := by
  refine F.ok scBrSpans (fun vs H Q E h => ?_) (fun cdv A outer s H vs Q E hr h => ?_)
  · obtain ⟨p, bl, sl, rows, spans, rfl, _⟩ := h
    rfl
  · obtain ⟨p, bl, sl, rows, spans, rfl, hp, q⟩ := h
    obtain ⟨dx, bs, e1, e2, e3⟩ := hp.ex
    refine ⟨_,
      (pss_one (ps_ret (pe_callTy call_list_of (by rfl) T.mlist (by decide +kernel) (pa_cons (pe_fld (pv 0) rfl) pa_nil))))
      , ?_⟩
    exact ⟨_, rfl, p, CB, dx, _, _, rfl, e1, TC.cl, TC.nS, brF_spans bl sl, sl, _, rfl, .inl (SqL.of hp.sp), fun l hl => q l _ (same_upd hl) hl upd_same⟩
theorem ok_brlen {f : Addr} {fd : FuncData} {k : Nat} (F : Fun K "__len__" "Bridge.__len__" sBrLen f fd) (T : TxtB mg) (TC : BrCl K mg CB) : FnOk P w K mg base CX0 (k + 1) f fd ["self"] (spBrLen C CB) := by
  refine F.ok scBrLen (fun vs H Q E h => ?_) (fun cdv A outer s H vs Q E hr h => ?_)
  · obtain ⟨p, bl, sl, rows, spans, rfl, _⟩ := h
    rfl
  · obtain ⟨p, bl, sl, rows, spans, rfl, hp, q⟩ := h
    obtain ⟨dx, bs, e1, e2, e3⟩ := hp.ex
    refine ⟨_,
      (pss_one (ps_ret (pe_callB call_len_seq (by rfl) T.mlen PySem.boot_len (pa_cons (pe_fld (pv 0) rfl) pa_nil))))
      , ?_⟩
    refine ⟨_, rfl, p, CB, dx, _, _, rfl, e1, TC.cl, TC.nB, brF_boats bl sl, bl, _, rfl, .inl (SqL.of e2), ?_⟩
    rw [e3.len]
    exact q
end
abbrev sHalves : Stmt := topS 10
abbrev NHalves : List Str := ["bridge", "load", "at"]
theorem scHalves : FnScope NHalves ["bridge", "load"] (defScope sHalves) := ⟨rfl, rfl, rfl, by decide +kernel, rfl, by decide +kernel, by decide +kernel⟩
abbrev sSpare : Stmt := topS 11
abbrev NSpare : List Str := ["boat", "many"]
theorem scSpare : FnScope NSpare ["boat", "many"] (defScope sSpare) := ⟨rfl, rfl, rfl, by decide +kernel, rfl, by decide +kernel, by decide +kernel⟩
abbrev sOInit : Stmt := inClass (topS 6) 0
abbrev NOInit : List Str := ["self", "part", "at", "over"]
theorem scOInit : FnScope NOInit ["self", "part", "at", "over"] (defScope sOInit) := ⟨rfl, rfl, rfl, by decide +kernel, rfl, by decide +kernel, by decide +kernel⟩
abbrev sNeed : Stmt := topS 12
abbrev NNeed : List Str := ["bridge", "load", "at", "bears", "borne", "boat"]
theorem scNeed : FnScope NNeed ["bridge", "load"] (defScope sNeed) := ⟨rfl, rfl, rfl, by decide +kernel, rfl, by decide +kernel, by decide +kernel⟩
abbrev sBorne : Stmt := topS 13
abbrev NBorne : List Str := ["bridge", "load"]
theorem scBorne : FnScope NBorne ["bridge", "load"] (defScope sBorne) := ⟨rfl, rfl, rfl, by decide +kernel, rfl, by decide +kernel, by decide +kernel⟩
/-! ### what is borne -/
def gD (l : List Int) (k : Nat) : Int := l.getD k 0
theorem gD_at {l : List Int} {k : Nat} (h : k < l.length) : l[k]? = some (gD l k) := by
  unfold gD
  rw [List.getD_eq_getElem?_getD, List.getElem?_eq_getElem h]
  rfl
theorem gD_v {l : List Int} {k : Nat} (h : k < l.length) : (l.map V.int)[k]? = some (.int (gD l k)) := by
  rw [List.getElem?_map, gD_at h]; rfl
def brs (rows : List (Str × Int)) (k : Nat) : Int := gD (rows.map Prod.snd) k
theorem brs_at {rows : List (Str × Int)} {k : Nat} {r : Str × Int} (h : rows[k]? = some r) : brs rows k = r.2 := by
  unfold brs gD
  rw [List.getD_eq_getElem?_getD, List.getElem?_map, h]
  rfl
def hv (ld : List Int) (k : Nat) : Int := gD ld k + gD ld (k + 1)
def hvs (ld : List Int) (n : Nat) : List Int := (List.range n).map (hv ld)
theorem hvs_at {ld : List Int} {n k : Nat} (h : k < n) : ((hvs ld n).map V.int)[k]? = some (.int (hv ld k)) := by
  unfold hvs
  rw [List.getElem?_map, List.getElem?_map, List.getElem?_range h]
  rfl
inductive FaultIs (rows : List (Str × Int)) (spans ld : List Int) : Option (Bool × Nat × Int) → Prop
  | none : (∀ j, j < spans.length → ¬ gD ld j > gD spans j) → (∀ j, j < rows.length → ¬ 2 * brs rows j - hv ld j < 0) → FaultIs rows spans ld none
  | span (k : Nat) : k < spans.length → gD ld k > gD spans k → (∀ j, j < k → ¬ gD ld j > gD spans j) → FaultIs rows spans ld (some (true, k, gD ld k - gD spans k))
  | boat (k : Nat) : (∀ j, j < spans.length → ¬ gD ld j > gD spans j) → k < rows.length → 2 * brs rows k - hv ld k < 0 → (∀ j, j < k → ¬ 2 * brs rows j - hv ld j < 0) → FaultIs rows spans ld (some (false, k, -(2 * brs rows k - hv ld k)))
theorem first_one {p : Nat → Prop} {a b : Nat} (ha : p a) (hb : p b) (la : ∀ j, j < a → ¬ p j) (lb : ∀ j, j < b → ¬ p j) : a = b := by
  rcases Nat.lt_trichotomy a b with h | h | h
  · exact absurd ha (lb a h)
  · exact h
  · exact absurd hb (la b h)
theorem fault_one {rows : List (Str × Int)} {spans ld : List Int} {x y : Option (Bool × Nat × Int)} (h : FaultIs rows spans ld x) (h2 : FaultIs rows spans ld y) : x = y := by
  cases h with
  | none a b =>
    cases h2 with
    | none _ _ => rfl
    | span k c d e => exact absurd d (a k c)
    | boat k c d e f => exact absurd e (b k d)
  | span k a b c =>
    cases h2 with
    | none a' _ => exact absurd b (a' k a)
    | span m a' b' c' =>
      have e : k = m := first_one (p := fun j => gD ld j > gD spans j) b b' c c'
      subst e; rfl
    | boat m a' _ _ _ => exact absurd b (a' k a)
  | boat k a b c d =>
    cases h2 with
    | none _ b' => exact absurd c (b' k b)
    | span m a' b' _ => exact absurd b' (a m a')
    | boat m a' b' c' d' =>
      have e : k = m := first_one (p := fun j => 2 * brs rows j - hv ld j < 0) c c' d d'
      subst e; rfl
def partS (b : Bool) : Str := if b then "span" else "boat"
def ovF (p a o : V) : List (Str × V) := [("over", o), ("at", a), ("part", p)]
def spHalves (C CB : Addr) : Sp := fun vs H Q _ => ∃ (p bl sl l : Addr) (rows : List (Str × Int)) (spans ld : List Int), vs = [.ref p, .ref l] ∧ BrAt C CB H p bl sl rows spans ∧ rows.length ≤ 10 ∧ H l = some (.lst (ld.map V.int)) ∧ ld.length = rows.length + 1 ∧
  ∀ r H', Same H H' → H r = none → H' r = some (.lst ((hvs ld rows.length).map V.int)) → Q (.ref r) H'
def spSpare (C : Addr) : Sp := fun vs H Q _ => ∃ (p : Addr) (n : Str) (b m : Int), vs = [.ref p, .int m] ∧ BoatAt C H p n b ∧ Q (.int (2 * b - m)) H
def spOInit (CO : Addr) : Sp := fun vs H Q _ => ∃ (p : Addr) (x y z : V), vs = [.ref p, x, y, z] ∧ H p = some (exo p CO none) ∧ ∀ d H', H d = none → d ≠ p → H' p = some (exo p CO (some d)) → H' d = some (exd d (ovF x y z)) → (∀ x o, x ≠ p → H x = some o → H' x = some o) → Q .non H'
def spNeed (C CB CO : Addr) : Sp := fun vs H Q E => ∃ (p bl sl l : Addr) (rows : List (Str × Int)) (spans ld : List Int), vs = [.ref p, .ref l] ∧ BrAt C CB H p bl sl rows spans ∧ rows.length ≤ 10 ∧ H l = some (.lst (ld.map V.int)) ∧ ld.length = rows.length + 1 ∧ spans.length = rows.length + 1 ∧
  (∀ H', Same H H' → FaultIs rows spans ld none → Q .non H') ∧ ∀ b (k : Nat) o d H', Same H H' → FaultIs rows spans ld (some (b, k, o)) → H' d = some (.xd (ovF (.str (partS b)) (.int (k : Nat)) (.int o))) → E (.ref CO) (some d) H'
def spBorne (C CB : Addr) : Sp := fun vs H Q _ => ∃ (p bl sl l : Addr) (rows : List (Str × Int)) (spans ld : List Int), vs = [.ref p, .ref l] ∧ BrAt C CB H p bl sl rows spans ∧ rows.length ≤ 10 ∧ H l = some (.lst (ld.map V.int)) ∧ ld.length = rows.length + 1 ∧ spans.length = rows.length + 1 ∧
  ∀ x H', Same H H' → FaultIs rows spans ld x → Q (.bl x.isNone) H'
structure TxtO (mg : Str → Option Value) : Prop where
  mrange : mg "range" = none
  menumerate : mg "enumerate" = none
/-- what is asked of the refusal's class -/
structure OCl (K : PySem.W.Frag) (mg : Str → Option Value) (CO : Addr) : Prop where
  gC : mg "Overload" = some (.ref CO)
  oex : OexB K CO
  n1 : PySem.W.findIn K (.ref CO) "part" = some none
  n2 : PySem.W.findIn K (.ref CO) "at" = some none
  n3 : PySem.W.findIn K (.ref CO) "over" = some none
  hit : PySem.W.exmOne K (.ref CO) (.ref CO) = some true
theorem raise_same {H H1 H' : Hp} {e d : Addr} {X Y : HO} (s : Same H H1) (he : H1 e = none) (hd : (upd H1 e X) d = none) (ne : d ≠ e) (k : ∀ x o, x ≠ e → upd H1 e X x = some o → H' x = some o) : Same H (upd (del H' e) d Y) := by
  intro x o ex
  have e1 := s _ _ ex
  have nx : x ≠ e := ne_of_none e1 he
  have nd : x ≠ d := by
    intro z
    rw [z] at e1
    rw [upd_ne ne, e1] at hd
    cases hd
  rw [upd_ne nd, del_ne nx]
  exact k x o nx (by rw [upd_ne nx]; exact e1)
theorem small100 {n : Nat} (h : n < 100) : n < sizeLine := Nat.lt_of_lt_of_le h (small_line (by decide))
section
variable {P : Program} {w : World} {K : PySem.W.Frag} {mg : Str → Option Value} {base : Heap} {C CB CO : Addr}
theorem ok_halves {f fL : Addr} {fd fdL : FuncData} {k : Nat} (F : Fun K "halves" "halves" sHalves f fd) (TB0 : TxtB mg) (TC : BrCl K mg CB) (TO : TxtO mg)
    (mL : Meth K CB "__len__" fL) (FL : Fun K "__len__" "Bridge.__len__" sBrLen fL fdL) (bL : Binds K fdL ["self"] []) :
    FnOk P w K mg base CX0 (k + 4) f fd ["bridge", "load"] (spHalves C CB) := by
  have GL : FnOk P w K mg base CX0 (k + 1) fL fdL ["self"] (spBrLen C CB) := ok_brlen FL TB0 TC
  refine F.ok scHalves (fun vs H Q E h => ?_) (fun cdv A outer s H vs Q E hr h => ?_)
  · obtain ⟨p, bl, sl, l, rows, spans, ld, rfl, _⟩ := h
    rfl
  · obtain ⟨p, bl, sl, l, rows, spans, ld, rfl, hp, hr10, hl, hld, q⟩ := h
    have hrL : Room (k + 2) _ := hr.mono (by omega)
    have mrange := TO.mrange
    have T : TxtB mg := TB0
    refine ⟨_, pss_one (ps_ret (pe_lc (own := [("at", 2)]) (g := gName 2) (tt := tYes) rfl scHalves.nd (pi_range1 (by rfl) mrange (pa_cons (pe_callB (call_lenOwn mL.at_ mL.fn GL bL hrL pass0) (by rfl) T.mlen PySem.boot_len (pa_cons (pv 0) pa_nil)) pa_nil)) (blkOk_by (N := NHalves) (own := [("at", 2)]) (sc := defScope sHalves) (by decide +kernel)) (fun _ _ _ _ _ => pg_name (i := 2) scHalves.nd rfl (Or.inl rfl)) (fun _ _ _ _ _ => pts_nil)
      (fun _ _ _ _ _ => pe_op op_add (pe_ix (r := rIxL K) ix_list (pv 1) (pv 2) (fun _ _ => rfl)) (pe_ix (r := rIxL K) ix_list (pv 1) (pe_op op_add (pv 2) pe_int) (fun _ _ => rfl))))), ?_⟩
    obtain ⟨dx, bs, e1, e2, e3⟩ := hp.ex
    refine ⟨_, rfl, p, dx, _, rfl, e1, p, bl, sl, rows, spans, rfl, hp, _, rfl, by omega, by omega, _, rfl, by omega, by omega, fun D hD => ?_⟩
    refine lc_range (lo := 0) (n := ((rows.length : Nat) : Int).toNat) (fun i H' => H' D = some (.lst ((hvs ld i).map V.int)) ∧ Same H H')
      ⟨upd_same, same_upd hD⟩ ?_ ?_
    · rintro i H' hi ⟨eD, si⟩
      have hi2 : i < rows.length := by omega
      have hl' := si _ _ hl
      refine ⟨rfl, _, rfl, _, rfl, l, _, (i : Int), _, rfl, congrArg V.int (by omega), SqL.of hl', atI_nat (gD_v (by omega)), _, rfl, _, rfl, _, _, rfl, rfl, l, _, ((i + 1 : Nat) : Int), _, rfl, congrArg V.int (by omega), SqL.of hl', atI_nat (gD_v (by omega)), _, _, rfl, rfl, _, eD, ?_, ?_, fun z o e => by rw [upd_ne (ne_of_none e hD)]; exact si _ _ e⟩
      · unfold hvs; rw [List.length_map, List.length_map, List.length_range]; exact small100 (by omega)
      · rw [upd_same]
        unfold hvs
        rw [List.range_succ, List.map_append, List.map_append]
        rfl
    · rintro H' ⟨eD, si⟩
      exact q D H' si hD eD
theorem ok_spare {f : Addr} {fd : FuncData} {k : Nat} (F : Fun K "spare" "spare" sSpare f fd) (TB : BCl K mg C) : FnOk P w K mg base CX0 (k + 1) f fd ["boat", "many"] (spSpare C) := by
  refine F.ok scSpare (fun vs H Q E h => ?_) (fun cdv A outer s H vs Q E hr h => ?_)
  · obtain ⟨p, n, b, m, rfl, _⟩ := h
    rfl
  · obtain ⟨p, n, b, m, rfl, ⟨dx, hp⟩, q⟩ := h
    refine ⟨_,
      (pss_one (ps_ret (pe_op op_sub (pe_op op_mul pe_int (pe_fld (pv 0) rfl)) (pv 1))))
      , ?_⟩
    exact ⟨_, rfl, p, C, dx, _, _, rfl, hp, TB.cl, TB.nB, boatF_bears n b, _, _, rfl, rfl, .inl ⟨by decide, by decide⟩, _, rfl, _, _, rfl, rfl, q⟩
theorem ok_oinit {f : Addr} {fd : FuncData} {k : Nat} (F : Fun K "__init__" "Overload.__init__" sOInit f fd) (T : OCl K mg CO) : FnOk P w K mg base CX0 (k + 1) f fd ["self", "part", "at", "over"] (spOInit CO) := by
  refine F.ok scOInit (fun vs H Q E h => ?_) (fun cdv A outer s H vs Q E hr h => ?_)
  · obtain ⟨p, x, y, z, rfl, _⟩ := h
    rfl
  · obtain ⟨p, x, y, z, rfl, hp, q⟩ := h
    refine ⟨_, pss_cons (ps_put (pv 0) (pv 1)) (pss_cons (ps_put (pv 0) (pv 2)) (pss_one (ps_put (pv 0) (pv 3)))), ?_⟩
    refine ⟨_, rfl, _, rfl, p, CO, rfl, T.oex, T.n1, .inl ⟨hp, fun d hd ne => ?_⟩⟩
    have np : p ≠ d := Ne.symm ne
    refine ⟨_, rfl, _, rfl, p, CO, rfl, T.oex, T.n2, .inr ⟨d, [("part", x)], upd_same, by rw [upd_ne ne, upd_same], by show 1 ≤ 900; decide, ?_⟩⟩
    refine ⟨_, rfl, _, rfl, p, CO, rfl, T.oex, T.n3, .inr ⟨d, [("at", y), ("part", x)], by rw [upd_ne np]; exact upd_same, upd_same, by show 2 ≤ 900; decide, ?_⟩⟩
    refine q d _ hd ne (by rw [upd_ne np, upd_ne np]; exact upd_same) upd_same fun x o n e => ?_
    have nd : x ≠ d := ne_of_none e hd
    rw [upd_ne nd, upd_ne nd, upd_ne n, upd_ne nd]
    exact e
theorem ok_need {f fH fS fO fBo fSp fL : Addr} {fd fdH fdS fdO fdBo fdSp fdL : FuncData} {k : Nat} (F : Fun K "need_borne" "need_borne" sNeed f fd) (TB0 : TxtB mg) (TO : TxtO mg) (TB : BCl K mg C) (TC : BrCl K mg CB) (TOv : OCl K mg CO)
    (iXOverload : PySem.W.findIn K (.ref CO) "__init__" = some (some (.ref fO))) (tXOverload : PySem.W.typeIn K (.ref fO) = some (.type "function")) (FO : Fun K "__init__" "Overload.__init__" sOInit fO fdO) (bXOverload : Binds K fdO ["self", "part", "at", "over"] [])
    (mboats : Meth K CB "boats" fBo) (FBo : Fun K "boats" "Bridge.boats" sBrBoats fBo fdBo) (bboats : Binds K fdBo ["self"] [])
    (mspans : Meth K CB "spans" fSp) (FSp : Fun K "spans" "Bridge.spans" sBrSpans fSp fdSp) (bspans : Binds K fdSp ["self"] [])
    (mL : Meth K CB "__len__" fL) (FL : Fun K "__len__" "Bridge.__len__" sBrLen fL fdL) (bL : Binds K fdL ["self"] [])
    (Fhalves : Fun K "halves" "halves" sHalves fH fdH) (ghalves : mg "halves" = some (.ref fH)) (bhalves : Binds K fdH ["bridge", "load"] [])
    (Fspare : Fun K "spare" "spare" sSpare fS fdS) (gspare : mg "spare" = some (.ref fS)) (bspare : Binds K fdS ["boat", "many"] []) :
    FnOk P w K mg base (L2.CX P w) (k + 5) f fd ["bridge", "load"] (spNeed C CB CO) := by
  have Gboats : FnOk P w K mg base CX0 (k + 1) fBo fdBo ["self"] (spBrBoats C CB) := ok_brboats FBo TB0 TC
  have Gspans : FnOk P w K mg base CX0 (k + 1) fSp fdSp ["self"] (spBrSpans C CB) := ok_brspans FSp TB0 TC
  have Ghalves : FnOk P w K mg base CX0 (k + 4) fH fdH ["bridge", "load"] (spHalves C CB) := ok_halves Fhalves TB0 TC TO mL FL bL
  have Gspare : FnOk P w K mg base CX0 (k + 1) fS fdS ["boat", "many"] (spSpare C) := ok_spare Fspare TB
  have GXOverload : FnOk P w K mg base CX0 (k + 1) fO fdO ["self", "part", "at", "over"] (spOInit CO) := ok_oinit FO TOv
  refine F.okX scNeed (fun vs H Q E h => ?_) (fun cdv A outer s H vs Q E hr h => ?_)
  · obtain ⟨p, bl, sl, l, rows, spans, ld, rfl, _⟩ := h
    rfl
  · obtain ⟨p, bl, sl, l, rows, spans, ld, rfl, hp, hr10, hl, hld, hsl, q0, q1⟩ := h
    have hrboats : Room (k + 1) _ := hr.mono (by omega)
    have hrspans : Room (k + 1) _ := hr.mono (by omega)
    have hrhalves := hr
    have hrspare : Room (k + 1) _ := hr.mono (by omega)
    have hrXOverload : Room (k + 2) _ := hr.mono (by omega)
    have cboats := TC.cl
    have cspans := TC.cl
    have gCOverload := TOv.gC
    have oxOverload := TOv.oex
    have T := TO
    refine ⟨_,
      (pss_cut (ps_for (passes_of rfl) rfl (pi_enum (by rfl) T.menumerate (pa_cons (pe_meth0 (pv 0) cspans mspans Gspans hrspans bspans .nil pass0) pa_nil)) (pg_tup rfl (pgs_cons (pg_name (i := 2) scNeed.nd rfl (.inl rfl)) (pgs_cons (pg_name (i := 3) scNeed.nd rfl (.inl rfl)) pgs_nil)))
      (pss_one (ps_if (pt_cmpR op_gt (pe_ix ix_list (pv 1) (pv 2) (fun _ _ => rfl)) (pv 3) (nomark _))
      (pss_one (ps_raise rfl (takes_of rfl rfl rfl rfl) (pmk_oexB oxOverload iXOverload tXOverload GXOverload hrXOverload bXOverload pass0 (by rfl) gCOverload (by exact (pa_cons pe_str (pa_cons (pv 2) (pa_cons (pe_op op_sub (pe_ix ix_list (pv 1) (pv 2) (fun _ _ => rfl)) (pv 3)) pa_nil)))))))
      pss_nil)))
      (pss_cons (ps_set (i := 4) scNeed.nd rfl (.inl rfl) (pe_call Ghalves hrhalves (by rfl) ghalves Fhalves.kp bhalves .nil pass0 (pa_cons (pv 0) (pa_cons (pv 1) pa_nil))))
      (pss_one (ps_for (passes_of rfl) rfl (pi_enum (by rfl) T.menumerate (pa_cons (pe_meth0 (pv 0) cboats mboats Gboats hrboats bboats .nil pass0) pa_nil)) (pg_tup rfl (pgs_cons (pg_name (i := 2) scNeed.nd rfl (.inl rfl)) (pgs_cons (pg_name (i := 5) scNeed.nd rfl (.inl rfl)) pgs_nil)))
      (pss_one (ps_if (pt_cmpR op_lt (pe_call Gspare hrspare (by rfl) gspare Fspare.kp bspare .nil pass0 (pa_cons (pv 5) (pa_cons (pe_ix ix_list (pv 4) (pv 2) (fun _ _ => rfl)) pa_nil))) pe_int (nomark _))
      (pss_one (ps_raise rfl (takes_of rfl rfl rfl rfl) (pmk_oexB oxOverload iXOverload tXOverload GXOverload hrXOverload bXOverload pass0 (by rfl) gCOverload (by exact (pa_cons pe_str (pa_cons (pv 2) (pa_cons (pe_un un_neg (pe_call Gspare hrspare (by rfl) gspare Fspare.kp bspare .nil pass0 (pa_cons (pv 5) (pa_cons (pe_ix ix_list (pv 4) (pv 2) (fun _ _ => rfl)) pa_nil)))) pa_nil)))))))
      pss_nil))))))
      , ?_⟩
    obtain ⟨dx, bs0, e1, e2, e3⟩ := hp.ex
    -- the spans
    refine ⟨fun σ H1 => ∃ (w2 w3 : Option V), σ = [some (.ref p), some (.ref l), w2, w3, none, none] ∧ Same H H1 ∧ ∀ j, j < spans.length → ¬ gD ld j > gD spans j, ?_, ?_⟩
    · refine ⟨_, rfl, p, dx, _, rfl, e1, brF_mspans bl sl, p, bl, sl, rows, spans, rfl, hp, fun c H1 s1 hc ec => ⟨c, spans.map V.int, rfl, SqL.of ec, ?_⟩⟩
      refine for_enum (K := K) (a := c) (xs := spans.map V.int) (fun i σ H' => ∃ (w2 w3 : Option V), σ = [some (.ref p), some (.ref l), w2, w3, none, none] ∧ Same H1 H' ∧ ∀ j, j < i → ¬ gD ld j > gD spans j)
        ⟨_, _, rfl, same_refl, fun j hj => absurd hj (Nat.not_lt_zero j)⟩ (fun i σ H' _ ⟨_, _, _, z, _⟩ => SqL.of (z _ _ ec)) ?_ ?_
      · rintro i x Tt σ H' hx ⟨w2, w3, rfl, si, hj⟩ hT
        have hi : i < spans.length := by have := (List.getElem?_eq_some_iff.mp hx).1; rw [List.length_map] at this; exact this
        rw [gD_v hi] at hx
        cases hx
        have st := same_upd (o := .tup [.int (i : Nat), .int (gD spans i)]) hT
        have hl2 := st _ _ (si _ _ (s1 _ _ hl))
        refine ⟨Tt, _, rfl, SqT.of upd_same, rfl, _, _, rfl, _, _, rfl, rfl, ?_⟩
        refine ⟨_, rfl, _, rfl, l, _, (i : Int), _, rfl, rfl, SqL.of hl2, atI_nat (gD_v (by omega)), _, rfl, _, _, rfl, rfl, _, rfl, ite2 (fun c => ?_) (fun c => ?_)⟩
        · refine ⟨_, rfl, _, rfl, _, rfl, l, _, (i : Int), _, rfl, rfl, SqL.of hl2, atI_nat (gD_v (by omega)), _, rfl, _, _, rfl, rfl, by show 3 ≤ 1000; decide, fun e he => ⟨e, _, _, _, rfl, upd_same, fun d H2 hd ne ep ed k => ⟨rfl, d, _, ep, ed, ?_, ?_⟩⟩⟩
          · rw [upd_ne ne] at hd
            exact hd
          · exact q1 true i _ d _ (raise_same ((s1.trans si).trans st) he hd ne k) (.span i hi (of_decide_eq_true c) hj) upd_same
        · refine ⟨_, _, rfl, si.trans st, fun j hj2 => ?_⟩
          by_cases e : j = i
          · subst e; exact fun z => c (decide_eq_true z)
          · exact hj j (by omega)
      · rintro σ H' ⟨w2, w3, rfl, si, hj⟩
        rw [List.length_map] at hj
        exact ⟨_, _, rfl, s1.trans si, hj⟩
    rintro σ H1 ⟨w2, w3, rfl, s1, hsp⟩
    -- halves, the boats
    refine ⟨_, rfl, _, rfl, p, bl, sl, l, rows, spans, ld, rfl, hp.same s1, hr10, s1 _ _ hl, hld, fun h H2 s2 hh eh => ?_⟩
    have s12 := s1.trans s2
    refine ⟨_, rfl, p, dx, _, rfl, s12 _ _ e1, brF_mboats bl sl, p, bl, sl, rows, spans, rfl, hp.same s12, fun c bs H3 s3 hc ec hbs => ⟨c, bs, rfl, SqL.of ec, ?_⟩⟩
    have s13 := s12.trans s3
    have hbl := hbs.len
    refine for_enum (K := K) (a := c) (xs := bs) (fun i σ H' => ∃ (w2 w5 : Option V), σ = [some (.ref p), some (.ref l), w2, w3, some (.ref h), w5] ∧ Same H3 H' ∧ ∀ j, j < i → ¬ 2 * brs rows j - hv ld j < 0)
      ⟨_, _, rfl, same_refl, fun j hj => absurd hj (Nat.not_lt_zero j)⟩ (fun i σ H' _ ⟨_, _, _, z, _⟩ => SqL.of (z _ _ ec)) ?_ ?_
    · rintro i x Tt σ H' hx ⟨w2, w5, rfl, si, hj⟩ hT
      obtain ⟨a, r, rfl, hr2, ha⟩ := hbs.at hx
      have hi : i < bs.length := (List.getElem?_eq_some_iff.mp hx).1
      have hi2 : i < rows.length := by omega
      have st := same_upd (o := .tup [.int (i : Nat), .ref a]) hT
      have s3t := si.trans st
      have eh3 := s3t _ _ (s3 _ _ eh)
      obtain ⟨dxa, ea⟩ := ha
      have ha3 : BoatAt C (upd H' Tt (.tup [.int (i : Nat), .ref a])) a r.1 r.2 := ⟨dxa, s3t _ _ ea⟩
      have eb := brs_at hr2
      refine ⟨Tt, _, rfl, SqT.of upd_same, rfl, _, _, rfl, _, _, rfl, rfl, ?_⟩
      refine ⟨_, rfl, _, rfl, _, rfl, h, _, (i : Int), _, rfl, rfl, SqL.of eh3, atI_nat (hvs_at hi2), a, r.1, r.2, _, rfl, ha3, _, _, rfl, rfl, _, rfl, ite2 (fun c => ?_) (fun c => ?_)⟩
      · have c' : 2 * brs rows i - hv ld i < 0 := by rw [eb]; exact of_decide_eq_true c
        refine ⟨_, rfl, _, rfl, _, rfl, _, rfl, h, _, (i : Int), _, rfl, rfl, SqL.of eh3, atI_nat (hvs_at hi2), a, r.1, r.2, _, rfl, ha3, _, rfl, by show 3 ≤ 1000; decide, fun e he => ⟨e, _, _, _, rfl, upd_same, fun d H4 hd ne ep ed k => ⟨rfl, d, _, ep, ed, ?_, ?_⟩⟩⟩
        · rw [upd_ne ne] at hd
          exact hd
        · have ft := FaultIs.boat (rows := rows) (spans := spans) (ld := ld) i hsp hi2 c' hj
          rw [eb] at ft
          exact q1 false i _ d _ (raise_same (s13.trans s3t) he hd ne k) ft upd_same
      · refine ⟨_, _, rfl, s3t, fun j hj2 => ?_⟩
        by_cases e : j = i
        · subst e; rw [eb]; exact fun z => c (decide_eq_true z)
        · exact hj j (by omega)
    · rintro σ H' ⟨w2', w5, rfl, si, hj⟩
      rw [hbl] at hj
      exact q0 _ (s13.trans si) (.none hsp hj)
def tbBorne (C CB CO : Addr) : WX → TS := fun W D σ H => ∃ (p bl sl l : Addr) (rows : List (Str × Int)) (spans ld : List Int), σ = [some (.ref p), some (.ref l)] ∧ BrAt C CB H p bl sl rows spans ∧ rows.length ≤ 10 ∧ H l = some (.lst (ld.map V.int)) ∧ ld.length = rows.length + 1 ∧ spans.length = rows.length + 1 ∧
  (∀ H', Same H H' → FaultIs rows spans ld none → D.nx σ H') ∧ ∀ b (k : Nat) o d H', Same H H' → FaultIs rows spans ld (some (b, k, o)) → W (.ref CO) (some d) σ H'
theorem ok_borne {f fN fH fS fO fBo fSp fL : Addr} {fd fdN fdH fdS fdO fdBo fdSp fdL : FuncData} {k : Nat} (F : Fun K "is_borne" "is_borne" sBorne f fd) (TB0 : TxtB mg) (TO : TxtO mg) (TB : BCl K mg C) (TC : BrCl K mg CB) (TOv : OCl K mg CO)
    (iXOverload : PySem.W.findIn K (.ref CO) "__init__" = some (some (.ref fO))) (tXOverload : PySem.W.typeIn K (.ref fO) = some (.type "function")) (FO : Fun K "__init__" "Overload.__init__" sOInit fO fdO) (bXOverload : Binds K fdO ["self", "part", "at", "over"] [])
    (mboats : Meth K CB "boats" fBo) (FBo : Fun K "boats" "Bridge.boats" sBrBoats fBo fdBo) (bboats : Binds K fdBo ["self"] [])
    (mspans : Meth K CB "spans" fSp) (FSp : Fun K "spans" "Bridge.spans" sBrSpans fSp fdSp) (bspans : Binds K fdSp ["self"] [])
    (mL : Meth K CB "__len__" fL) (FL : Fun K "__len__" "Bridge.__len__" sBrLen fL fdL) (bL : Binds K fdL ["self"] [])
    (Fhalves : Fun K "halves" "halves" sHalves fH fdH) (ghalves : mg "halves" = some (.ref fH)) (bhalves : Binds K fdH ["bridge", "load"] [])
    (Fspare : Fun K "spare" "spare" sSpare fS fdS) (gspare : mg "spare" = some (.ref fS)) (bspare : Binds K fdS ["boat", "many"] [])
    (Fneed_borne : Fun K "need_borne" "need_borne" sNeed fN fdN) (gneed_borne : mg "need_borne" = some (.ref fN)) (bneed_borne : Binds K fdN ["bridge", "load"] []) :
    FnOk P w K mg base CX0 (k + 6) f fd ["bridge", "load"] (spBorne C CB) := by
  have Gneed_borne : FnOk P w K mg base (L2.CX P w) (k + 5) fN fdN ["bridge", "load"] (spNeed C CB CO) := ok_need Fneed_borne TB0 TO TB TC TOv iXOverload tXOverload FO bXOverload mboats FBo bboats mspans FSp bspans mL FL bL Fhalves ghalves bhalves Fspare gspare bspare
  refine F.ok scBorne (fun vs H Q E h => ?_) (fun cdv A outer s H vs Q E hr h => ?_)
  · obtain ⟨p, bl, sl, l, rows, spans, ld, rfl, _⟩ := h
    rfl
  · obtain ⟨p, bl, sl, l, rows, spans, ld, rfl, hp, hr10, hl, hld, hsl, q⟩ := h
    have gCOverload := TOv.gC
    refine ⟨_, pss_cons (ps_try_only (tb := tbBorne C CB CO) (ts := fun _ _ _ => tRet (tC (.bl false))) rfl rfl ⟨rfl, by decide, .inl gCOverload⟩ takes0
      (fun W pn xe tk _ => pss_imp (pss_one (ps_expr (by exact (pe_callSD Gneed_borne hr (by rfl) gneed_borne Fneed_borne.kp bneed_borne .nil (fun σ => passAt tk σ) (by exact (pa_cons (pv 0) (pa_cons (pv 1) pa_nil))))))) ?imp)
      (fun a oe cls d pn _ _ => pss_one (ps_ret pe_bl))) (pss_one (ps_ret pe_bl)), ?main⟩
    case imp =>
      rintro D σ H0 ⟨p, bl, sl, l, rows, spans, ld, rfl, hp, hr10, hl, hld, hsl, d0, d1⟩
      exact ⟨_, rfl, _, rfl, p, bl, sl, l, rows, spans, ld, rfl, hp, hr10, hl, hld, hsl, d0, fun b k o d H' s1 ft _ => d1 b k o d H' s1 ft⟩
    case main =>
      refine ⟨p, bl, sl, l, rows, spans, ld, rfl, hp, hr10, hl, hld, hsl, fun H' s1 ft => ?_, fun b k o d H' s1 ft => ⟨true, TOv.hit, fun _ a ha => ?_, fun z => nomatch z⟩⟩
      · exact q none H' s1 ft
      · exact q _ H' s1 ft
end
abbrev sNames : Stmt := topS 27
abbrev NNames : List Str := ["_law_tape_here", "_law_many", "_law_letters", "_law_turn", "_law_words", "_law_base", "_law_spot", "_law_first", "_law_step", "_law_ends", "_law_k"]
theorem scNames : FnScope NNames ["_law_tape_here", "_law_many"] (defScope sNames) := ⟨rfl, rfl, rfl, by decide +kernel, rfl, by decide +kernel, by decide +kernel⟩
/-! ### texts of small letters -/
theorem emp (x : Str) : Str.empty ++ x = x := ext_tl (by show (Str.empty ++ x).cps.toList = _; rw [Str.cps_append]; simp [Str.empty])
theorem tl_app (x y : Str) : tl (x ++ y) = tl x ++ tl y := by unfold tl; rw [Str.cps_append]; simp
/-- texts of at most m small letters -/
def LowN (m : Nat) (z : Str) : Prop := z.length ≤ m ∧ ∀ c ∈ tl z, 97 ≤ c ∧ c ≤ 122
theorem tl_cut (z : Str) (lo hi : Option Int) : tl (cutS z lo hi) = ((tl z).drop (HT.sIx z.length 0 lo)).take (HT.sIx z.length z.length hi - HT.sIx z.length 0 lo) := by
  unfold tl cutS; simp
theorem cut_low {m : Nat} {z : Str} {lo hi : Option Int} (h : LowN m z) : LowN m (cutS z lo hi) := by
  refine ⟨?_, fun c hc => ?_⟩
  · have := TL.len_tl (cutS z lo hi)
    have h2 := TL.len_tl z
    rw [this, tl_cut, List.length_take, List.length_drop]
    have := h.1
    omega
  · rw [tl_cut] at hc
    exact h.2 c (List.mem_of_mem_drop (List.mem_of_mem_take hc))
theorem app_low {m k : Nat} {y z : Str} (h : LowN m y) (h2 : LowN k z) : LowN (m + k) (y ++ z) := by
  refine ⟨by rw [Str.length_append]; exact Nat.add_le_add h.1 h2.1, fun c hc => ?_⟩
  rw [tl_app] at hc
  rcases List.mem_append.mp hc with hc | hc
  · exact h.2 c hc
  · exact h2.2 c hc
theorem one_low {c : Nat} (h : 97 ≤ c ∧ c ≤ 122) : LowN 1 ⟨#[c]⟩ := ⟨Nat.le_refl _, fun d hd => by
  have : d = c := by simpa [tl] using hd
  rw [this]; exact h⟩
theorem join_low : ∀ ys : List Str, (∀ y ∈ ys, LowN 1 y ∧ y.length = 1) → (TL.joinL [] (ys.map tl)).length = ys.length ∧ ∀ c ∈ TL.joinL [] (ys.map tl), 97 ≤ c ∧ c ≤ 122
  | [], _ => ⟨rfl, fun c hc => by cases hc⟩
  | [y], h => by
    have hy := h y List.mem_cons_self
    exact ⟨by show (tl y).length = 1; rw [← TL.len_tl]; exact hy.2, hy.1.2⟩
  | y :: z :: r, h => by
    have hy := h y List.mem_cons_self
    obtain ⟨i1, i2⟩ := join_low (z :: r) fun w hw => h w (List.mem_cons_of_mem _ hw)
    refine ⟨?_, fun c hc => ?_⟩
    · show (tl y ++ ([] ++ TL.joinL [] ((z :: r).map tl))).length = (z :: r).length + 1
      rw [List.length_append, List.nil_append, i1, ← TL.len_tl, hy.2]
      omega
    · have hc' : c ∈ tl y ++ ([] ++ TL.joinL [] ((z :: r).map tl)) := hc
      rw [List.nil_append] at hc'
      rcases List.mem_append.mp hc' with hc' | hc'
      · exact hy.1.2 c hc'
      · exact i2 c hc'
theorem base_low {ys : List Str} (h : ∀ y ∈ ys, LowN 1 y ∧ y.length = 1) : LowN ys.length (Txt.join Str.empty ys) ∧ (Txt.join Str.empty ys).length = ys.length := by
  obtain ⟨a, b⟩ := join_low ys h
  have e : tl (Txt.join Str.empty ys) = TL.joinL [] (ys.map tl) := by rw [TL.join_eq, TL.tl_join]; rfl
  have l : (Txt.join Str.empty ys).length = ys.length := by rw [TL.len_tl, e, a]
  exact ⟨⟨Nat.le_of_eq l, fun c hc => b c (by rw [← e]; exact hc)⟩, l⟩
theorem letter : ∀ j : Nat, j < 26 → ∃ c, (tl "abcdefghijklmnopqrstuvwxyz")[j]? = some c ∧ 97 ≤ c ∧ c ≤ 122 := by
  have : ∀ j : Nat, j < 26 → (tl "abcdefghijklmnopqrstuvwxyz")[j]? = some (97 + j) := by decide +kernel
  intro j h
  exact ⟨_, this j h, by omega, by omega⟩
def words : List Str := ["near", "far", "water", "ice", "both", "days", "out", "down", "a", "ab", "abcdefgh", "on"]
theorem words_low : ∀ z ∈ words, LowN 8 z := by
  have : words.all (fun z => decide (z.length ≤ 8) && (tl z).all fun c => decide (97 ≤ c) && decide (c ≤ 122)) = true := by decide +kernel
  intro z hz
  have h := List.all_eq_true.mp this z hz
  rw [Bool.and_eq_true, decide_eq_true_eq, List.all_eq_true] at h
  refine ⟨h.1, fun c hc => ?_⟩
  have := h.2 c hc
  rw [Bool.and_eq_true, decide_eq_true_eq, decide_eq_true_eq] at this
  exact this

theorem LowN.mono {m k : Nat} {z : Str} (h : LowN m z) (l : m ≤ k) : LowN k z := ⟨Nat.le_trans h.1 l, h.2⟩
theorem letter_at {j : Nat} (h : j < 26) : (tl "abcdefghijklmnopqrstuvwxyz")[j]? = some (97 + j) := by
  have : ∀ j : Nat, j < 26 → (tl "abcdefghijklmnopqrstuvwxyz")[j]? = some (97 + j) := by decide +kernel
  exact this j h
def steps : List Int := [1, 3, 5, 7, 9, 11, 15, 17, 19, 21, 23, 25]
theorem steps_pos {st : Int} (h : st ∈ steps) : 0 < st ∧ st < 100 := by
  have : ∀ st ∈ steps, 0 < st ∧ st < 100 := by decide
  exact this st h
theorem steps_apart {st : Int} (h : st ∈ steps) {f i j : Nat} (hi : i < 10) (hj : j < 10) (n : i ≠ j) (e : ((f : Int) + st * (i : Int)).toNat % 26 = ((f : Int) + st * (j : Int)).toNat % 26) : False := by
  unfold steps at h
  simp only [List.mem_cons, List.not_mem_nil, or_false] at h
  rcases h with rfl | rfl | rfl | rfl | rfl | rfl | rfl | rfl | rfl | rfl | rfl | rfl <;> omega
theorem cut_before_len {z : Str} {t : Nat} (h : t < z.length) : (tl (cutS z none (some (t : Int)))).length = t := by
  have lz := TL.len_tl z
  rw [tl_cut, HT.sIx_none, show HT.sIx z.length z.length (some (t : Int)) = min t z.length from HT.sIx_nat z.length _ t, List.length_take, List.length_drop]
  omega
theorem cut_before {m : Nat} {z : Str} {t : Nat} (h : LowN m z) (ht : t < z.length) : LowN t (cutS z none (some (t : Int))) :=
  ⟨by rw [TL.len_tl]; exact Nat.le_of_eq (cut_before_len ht), (cut_low h).2⟩
theorem cut_after {m : Nat} {z : Str} {t : Nat} (h : LowN m z) (ht : t < z.length) : LowN (z.length - (t + 1)) (cutS z (some ((t : Int) + 1)) none) := by
  refine ⟨?_, (cut_low h).2⟩
  have lz := TL.len_tl z
  rw [TL.len_tl, tl_cut, HT.sIx_none, show HT.sIx z.length 0 (some ((t : Int) + 1)) = min (t + 1) z.length from HT.sIx_nat z.length _ (t + 1), List.length_take, List.length_drop]
  omega
theorem cut_from {xs : List V} {t : Nat} (h : t ≤ xs.length) : cutV xs (some (t : Int)) none = xs.drop t := by
  unfold cutV
  rw [show HT.sIx xs.length 0 (some (t : Int)) = min t xs.length from HT.sIx_nat xs.length 0 t, HT.sIx_none, Nat.min_eq_left h]
  exact List.take_of_length_le (by rw [List.length_drop]; exact Nat.le_refl _)
theorem cut_to {xs : List V} {t : Nat} (h : t ≤ xs.length) : cutV xs none (some (t : Int)) = xs.take t := by
  unfold cutV
  rw [HT.sIx_none, show HT.sIx xs.length xs.length (some (t : Int)) = min t xs.length from HT.sIx_nat xs.length _ t, Nat.min_eq_left h]
  show (xs.drop 0).take (t - 0) = _
  rw [Nat.sub_zero]; rfl
def spNames : Sp := fun vs H Q _ => ∃ (T c : Addr) (m n : Nat), vs = [.ref T, .int (m : Int)] ∧ 1 ≤ m ∧ m ≤ 10 ∧ n < 900000 ∧ Tape H T c n ∧
  ∀ (p : Addr) (zs : List Str) H', zs.length = m → (∀ z ∈ zs, LowN 8 z) → zs.Nodup → H' p = some (.lst (zs.map V.str)) → p ≠ T → Tape H' T c (n + 40) → Keep T H H' → Q (.ref p) H'
structure TxtN (mg : Str → Option Value) : Prop where
  mlen : mg "len" = none
  mrange : mg "range" = none
section
variable {P : Program} {w : World} {K : PySem.W.Frag} {mg : Str → Option Value} {base : Heap} {C : Addr}
theorem ok_names {f fD : Addr} {fd fdD : FuncData} {k : Nat} (F : Fun K "_law_names" "_law_names" sNames f fd) (T0 : Txt0 mg) (T : TxtN mg)
    (F_law_draw : Fun K "_law_draw" "_law_draw" sDraw fD fdD) (g_law_draw : mg "_law_draw" = some (.ref fD)) (b_law_draw : Binds K fdD ["_law_tape_here", "_law_many"] []) :
    FnOk P w K mg base CX0 (k + 2) f fd ["_law_tape_here", "_law_many"] spNames := by
  have G_law_draw : FnOk P w K mg base CX0 (k + 1) fD fdD ["_law_tape_here", "_law_many"] spDraw := ok_draw F_law_draw T0
  refine F.ok scNames (fun vs H Q E h => ?_) (fun cdv A outer s H vs Q E hr h => ?_)
  · obtain ⟨a, c, m, n, rfl, _⟩ := h
    rfl
  · obtain ⟨a, c, m, n, rfl, hm1, hm10, hn, hT, q⟩ := h
    have hr_law_draw := hr
    refine ⟨_,
      (pss_cons (ps_set (i := 2) scNames.nd rfl (.inr rfl) pe_str)
      (pss_cons (ps_set (i := 3) scNames.nd rfl (.inl rfl) (pe_call G_law_draw hr_law_draw (by rfl) g_law_draw F_law_draw.kp b_law_draw .nil pass0 (pa_cons (pv 0) (pa_cons pe_int pa_nil))))
      (pss_cons (ps_if (pt_cmpR op_eq (pe_call G_law_draw hr_law_draw (by rfl) g_law_draw F_law_draw.kp b_law_draw .nil pass0 (pa_cons (pv 0) (pa_cons pe_int pa_nil))) pe_int (nomark _))
      (pss_cons (ps_set (i := 4) scNames.nd rfl (.inl rfl) (pe_lst (pa_cons pe_str (pa_cons pe_str (pa_cons pe_str (pa_cons pe_str (pa_cons pe_str (pa_cons pe_str (pa_cons pe_str (pa_cons pe_str (pa_cons pe_str (pa_cons pe_str (pa_cons pe_str (pa_cons pe_str pa_nil))))))))))))))
      (pss_one (ps_ret (pe_slice sl_list (pe_op op_cat (pe_slice sl_list (pv 4) (po_some (pv 3)) po_none) (pe_slice sl_list (pv 4) po_none (po_some (pv 3)))) po_none (po_some (pv 1))))))
      pss_nil)
      (pss_cut (ps_set (i := 5) scNames.nd rfl (.inr rfl) (pe_join pe_str (pe_lc (own := [("_law_k", 10)]) (g := gName 10) (tt := tYes) rfl scNames.nd (pi_range1 (by rfl) T.mrange (pa_cons (pe_op op_add pe_int (pe_call G_law_draw hr_law_draw (by rfl) g_law_draw F_law_draw.kp b_law_draw .nil pass0 (pa_cons (pv 0) (pa_cons pe_int pa_nil)))) pa_nil)) (blkOk_by (N := NNames) (own := [("_law_k", 10)]) (sc := defScope sNames) (by decide +kernel)) (fun _ _ _ _ _ => pg_name (i := 10) scNames.nd rfl (Or.inl rfl)) (fun _ _ _ _ _ => pts_nil) (fun _ _ _ _ _ => (pe_ix ix_str (pv 2) (pe_call G_law_draw hr_law_draw (by rfl) g_law_draw F_law_draw.kp b_law_draw .nil pass0 (pa_cons (pv 0) (pa_cons pe_int pa_nil))) (fun _ _ => rfl))))))
      (pss_cut (ps_asg (pe_tup (pa_cons (pe_call G_law_draw hr_law_draw (by rfl) g_law_draw F_law_draw.kp b_law_draw .nil pass0 (pa_cons (pv 0) (pa_cons (pe_callB call_len_str (by rfl) T.mlen PySem.boot_len (pa_cons (pv 5) pa_nil)) pa_nil))) (pa_cons (pe_call G_law_draw hr_law_draw (by rfl) g_law_draw F_law_draw.kp b_law_draw .nil pass0 (pa_cons (pv 0) (pa_cons pe_int pa_nil))) pa_nil))) (pg_tup rfl (pgs_cons (pg_name (i := 6) scNames.nd rfl (.inr rfl)) (pgs_cons (pg_name (i := 7) scNames.nd rfl (.inr rfl)) pgs_nil))))
      (pss_cut (ps_set (i := 8) scNames.nd rfl (.inr rfl) (pe_ix ix_list (pe_lst (pa_cons pe_int (pa_cons pe_int (pa_cons pe_int (pa_cons pe_int (pa_cons pe_int (pa_cons pe_int (pa_cons pe_int (pa_cons pe_int (pa_cons pe_int (pa_cons pe_int (pa_cons pe_int (pa_cons pe_int pa_nil))))))))))))) (pv 3) (fun _ _ => rfl)))
      (pss_cut (ps_set (i := 9) scNames.nd rfl (.inr rfl) (pe_lc (own := [("_law_k", 10)]) (g := gName 10) (tt := tYes) rfl scNames.nd (pi_range1 (by rfl) T.mrange (pa_cons (pv 1) pa_nil)) (blkOk_by (N := NNames) (own := [("_law_k", 10)]) (sc := defScope sNames) (by decide +kernel)) (fun _ _ _ _ _ => pg_name (i := 10) scNames.nd rfl (Or.inl rfl)) (fun _ _ _ _ _ => pts_nil) (fun _ _ _ _ _ => (pe_slice sl_str (pe_slice sl_str (pv 5) (po_some (pe_op op_add (pv 6) pe_int)) po_none) po_none (po_some (pe_call G_law_draw hr_law_draw (by rfl) g_law_draw F_law_draw.kp b_law_draw .nil pass0 (pa_cons (pv 0) (pa_cons pe_int pa_nil))))))))
      (pss_one (ps_ret (pe_lc (own := [("_law_k", 10)]) (g := gName 10) (tt := tYes) rfl scNames.nd (pi_range1 (by rfl) T.mrange (pa_cons (pv 1) pa_nil)) (blkOk_by (N := NNames) (own := [("_law_k", 10)]) (sc := defScope sNames) (by decide +kernel)) (fun _ _ _ _ _ => pg_name (i := 10) scNames.nd rfl (Or.inl rfl)) (fun _ _ _ _ _ => pts_nil) (fun _ _ _ _ _ => (pe_op op_add_str (pe_op op_add_str (pe_slice sl_str (pv 5) po_none (po_some (pv 6))) (pe_ix ix_str (pv 2) (pe_op op_modN (pe_op op_add (pv 7) (pe_op op_mul (pv 8) (pv 10))) pe_int) (fun _ _ => rfl))) (pe_ix (r := rIxL K) ix_list (pv 9) (pv 10) (fun _ _ => rfl))))))))))))))
      , ?_⟩
    refine ⟨_, rfl, a, c, 12, n, rfl, by omega, by omega, by omega, hT, fun t H1 t0 t1 T1 k1 => ?_⟩
    obtain ⟨tn, rfl⟩ := Int.eq_ofNat_of_zero_le t0
    refine ⟨_, rfl, a, c, 5, n + 1, rfl, by omega, by omega, by omega, T1, fun d5 H2 _ _ T2 k2 => ⟨rfl, _, rfl, ite2 (fun _ => ?_) (fun _ => ?_)⟩⟩
    · -- written names
      refine ⟨by show 12 ≤ sizeLine; decide, fun pw npw => ?_⟩
      have hw : (upd H2 pw (.lst (words.map V.str))) pw = some (.lst (words.map V.str)) := upd_same
      have lw : (words.map V.str).length = 12 := rfl
      have ht : tn ≤ (words.map V.str).length := by rw [lw]; omega
      refine ⟨_, rfl, _, rfl, (tn : Int), rfl, pw, words.map V.str, rfl, SqL.of hw, fun c1 n1 => ?_⟩
      have hw1 := upd_at (o := .lst (cutV (words.map V.str) (some (tn : Int)) none)) n1 hw
      refine ⟨_, rfl, _, rfl, (tn : Int), rfl, pw, words.map V.str, rfl, SqL.of hw1, fun c2 n2 => ?_⟩
      rw [cut_from ht, cut_to ht]
      rw [cut_from ht] at n2
      refine ⟨_, _, _, _, rfl, rfl, upd_at n2 upd_same, upd_same, by rw [List.length_drop, List.length_take, lw]; exact small_line (by omega), fun c3 n3 => ?_⟩
      refine ⟨_, rfl, (m : Int), rfl, c3, _, rfl, SqL.of upd_same, fun c4 n4 => ?_⟩
      have l4 : m ≤ ((words.map V.str).drop tn ++ (words.map V.str).take tn).length := by rw [List.length_append, List.length_drop, List.length_take, lw]; omega
      rw [show cutV _ none (some (m : Int)) = _ from cut_to (t := m) l4]
      have lall : (words.drop tn ++ words.take tn).length = 12 := by rw [List.length_append, List.length_drop, List.length_take]; show (12 - tn) + min tn 12 = 12; omega
      refine q c4 ((words.drop tn ++ words.take tn).take m) _ (by rw [List.length_take, lall]; omega) ?_ ?_ ?_ ?_ ?_ ?_
      · intro z hz
        have hz' := List.mem_of_mem_take hz
        rcases List.mem_append.mp hz' with hz' | hz'
        · exact words_low z (List.mem_of_mem_drop hz')
        · exact words_low z (List.mem_of_mem_take hz')
      · refine List.Nodup.sublist (List.take_sublist _ _) ?_
        have e : (words.take tn ++ words.drop tn).Nodup := by rw [List.take_append_drop]; decide +kernel
        exact (List.perm_append_comm.nodup_iff).mp e
      · rw [upd_same, List.map_take, List.map_append, List.map_drop, List.map_take]
      · exact ((((T2.new npw).new n1).new n2).new n3).ne n4
      · exact (((((T2.new npw).new n1).new n2).new n3).new n4).mono (by omega)
      · exact (((((k1.trans k2).new npw).new n1).new n2).new n3).new n4
    -- a drawn base
    refine ⟨fun σ H' => ∃ base : Str, LowN 8 base ∧ 0 < base.length ∧ σ = [some (.ref a), some (.int (m : Int)), some (.str "abcdefghijklmnopqrstuvwxyz"), some (.int (tn : Int)), none, some (.str base), none, none, none, none, none] ∧ Tape H' a c (n + 11) ∧ Keep a H H', ?_, ?_⟩
    · refine ⟨⟨_, rfl⟩, _, rfl, a, c, 8, n + 2, rfl, by omega, by omega, by omega, T2, fun d8 H3 d80 d81 T3 k3 => ⟨_, _, rfl, rfl, 1 + d8, rfl, by omega, by omega, fun D nD => ?_⟩⟩
      have nDa : D ≠ a := T3.ne nD
      have nDc : D ≠ c := T3.nec nD
      refine lc_range (lo := 0) (n := (1 + d8).toNat) (fun i H' => ∃ ys : List Str, ys.length = i ∧ (∀ y ∈ ys, LowN 1 y ∧ y.length = 1) ∧ H' D = some (.lst (ys.map V.str)) ∧ Tape H' a c (n + 3 + i) ∧ Keep a H H')
        ⟨[], rfl, fun y hy => (by cases hy), upd_same, T3.new nD, ((k1.trans k2).trans k3).new nD⟩ ?_ ?_
      · rintro i H' hi ⟨ys, ly, lo, eD, Ti, ki⟩
        refine ⟨rfl, _, rfl, _, rfl, a, c, 26, n + 3 + i, rfl, by omega, by omega, by omega, Ti, fun d H4 d0 d1 T4 k4 => ?_⟩
        obtain ⟨dn, rfl⟩ := Int.eq_ofNat_of_zero_le d0
        obtain ⟨ch, hc, c0, c1⟩ := letter dn (by omega)
        refine ⟨_, _, ch, rfl, rfl, small_line (by decide), atI_nat hc, _, k4 _ _ nDa eD, by rw [List.length_map]; exact Nat.lt_of_lt_of_le (show ys.length < 100 by omega) (small_line (by decide)), ys ++ [⟨#[ch]⟩], by rw [List.length_append, ly]; rfl, ?_, ?_, ?_, ?_⟩
        · intro y hy
          rcases List.mem_append.mp hy with hy | hy
          · exact lo y hy
          · rw [List.mem_singleton.mp hy]; exact ⟨one_low ⟨c0, c1⟩, rfl⟩
        · rw [upd_same, List.map_append]; rfl
        · exact (T4.upd nDa nDc).mono (by omega)
        · exact fun x o nx e => by rw [upd_ne (ne_of_none (k1 x o nx e |> k2 x o nx |> k3 x o nx) nD)]; exact k4 x o nx (ki x o nx e)
      · rintro H' ⟨ys, ly, lo, eD, Ti, ki⟩
        obtain ⟨b1, b2⟩ := base_low lo
        have len1 : ∀ l : List Str, (∀ y ∈ l, LowN 1 y ∧ y.length = 1) → (l.map (·.length)).sum = l.length := fun l => by
          induction l with
          | nil => intro _; rfl
          | cons z r ih => intro h; rw [List.map_cons, List.sum_cons, ih (fun w hw => h w (List.mem_cons_of_mem _ hw)), (h z List.mem_cons_self).2, List.length_cons]; omega
        refine ⟨Str.empty, D, ys, rfl, rfl, .inl (SqL.of eD), ?_, Txt.join Str.empty ys, ?_, ?_, rfl, Ti.mono (by omega), ki⟩
        · rw [len1 ys lo]; show ys.length + ys.length * 0 ≤ 16777216; omega
        · exact ⟨by rw [b2]; omega, b1.2⟩
        · rw [b2]; omega
    rintro σ H5 ⟨base, lb, pb, rfl, T5, k5⟩
    -- at, first
    refine ⟨fun σ H' => ∃ (at_ fst : Nat), at_ < base.length ∧ fst < 26 ∧ σ = [some (.ref a), some (.int (m : Int)), some (.str "abcdefghijklmnopqrstuvwxyz"), some (.int (tn : Int)), none, some (.str base), some (.int (at_ : Int)), some (.int (fst : Int)), none, none, none] ∧ Tape H' a c (n + 13) ∧ Keep a H H', ?_, ?_⟩
    · have lb8 := lb.1
      refine ⟨_, rfl, _, rfl, base, rfl, small_line (by omega), a, c, base.length, n + 11, rfl, by omega, by omega, by omega, T5, fun d6 H6 d60 d61 T6 k6 => ?_⟩
      refine ⟨_, rfl, a, c, 26, n + 12, rfl, by omega, by omega, by omega, T6, fun d7 H7 d70 d71 T7 k7 => ⟨by show 2 ≤ sizeLine; decide, fun pt npt => ?_⟩⟩
      obtain ⟨m6, rfl⟩ := Int.eq_ofNat_of_zero_le d60
      obtain ⟨m7, rfl⟩ := Int.eq_ofNat_of_zero_le d70
      exact ⟨pt, _, rfl, .inl (.inl upd_same), rfl, _, _, rfl, _, _, rfl, rfl, m6, m7, by omega, by omega, rfl, (T7.new npt).mono (by omega), ((k5.trans k6).trans k7).new npt⟩
    rintro σ H8 ⟨at_, fst, hat, hfst, rfl, T8, k8⟩
    -- step
    refine ⟨fun σ H' => ∃ st : Int, st ∈ steps ∧ σ = [some (.ref a), some (.int (m : Int)), some (.str "abcdefghijklmnopqrstuvwxyz"), some (.int (tn : Int)), none, some (.str base), some (.int (at_ : Int)), some (.int (fst : Int)), some (.int st), none, none] ∧ Tape H' a c (n + 13) ∧ Keep a H H', ?_, ?_⟩
    · refine ⟨by show 12 ≤ sizeLine; decide, fun pl npl => ?_⟩
      have hst : ∃ st : Int, ([.int 1, .int 3, .int 5, .int 7, .int 9, .int 11, .int 15, .int 17, .int 19, .int 21, .int 23, .int 25] : List V)[tn]? = some (.int st) ∧ st ∈ steps := by
        have ht12 : tn < 12 := by omega
        have : ∀ j : Nat, j < 12 → ∃ st : Int, ([.int 1, .int 3, .int 5, .int 7, .int 9, .int 11, .int 15, .int 17, .int 19, .int 21, .int 23, .int 25] : List V)[j]? = some (.int st) ∧ st ∈ steps
          | 0, _ => ⟨_, rfl, by decide⟩ | 1, _ => ⟨_, rfl, by decide⟩ | 2, _ => ⟨_, rfl, by decide⟩ | 3, _ => ⟨_, rfl, by decide⟩
          | 4, _ => ⟨_, rfl, by decide⟩ | 5, _ => ⟨_, rfl, by decide⟩ | 6, _ => ⟨_, rfl, by decide⟩ | 7, _ => ⟨_, rfl, by decide⟩
          | 8, _ => ⟨_, rfl, by decide⟩ | 9, _ => ⟨_, rfl, by decide⟩ | 10, _ => ⟨_, rfl, by decide⟩ | 11, _ => ⟨_, rfl, by decide⟩
          | n + 12, h => absurd h (by omega)
        exact this tn ht12
      obtain ⟨st, hst, s0⟩ := hst
      exact ⟨_, rfl, pl, _, (tn : Int), _, rfl, rfl, SqL.of upd_same, atI_nat hst, st, s0, rfl, T8.new npl, k8.new npl⟩
    rintro σ H9 ⟨st, hst, rfl, T9, k9⟩
    have hst0 := steps_pos hst
    -- ends
    refine ⟨fun σ H' => ∃ (pe : Addr) (zs : List Str), zs.length = m ∧ (∀ z ∈ zs, LowN (base.length - (at_ + 1)) z) ∧ σ = [some (.ref a), some (.int (m : Int)), some (.str "abcdefghijklmnopqrstuvwxyz"), some (.int (tn : Int)), none, some (.str base), some (.int (at_ : Int)), some (.int (fst : Int)), some (.int st), some (.ref pe), none] ∧ H' pe = some (.lst (zs.map V.str)) ∧ pe ≠ a ∧ Tape H' a c (n + 13 + m) ∧ Keep a H H', ?_, ?_⟩
    · refine ⟨_, rfl, (m : Int), rfl, by omega, by omega, fun D nD => ?_⟩
      have nDa : D ≠ a := T9.ne nD
      have nDc : D ≠ c := T9.nec nD
      refine lc_range (lo := 0) (n := (m : Int).toNat) (fun i H' => ∃ ys : List Str, ys.length = i ∧ (∀ y ∈ ys, LowN (base.length - (at_ + 1)) y) ∧ H' D = some (.lst (ys.map V.str)) ∧ Tape H' a c (n + 13 + i) ∧ Keep a H H')
        ⟨[], rfl, fun y hy => (by cases hy), upd_same, T9.new nD, k9.new nD⟩ ?_ ?_
      · rintro i H' hi ⟨ys, ly, lo, eD, Ti, ki⟩
        have hD0 : H D = none := by
          cases e : H D with
          | none => rfl
          | some o => rw [k9 D o nDa e] at nD; cases nD
        refine ⟨rfl, _, rfl, _, rfl, _, _, rfl, rfl, _, rfl, base, rfl, small_line (by have := lb.1; omega), _, rfl, a, c, 8, n + 13 + i, rfl, by omega, by omega, by omega, Ti, fun d H4 d0 d1 T4 k4 => ?_⟩
        have lc1 : LowN (base.length - (at_ + 1)) (cutS base (some ((at_ : Int) + 1)) none) := cut_after lb hat
        have lc2 : LowN (base.length - (at_ + 1)) (cutS (cutS base (some ((at_ : Int) + 1)) none) none (some d)) := cut_low lc1
        refine ⟨d, rfl, _, rfl, small_line (by have := lc1.1; have := lb.1; omega), _, k4 _ _ nDa eD, by rw [List.length_map]; exact Nat.lt_of_lt_of_le (show ys.length < 100 by omega) (small_line (by decide)), ys ++ [cutS (cutS base (some ((at_ : Int) + 1)) none) none (some d)], by rw [List.length_append, ly]; rfl, ?_, ?_, ?_, ?_⟩
        · intro y hy
          rcases List.mem_append.mp hy with hy | hy
          · exact lo y hy
          · rw [List.mem_singleton.mp hy]; exact lc2
        · rw [upd_same, List.map_append]; rfl
        · exact (T4.upd nDa nDc).mono (by omega)
        · exact fun x o nx e => by rw [upd_ne (ne_of_none e hD0)]; exact k4 x o nx (ki x o nx e)
      · rintro H' ⟨ys, ly, lo, eD, Ti, ki⟩
        exact ⟨D, ys, by omega, lo, rfl, eD, nDa, Ti.mono (by omega), ki⟩
    rintro σ H10 ⟨pe, zs, lz, lz8, rfl, epe, nea, T10, k10⟩
    refine ⟨_, rfl, (m : Int), rfl, by omega, by omega, fun D nD => ?_⟩
    have nDa : D ≠ a := T10.ne nD
    refine lc_range (lo := 0) (n := (m : Int).toNat) (fun i H' => ∃ ys : List Str, ys.length = i ∧ (∀ y ∈ ys, LowN 8 y) ∧ (∀ k, k < i → ∃ y, ys[k]? = some y ∧ (tl y)[at_]? = some (97 + ((fst : Int) + st * (k : Int)).toNat % 26)) ∧ Same H10 H' ∧ H' D = some (.lst (ys.map V.str)))
      ⟨[], rfl, fun y hy => (by cases hy), fun k hk => absurd hk (Nat.not_lt_zero k), same_upd nD, upd_same⟩ ?_ ?_
    · rintro i H' hi ⟨ys, ly, lo, lk, si, eD⟩
      have hv0 : 0 ≤ (fst : Int) + st * (0 + (i : Int)) := Int.add_nonneg (by omega) (Int.mul_nonneg (by omega) (by omega))
      obtain ⟨e1, e2⟩ := fmod_in (a := (fst : Int) + st * (0 + (i : Int))) (b := 26) (by decide)
      have ej : ((fst : Int) + st * (0 + (i : Int))).fmod 26 = ((((fst : Int) + st * (i : Int)).toNat % 26 : Nat) : Int) := by
        rw [Int.zero_add] at hv0 ⊢
        rw [Int.fmod_eq_emod_of_nonneg _ (by decide)]
        omega
      have hc := letter_at (j := ((fst : Int) + st * (i : Int)).toNat % 26) (Nat.mod_lt _ (by decide))
      have hcl : 97 ≤ 97 + ((fst : Int) + st * (i : Int)).toNat % 26 ∧ 97 + ((fst : Int) + st * (i : Int)).toNat % 26 ≤ 122 := by have := Nat.mod_lt ((fst : Int) + st * (i : Int)).toNat (show 0 < 26 by decide); omega
      generalize hch : 97 + ((fst : Int) + st * (i : Int)).toNat % 26 = ch at hc hcl
      have l1 : LowN at_ (cutS base none (some (at_ : Int))) := cut_before lb hat
      have l2 : LowN (at_ + 1) (cutS base none (some (at_ : Int)) ++ ⟨#[ch]⟩) := app_low l1 (one_low hcl)
      have hz : i < zs.length := by omega
      have hb8 := lb.1
      have l3 : LowN 8 (cutS base none (some (at_ : Int)) ++ ⟨#[ch]⟩ ++ zs[i]) := (app_low l2 (lz8 _ (List.getElem_mem hz))).mono (by omega)
      have gz : (zs.map V.str)[i]? = some (.str zs[i]) := by rw [List.getElem?_map, List.getElem?_eq_getElem hz]; rfl
      refine ⟨rfl, _, rfl, _, rfl, (at_ : Int), rfl, base, rfl, small_line (by omega), _, rfl, _, rfl, _, rfl, _, rfl, _, _, rfl, rfl, .inr ⟨by omega, by omega⟩, _, _, rfl, rfl, _, _, rfl, rfl, (by show (26 : Int) ≠ 0; decide), "abcdefghijklmnopqrstuvwxyz", _, ch, rfl, congrArg V.int ej, small_line (by decide), atI_nat hc, _, _, rfl, rfl, small_line (by have := l1.1; show _ + 1 ≤ 100; omega), _, rfl, _, rfl, pe, zs.map V.str, (i : Int), _, rfl, ?_, SqL.of (si _ _ epe), atI_nat gz, _, _, rfl, rfl, ?_, _, eD, ?_, ys ++ [cutS base none (some (at_ : Int)) ++ ⟨#[ch]⟩ ++ zs[i]], ?_, ?_, ?_, ?_, ?_⟩
      · exact congrArg V.int (by omega)
      · have := l2.1
        have := (lz8 _ (List.getElem_mem hz)).1
        exact small_line (by omega)
      · rw [List.length_map]; exact Nat.lt_of_lt_of_le (show ys.length < 100 by omega) (small_line (by decide))
      · rw [List.length_append, ly]; rfl
      · intro y hy
        rcases List.mem_append.mp hy with hy | hy
        · exact lo y hy
        · rw [List.mem_singleton.mp hy]; exact l3
      · intro k hk
        by_cases e : k = i
        · subst e
          refine ⟨_, by rw [List.getElem?_append_right (by omega), ly, Nat.sub_self]; rfl, ?_⟩
          rw [hch, tl_app, tl_app]
          have la : (tl (cutS base none (some (at_ : Int)))).length = at_ := cut_before_len hat
          rw [List.append_assoc, List.getElem?_append_right (by omega), la, Nat.sub_self]
          rfl
        · obtain ⟨y, h1, h2⟩ := lk k (by omega)
          exact ⟨y, by rw [List.getElem?_append_left (by have := (List.getElem?_eq_some_iff.mp h1).1; exact this)]; exact h1, h2⟩
      · exact fun x o e => by rw [upd_ne (ne_of_none e nD)]; exact si x o e
      · rw [upd_same, List.map_append]; rfl
    · rintro H' ⟨ys, ly, lo, lk, si, eD⟩
      have lm : ys.length = m := by omega
      refine q D ys H' lm lo ?_ eD nDa ((T10.same si).mono (by omega)) (k10.same si)
      rw [List.nodup_iff_pairwise_ne, List.pairwise_iff_getElem]
      intro i j hi hj hij e
      obtain ⟨y1, g1, h1⟩ := lk i (by omega)
      obtain ⟨y2, g2, h2⟩ := lk j (by omega)
      rw [List.getElem?_eq_getElem hi] at g1
      rw [List.getElem?_eq_getElem hj] at g2
      cases g1
      cases g2
      rw [e] at h1
      rw [h1] at h2
      have h3 := Option.some.inj h2
      exact steps_apart hst (f := fst) (i := i) (j := j) (by omega) (by omega) (by omega) (by omega)
end
abbrev sBRows : Stmt := topS 30
abbrev NBRows : List Str := ["_law_tape_here", "_law_names_here", "_law_most", "_law_found", "_law_name", "_law_k"]
theorem scBRows : FnScope NBRows ["_law_tape_here", "_law_names_here"] (defScope sBRows) := ⟨rfl, rfl, rfl, by decide +kernel, rfl, by decide +kernel, by decide +kernel⟩
abbrev sSRow : Stmt := topS 31
abbrev NSRow : List Str := ["_law_tape_here", "_law_many", "_law_most", "_law_k"]
theorem scSRow : FnScope NSRow ["_law_tape_here", "_law_many"] (defScope sSRow) := ⟨rfl, rfl, rfl, by decide +kernel, rfl, by decide +kernel, by decide +kernel⟩
abbrev sDParts : Stmt := topS 32
abbrev NDParts : List Str := ["_law_tape_here", "_law_many"]
theorem scDParts : FnScope NDParts ["_law_tape_here"] (defScope sDParts) := ⟨rfl, rfl, rfl, by decide +kernel, rfl, by decide +kernel, by decide +kernel⟩
abbrev sMade : Stmt := topS 33
abbrev NMade : List Str := ["_law_parts", "_law_name", "_law_bears"]
theorem scMade : FnScope NMade ["_law_parts"] (defScope sMade) := ⟨rfl, rfl, rfl, by decide +kernel, rfl, by decide +kernel, by decide +kernel⟩
/-! ### rows of names and bearings, as the law draws them -/
inductive Rws (H : Hp) : List V → List (Str × Int) → Prop
  | nil : Rws H [] []
  | cons {a : Addr} {r : Str × Int} {xs : List V} {rs : List (Str × Int)} : H a = some (.tup [.str r.1, .int r.2]) → Rws H xs rs → Rws H (.ref a :: xs) (r :: rs)
theorem Rws.len {H : Hp} {xs : List V} {rs : List (Str × Int)} (h : Rws H xs rs) : xs.length = rs.length := by
  induction h with
  | nil => rfl
  | cons _ _ ih => rw [List.length_cons, List.length_cons, ih]
theorem Rws.at {H : Hp} {xs : List V} {rs : List (Str × Int)} (h : Rws H xs rs) : ∀ {i : Nat} {y : V}, xs[i]? = some y → ∃ a r, y = .ref a ∧ rs[i]? = some r ∧ H a = some (.tup [.str r.1, .int r.2]) := by
  induction h with
  | nil => intro i y e; cases e
  | cons e _ ih =>
    intro i y z
    cases i with
    | zero => cases z; exact ⟨_, _, rfl, rfl, e⟩
    | succ i => exact ih z
theorem Rws.at2 {H : Hp} {xs : List V} {rs : List (Str × Int)} (h : Rws H xs rs) {i : Nat} (hi : i < rs.length) : ∃ a, xs[i]? = some (.ref a) ∧ H a = some (.tup [.str rs[i].1, .int rs[i].2]) := by
  have hx : i < xs.length := by rw [h.len]; exact hi
  obtain ⟨a, r, e1, e2, e3⟩ := h.at (List.getElem?_eq_getElem hx)
  rw [List.getElem?_eq_getElem hi] at e2
  cases e2
  exact ⟨a, by rw [List.getElem?_eq_getElem hx, e1], e3⟩
theorem Rws.mono {H H' : Hp} {xs : List V} {rs : List (Str × Int)} (h : Rws H xs rs) (s : ∀ a ts, H a = some (.tup ts) → H' a = some (.tup ts)) : Rws H' xs rs := by
  induction h with
  | nil => exact .nil
  | cons e _ ih => exact .cons (s _ _ e) ih
theorem Rws.app {H : Hp} {xs ys : List V} {rs ss : List (Str × Int)} (h : Rws H xs rs) (h2 : Rws H ys ss) : Rws H (xs ++ ys) (rs ++ ss) := by
  induction h with
  | nil => exact h2
  | cons e _ ih => exact .cons e ih
theorem Rws.set {H : Hp} {xs : List V} {rs : List (Str × Int)} (h : Rws H xs rs) {a : Addr} {r : Str × Int} (ha : H a = some (.tup [.str r.1, .int r.2])) : ∀ j, Rws H (xs.set j (.ref a)) (rs.set j r) := by
  induction h with
  | nil => intro j; exact .nil
  | cons e h2 ih =>
    intro j
    cases j with
    | zero => exact .cons ha h2
    | succ j => exact .cons e (ih j)
/-- boats' rows and spans, in a tuple -/
structure PartsAt (H : Hp) (q r s : Addr) (rows : List (Str × Int)) (spans : List Int) : Prop where
  tp : H q = some (.tup [.ref r, .ref s])
  rw : ∃ xs, H r = some (.lst xs) ∧ Rws H xs rows
  sp : H s = some (.lst (spans.map V.int))
theorem PartsAt.same {H H' : Hp} {q r s : Addr} {rows : List (Str × Int)} {spans : List Int} (h : PartsAt H q r s rows spans) (z : Same H H') : PartsAt H' q r s rows spans := by
  obtain ⟨xs, e1, e2⟩ := h.rw
  exact ⟨z _ _ h.tp, ⟨xs, z _ _ e1, e2.mono fun a ts e => z _ _ e⟩, z _ _ h.sp⟩
theorem PartsAt.keep {H H' : Hp} {T q r s : Addr} {rows : List (Str × Int)} {spans : List Int} {ys : List V} (h : PartsAt H q r s rows spans) (hT : H T = some (.lst ys)) (k : Keep T H H') (n1 : r ≠ T) (n2 : s ≠ T) : PartsAt H' q r s rows spans := by
  obtain ⟨xs, e1, e2⟩ := h.rw
  exact ⟨k _ _ (ne_of h.tp hT (by intro z; cases z)) h.tp, ⟨xs, k _ _ n1 e1, e2.mono fun a ts e => k _ _ (ne_of e hT (by intro z; cases z)) e⟩, k _ _ n2 h.sp⟩
theorem ixN_nat {n j : Nat} (h : j < n) : ixN n (j : Int) = some j := by
  unfold ixN
  rw [if_pos (by omega), if_pos (by omega)]
  simp
def Bear (b : Int) : Prop := 1 ≤ b ∧ b ≤ 1000000
theorem pickI {xs : List Int} {lo hi : Int} (h : ∀ z ∈ xs, lo ≤ z ∧ z ≤ hi) {j : Nat} {x : V} (e : (xs.map V.int)[j]? = some x) : ∃ z : Int, x = .int z ∧ lo ≤ z ∧ z ≤ hi := by
  rw [List.getElem?_map] at e
  cases e2 : xs[j]? with
  | none => rw [e2] at e; cases e
  | some z => rw [e2] at e; cases e; exact ⟨z, rfl, h z (List.mem_of_getElem? e2)⟩
theorem zip_fst {zs : List Str} {bs : List Int} (h : zs.length ≤ bs.length) : (zs.zip bs).map Prod.fst = zs := by
  rw [List.map_fst_zip]; exact h
def spBRows : Sp := fun vs H Q _ => ∃ (T c np : Addr) (zs : List Str) (n : Nat), vs = [.ref T, .ref np] ∧ H np = some (.lst (zs.map V.str)) ∧ np ≠ T ∧ 1 ≤ zs.length ∧ zs.length ≤ 10 ∧ n < 900000 ∧ Tape H T c n ∧
  ∀ (r : Addr) (xs : List V) (rows : List (Str × Int)) H', rows.map Prod.fst = zs → (∀ x ∈ rows, Bear x.2) → H' r = some (.lst xs) → Rws H' xs rows → r ≠ T → H r = none → Tape H' T c (n + 30) → Keep T H H' → Q (.ref r) H'
def spSRow : Sp := fun vs H Q _ => ∃ (T c : Addr) (m n : Nat), vs = [.ref T, .int (m : Int)] ∧ m ≤ 100 ∧ n < 900000 ∧ Tape H T c n ∧
  ∀ (s : Addr) (spans : List Int) H', spans.length = m → (∀ z ∈ spans, Bear z) → H' s = some (.lst (spans.map V.int)) → s ≠ T → H s = none → Tape H' T c (n + 1 + m) → Keep T H H' → Q (.ref s) H'
def spDParts : Sp := fun vs H Q _ => ∃ (T c : Addr) (n : Nat), vs = [.ref T] ∧ n < 800000 ∧ Tape H T c n ∧
  ∀ (q r s : Addr) (rows : List (Str × Int)) (spans : List Int) H', Good rows spans → (∀ x ∈ rows, Bear x.2) → (∀ x ∈ rows, LowN 8 x.1) → PartsAt H' q r s rows spans → r ≠ T → s ≠ T → Tape H' T c (n + 100) → Keep T H H' → Q (.ref q) H'
def spMade (C CB : Addr) : Sp := fun vs H Q _ => ∃ (q r s : Addr) (rows : List (Str × Int)) (spans : List Int), vs = [.ref q] ∧ PartsAt H q r s rows spans ∧ Good rows spans ∧ ∀ p bl sl H', H bl = none → H sl = none → Same H H' → BrAt C CB H' p bl sl rows spans → Q (.ref p) H'
structure TxtP (mg : Str → Option Value) : Prop where
  mlen : mg "len" = none
  mrange : mg "range" = none
  mlist : mg "list" = none
  misinstance : mg "isinstance" = none
  mint : mg "int" = none
  mbool : mg "bool" = none
  mstr : mg "str" = none
section
variable {P : Program} {w : World} {K : PySem.W.Frag} {mg : Str → Option Value} {base : Heap} {C CB : Addr}
theorem ok_brows {f fD fP : Addr} {fd fdD fdP : FuncData} {k : Nat} (F : Fun K "_law_boat_rows" "_law_boat_rows" sBRows f fd) (T0 : Txt0 mg) (T : TxtP mg)
    (F_law_draw : Fun K "_law_draw" "_law_draw" sDraw fD fdD) (g_law_draw : mg "_law_draw" = some (.ref fD)) (b_law_draw : Binds K fdD ["_law_tape_here", "_law_many"] [])
    (F_law_pick : Fun K "_law_pick" "_law_pick" sPick fP fdP) (g_law_pick : mg "_law_pick" = some (.ref fP)) (b_law_pick : Binds K fdP ["_law_tape_here", "_law_some"] []) :
    FnOk P w K mg base CX0 (k + 3) f fd ["_law_tape_here", "_law_names_here"] spBRows := by
  have G_law_draw : FnOk P w K mg base CX0 (k + 2) fD fdD ["_law_tape_here", "_law_many"] spDraw := ok_draw F_law_draw T0
  have G_law_pick : FnOk P w K mg base CX0 (k + 2) fP fdP ["_law_tape_here", "_law_some"] spPick := ok_pick F_law_pick T0 F_law_draw g_law_draw b_law_draw
  refine F.ok scBRows (fun vs H Q E h => ?_) (fun cdv A outer s H vs Q E hr h => ?_)
  · obtain ⟨a, c, np, zs, n, rfl, _⟩ := h
    rfl
  · obtain ⟨a, c, np, zs, n, rfl, hnp, nna, hz1, hz10, hn, hT, q⟩ := h
    have hr_law_draw := hr
    have hr_law_pick := hr
    refine ⟨_,
      (pss_cons (ps_set (i := 2) scBRows.nd rfl (.inr rfl) (pe_call G_law_pick hr_law_pick (by rfl) g_law_pick F_law_pick.kp b_law_pick .nil pass0 (pa_cons (pv 0) (pa_cons (pe_lst (pa_cons pe_int (pa_cons pe_int (pa_cons pe_int (pa_cons (pe_op op_pow pe_int pe_int) pa_nil))))) pa_nil))))
      (pss_cut (ps_set (i := 3) scBRows.nd rfl (.inr rfl) (pe_lc (own := [("_law_name", 4)]) (g := gName 4) (tt := tYes) rfl scBRows.nd (pi_list (pv 1)) (blkOk_by (N := NBRows) (own := [("_law_name", 4)]) (sc := defScope sBRows) (by decide +kernel)) (fun _ _ _ _ _ => pg_name (i := 4) scBRows.nd rfl (Or.inl rfl)) (fun _ _ _ _ _ => pts_nil) (fun _ _ _ _ _ => (pe_tup (pa_cons (pv 4) (pa_cons (pe_op op_add pe_int (pe_call G_law_draw hr_law_draw (by rfl) g_law_draw F_law_draw.kp b_law_draw .nil pass0 (pa_cons (pv 0) (pa_cons (pv 2) pa_nil)))) pa_nil))))))
      (pss_cut (ps_if (pt_cmpR op_eq (pe_call G_law_draw hr_law_draw (by rfl) g_law_draw F_law_draw.kp b_law_draw .nil pass0 (pa_cons (pv 0) (pa_cons pe_int pa_nil))) pe_int (nomark _))
      (pss_cut (ps_asg (pe_tup (pa_cons (pe_ix ix_list (pv 1) pe_int (fun _ _ => rfl)) (pa_cons (pe_op op_pow pe_int pe_int) pa_nil))) (pg_sub (pv 3) (pe_call G_law_draw hr_law_draw (by rfl) g_law_draw F_law_draw.kp b_law_draw .nil pass0 (pa_cons (pv 0) (pa_cons (pe_callB call_len_seq (by rfl) T.mlen PySem.boot_len (pa_cons (pv 3) pa_nil)) pa_nil))) set_list))
      (pss_one (ps_set (i := 3) scBRows.nd rfl (.inr rfl) (pe_lc (own := [("_law_k", 5)]) (g := gName 5) (tt := tYes) rfl scBRows.nd (pi_range1 (by rfl) T.mrange (pa_cons (pe_callB call_len_seq (by rfl) T.mlen PySem.boot_len (pa_cons (pv 1) pa_nil)) pa_nil)) (blkOk_by (N := NBRows) (own := [("_law_k", 5)]) (sc := defScope sBRows) (by decide +kernel)) (fun _ _ _ _ _ => pg_name (i := 5) scBRows.nd rfl (Or.inl rfl)) (fun _ _ _ _ _ => pts_nil) (fun _ _ _ _ _ => (pe_tup (pa_cons (pe_ix (r := rIxL K) ix_list (pv 1) (pv 5) (fun _ _ => rfl)) (pa_cons (pe_ix (r := rIxT K) ix_tup (pe_ix (r := rIxL K) ix_list (pv 3) (pv 5) (fun _ _ => rfl)) pe_int (fun _ _ => rfl)) pa_nil))))))))
      pss_nil)
      (pss_one (ps_ret (pv 3))))))
      , ?_⟩
    refine ⟨_, rfl, _, _, rfl, rfl, ⟨by decide, by decide, by decide⟩, by show 4 ≤ sizeLine; decide, fun l hl => ?_⟩
    refine ⟨a, c, l, _, n, rfl, upd_same, hT.ne hl, by show 0 < 4; decide, by show 4 < 1000000; decide, by omega, hT.new hl, fun j x H1 hx T1 k1 => ?_⟩
    obtain ⟨most, rfl, hm0, hm1⟩ := pickI (xs := [3, 20, 1000, 1000000]) (lo := 3) (hi := 1000000) (by simp) hx
    have k01 : Keep a H H1 := (Keep.refl.new hl).trans k1
    have hnp1 := k01 _ _ nna hnp
    -- found
    refine ⟨fun σ H2 => ∃ (fp : Addr) (xs : List V) (rows : List (Str × Int)), σ = [some (.ref a), some (.ref np), some (.int most), some (.ref fp), none, none] ∧ H2 fp = some (.lst xs) ∧ Rws H2 xs rows ∧ rows.map Prod.fst = zs ∧ (∀ x ∈ rows, Bear x.2) ∧ H fp = none ∧ fp ≠ a ∧ fp ≠ c ∧ Tape H2 a c (n + 11) ∧ Keep a H H2, ?_, ?_⟩
    · refine ⟨_, rfl, np, rfl, ⟨_, SqL.of hnp1⟩, fun D hD => ?_⟩
      have nDa : D ≠ a := T1.ne hD
      have nDc : D ≠ c := T1.nec hD
      have hD0 : H D = none := by
        cases e : H D with
        | none => rfl
        | some o => have := k01 D o nDa e; rw [hD] at this; cases this
      have nnD : np ≠ D := ne_of_none hnp1 hD
      refine lc_list (K := K) (a := np) (xs := zs.map V.str) (fun i H' => ∃ (xs : List V) (rows : List (Str × Int)), H' D = some (.lst xs) ∧ Rws H' xs rows ∧ rows.map Prod.fst = zs.take i ∧ (∀ x ∈ rows, Bear x.2) ∧ H' np = some (.lst (zs.map V.str)) ∧ Tape H' a c (n + 1 + i) ∧ Keep a H H')
        ⟨[], [], upd_same, .nil, rfl, fun x hx => (by cases hx), upd_at hD hnp1, T1.new hD, k01.new hD⟩ (fun i H' _ ⟨_, _, _, _, _, _, z, _⟩ => SqL.of z) ?_ ?_
      · rintro i y H' hy ⟨xs, rows, eD, hrw, hfst, hbe, hnp', Ti, ki⟩
        rw [List.getElem?_map] at hy
        cases hx : zs[i]? with
        | none => rw [hx] at hy; cases hy
        | some z =>
          rw [hx] at hy
          cases hy
          have hi : i < zs.length := (List.getElem?_eq_some_iff.mp hx).1
          refine ⟨rfl, _, rfl, _, rfl, _, rfl, a, c, most, n + 1 + i, rfl, by omega, by omega, by omega, Ti, fun d H3 d0 d1 T3 k3 => ⟨_, _, rfl, rfl, by show 2 ≤ sizeLine; decide, fun t ht => ?_⟩⟩
          obtain ⟨_, _, _, hTa, _⟩ := Ti.ex
          have eD3 := k3 _ _ nDa eD
          have ntD : t ≠ D := (ne_of_none eD3 ht).symm
          have lxs : xs.length = i := by rw [hrw.len, ← List.length_map (f := Prod.fst), hfst, List.length_take]; omega
          refine ⟨xs, upd_at ht eD3, small100 (by omega), xs ++ [.ref t], rows ++ [(z, 1 + d)], upd_same, ?_, ?_, ?_, ?_, ?_, ?_⟩
          · have h3 : Rws (upd (upd H3 t (.tup [.str z, .int (1 + d)])) D (.lst (xs ++ [.ref t]))) xs rows := hrw.mono fun b ts e => by
              rw [upd_ne (ne_of e eD (by intro z; cases z))]
              exact upd_at ht (k3 _ _ (ne_of e hTa (by intro z; cases z)) e)
            exact h3.app (.cons (by rw [upd_ne ntD]; exact upd_same) .nil)
          · rw [List.map_append, hfst, List.take_succ, hx]; rfl
          · intro x hx
            rcases List.mem_append.mp hx with hx | hx
            · exact hbe x hx
            · rw [List.mem_singleton.mp hx]; exact ⟨by show 1 ≤ 1 + d; omega, by show 1 + d ≤ 1000000; omega⟩
          · rw [upd_ne nnD]; exact upd_at ht (k3 _ _ nna hnp')
          · exact ((T3.new ht).upd nDa nDc).mono (by omega)
          · exact fun x o nx e => by rw [upd_ne (ne_of_none e hD0)]; exact upd_at ht (k3 x o nx (ki x o nx e))
      · rintro H' ⟨xs, rows, eD, hrw, hfst, hbe, hnp', Ti, ki⟩
        rw [List.length_map, List.take_length] at hfst
        rw [List.length_map] at Ti
        exact ⟨D, xs, rows, rfl, eD, hrw, hfst, hbe, hD0, nDa, nDc, Ti.mono (by omega), ki⟩
    rintro σ H2 ⟨fp, xs, rows, rfl, ef, hrw, hfst, hbe, hf0, nfa, nfc, T2, k2⟩
    have lr : rows.length = zs.length := by rw [← hfst, List.length_map]
    have lx := hrw.len
    have hnp2 := k2 _ _ nna hnp
    have nnf : np ≠ fp := ne_of_none hnp hf0
    refine ⟨fun σ H3 => ∃ (fp : Addr) (xs : List V) (rows : List (Str × Int)) (w5 : Option V), σ = [some (.ref a), some (.ref np), some (.int most), some (.ref fp), none, w5] ∧ H3 fp = some (.lst xs) ∧ Rws H3 xs rows ∧ rows.map Prod.fst = zs ∧ (∀ x ∈ rows, Bear x.2) ∧ H fp = none ∧ fp ≠ a ∧ Tape H3 a c (n + 20) ∧ Keep a H H3, ?_, ?_⟩
    · refine ⟨_, rfl, a, c, 6, n + 11, rfl, by omega, by omega, by omega, T2, fun d6 H3 _ _ T3 k3 => ⟨rfl, _, rfl, ite2 (fun _ => ?_) (fun _ => ?_)⟩⟩
      · obtain ⟨_, _, _, hTa, _⟩ := T2.ex
        have hnp3 := k3 _ _ nna hnp2
        have ef3 := k3 _ _ nfa ef
        have hrw3 : Rws H3 xs rows := hrw.mono fun b ts e => k3 _ _ (ne_of e hTa (by intro z; cases z)) e
        have g0 : (zs.map V.str)[0]? = some (.str zs[0]) := by rw [List.getElem?_map, List.getElem?_eq_getElem (show 0 < zs.length by omega)]; rfl
        -- found[..] = (names[0], 10 ** 6)
        refine ⟨fun σ H4 => ∃ (xs' : List V) (rows' : List (Str × Int)), σ = [some (.ref a), some (.ref np), some (.int most), some (.ref fp), none, none] ∧ H4 fp = some (.lst xs') ∧ Rws H4 xs' rows' ∧ rows'.length = rows.length ∧ (∀ x ∈ rows', Bear x.2) ∧ H4 np = some (.lst (zs.map V.str)) ∧ Tape H4 a c (n + 13) ∧ Keep a H H4, ?_, ?_⟩
        · refine ⟨_, rfl, np, _, 0, _, rfl, rfl, SqL.of hnp3, atI_nat g0, _, _, rfl, rfl, ⟨by decide, by decide, by decide⟩, by show 2 ≤ sizeLine; decide, fun t ht => ?_⟩
          have ef4 := upd_at (o := .tup [.str zs[0], .int (10 ^ (6 : Int).toNat)]) ht ef3
          refine ⟨_, rfl, _, rfl, _, rfl, fp, xs, rfl, .inl (SqL.of ef4), a, c, (xs.length : Nat), n + 12, rfl, by omega, by omega, by omega, T3.new ht, fun d H5 d0 d1 T5 k5 => ?_⟩
          obtain ⟨jn, rfl⟩ := Int.eq_ofNat_of_zero_le d0
          have ef5 := k5 _ _ nfa ef4
          have hjl : jn < xs.length := by omega
          have nta : t ≠ a := T3.ne ht
          have ht5 := k5 _ _ nta (upd_same (H := H3) (a := t) (o := .tup [.str zs[0], .int (10 ^ (6 : Int).toNat)]))
          refine ⟨fp, xs, (jn : Int), jn, rfl, rfl, ef5, ixN_nat hjl, xs.set jn (.ref t), rows.set jn (zs[0], 1000000), rfl, upd_same, ?_, List.length_set .., ?_, ?_, ?_, ?_⟩
          · have h6 : Rws (upd H5 fp (.lst (xs.set jn (.ref t)))) xs rows := hrw3.mono fun b ts e => by
              rw [upd_ne (ne_of e ef3 (by intro z; cases z))]
              exact k5 _ _ (ne_of (upd_at ht e) (T3.new (o := .tup [.str zs[0], .int (10 ^ (6 : Int).toNat)]) ht).ex.choose_spec.choose_spec.choose_spec.1 (by intro z; cases z)) (upd_at ht e)
            exact h6.set (r := (zs[0], 1000000)) (by rw [upd_ne (ne_of ht5 ef5 (by intro z; cases z))]; exact ht5) jn
          · intro x hx
            rcases List.mem_or_eq_of_mem_set hx with hx | hx
            · exact hbe x hx
            · rw [hx]; exact ⟨show (1 : Int) ≤ 1000000 by decide, show (1000000 : Int) ≤ 1000000 by decide⟩
          · rw [upd_ne nnf]; exact k5 _ _ nna (upd_at ht hnp3)
          · exact (T5.upd nfa nfc).mono (by omega)
          · exact fun x o nx e => by rw [upd_ne (ne_of_none e hf0)]; exact k5 x o nx (upd_at ht (k3 x o nx (k2 x o nx e)))
        rintro σ H4 ⟨xs', rows', rfl, ef4, hrw4, lr4, hbe4, hnp4, T4, k4⟩
        refine ⟨_, rfl, np, _, rfl, .inl (SqL.of hnp4), _, rfl, by rw [List.length_map]; omega, by rw [List.length_map]; omega, fun D hD => ?_⟩
        have nDa : D ≠ a := T4.ne hD
        have hD0 : H D = none := by
          cases e : H D with
          | none => rfl
          | some o => have := k4 D o nDa e; rw [hD] at this; cases this
        refine lc_range (lo := 0) (n := (((zs.map V.str).length : Nat) : Int).toNat) (fun i H' => ∃ (ys : List V) (rs : List (Str × Int)), H' D = some (.lst ys) ∧ Rws H' ys rs ∧ rs.map Prod.fst = zs.take i ∧ (∀ x ∈ rs, Bear x.2) ∧ Same H4 H')
          ⟨[], [], upd_same, .nil, rfl, fun x hx => (by cases hx), same_upd hD⟩ ?_ ?_
        · rintro i H' hi ⟨ys, rs, eD, hys, hfs, hbr, si⟩
          have hi2 : i < zs.length := by rw [List.length_map] at hi; omega
          have gz : (zs.map V.str)[i]? = some (.str zs[i]) := by rw [List.getElem?_map, List.getElem?_eq_getElem hi2]; rfl
          have hi3 : i < rows'.length := by omega
          obtain ⟨b, gb, hb⟩ := hrw4.at2 hi3
          have lys : ys.length = i := by rw [hys.len, ← List.length_map (f := Prod.fst), hfs, List.length_take]; omega
          refine ⟨rfl, _, rfl, _, rfl, np, _, (i : Int), _, rfl, congrArg V.int (by omega), SqL.of (si _ _ hnp4), atI_nat gz, _, rfl, _, rfl, fp, _, (i : Int), _, rfl, congrArg V.int (by omega), SqL.of (si _ _ ef4), atI_nat gb, b, _, 1, _, rfl, rfl, SqT.of (si _ _ hb), atI_nat (j := 1) rfl, by show 2 ≤ sizeLine; decide, fun t ht => ?_⟩
          have eD' := upd_at (o := .tup [.str zs[i], .int rows'[i].2]) ht eD
          have ntD : t ≠ D := (ne_of_none eD ht).symm
          refine ⟨ys, eD', small100 (by omega), ys ++ [.ref t], rs ++ [(zs[i], rows'[i].2)], upd_same, ?_, ?_, ?_, ?_⟩
          · have h3 : Rws (upd (upd H' t (.tup [.str zs[i], .int rows'[i].2])) D (.lst (ys ++ [.ref t]))) ys rs := hys.mono fun b ts e => by
              rw [upd_ne (ne_of e eD (by intro z; cases z))]
              exact upd_at ht e
            exact h3.app (.cons (by rw [upd_ne ntD]; exact upd_same) .nil)
          · rw [List.map_append, hfs, List.take_succ, List.getElem?_eq_getElem hi2]; rfl
          · intro x hx
            rcases List.mem_append.mp hx with hx | hx
            · exact hbr x hx
            · rw [List.mem_singleton.mp hx]; show Bear rows'[i].2; exact hbe4 _ (List.getElem_mem hi3)
          · exact fun x o e => by rw [upd_ne (ne_of_none e hD)]; exact upd_at ht (si _ _ e)
        · rintro H' ⟨ys, rs, eD, hys, hfs, hbr, si⟩
          have en : (((zs.map V.str).length : Nat) : Int).toNat = zs.length := by rw [List.length_map]; omega
          rw [en, List.take_length] at hfs
          exact ⟨D, ys, rs, none, rfl, eD, hys, hfs, hbr, hD0, nDa, (T4.same si).mono (by omega), k4.same si⟩
      · obtain ⟨_, _, _, hTa, _⟩ := T2.ex
        exact ⟨fp, xs, rows, none, rfl, k3 _ _ nfa ef, hrw.mono fun b ts e => k3 _ _ (ne_of e hTa (by intro z; cases z)) e, hfst, hbe, hf0, nfa, T3.mono (by omega), k2.trans k3⟩
    rintro σ H3 ⟨fp, xs, rows, w5, rfl, ef, hrw, hfst, hbe, hf0, nfa, T3, k3⟩
    exact ⟨_, rfl, q fp xs rows H3 hfst hbe ef hrw nfa hf0 (T3.mono (by omega)) k3⟩
theorem ok_srow {f fD fP : Addr} {fd fdD fdP : FuncData} {k : Nat} (F : Fun K "_law_span_row" "_law_span_row" sSRow f fd) (T0 : Txt0 mg) (T : TxtP mg)
    (F_law_draw : Fun K "_law_draw" "_law_draw" sDraw fD fdD) (g_law_draw : mg "_law_draw" = some (.ref fD)) (b_law_draw : Binds K fdD ["_law_tape_here", "_law_many"] [])
    (F_law_pick : Fun K "_law_pick" "_law_pick" sPick fP fdP) (g_law_pick : mg "_law_pick" = some (.ref fP)) (b_law_pick : Binds K fdP ["_law_tape_here", "_law_some"] []) :
    FnOk P w K mg base CX0 (k + 3) f fd ["_law_tape_here", "_law_many"] spSRow := by
  have G_law_draw : FnOk P w K mg base CX0 (k + 2) fD fdD ["_law_tape_here", "_law_many"] spDraw := ok_draw F_law_draw T0
  have G_law_pick : FnOk P w K mg base CX0 (k + 2) fP fdP ["_law_tape_here", "_law_some"] spPick := ok_pick F_law_pick T0 F_law_draw g_law_draw b_law_draw
  refine F.ok scSRow (fun vs H Q E h => ?_) (fun cdv A outer s H vs Q E hr h => ?_)
  · obtain ⟨a, c, m, n, rfl, _⟩ := h
    rfl
  · obtain ⟨a, c, m, n, rfl, hm, hn, hT, q⟩ := h
    have hr_law_draw := hr
    have hr_law_pick := hr
    refine ⟨_,
      (pss_cons (ps_set (i := 2) scSRow.nd rfl (.inr rfl) (pe_call G_law_pick hr_law_pick (by rfl) g_law_pick F_law_pick.kp b_law_pick .nil pass0 (pa_cons (pv 0) (pa_cons (pe_lst (pa_cons pe_int (pa_cons pe_int (pa_cons pe_int (pa_cons (pe_op op_pow pe_int pe_int) pa_nil))))) pa_nil))))
      (pss_one (ps_ret (pe_lc (own := [("_law_k", 3)]) (g := gName 3) (tt := tYes) rfl scSRow.nd (pi_range1 (by rfl) T.mrange (pa_cons (pv 1) pa_nil)) (blkOk_by (N := NSRow) (own := [("_law_k", 3)]) (sc := defScope sSRow) (by decide +kernel)) (fun _ _ _ _ _ => pg_name (i := 3) scSRow.nd rfl (Or.inl rfl)) (fun _ _ _ _ _ => pts_nil) (fun _ _ _ _ _ => (pe_op op_add pe_int (pe_call G_law_draw hr_law_draw (by rfl) g_law_draw F_law_draw.kp b_law_draw .nil pass0 (pa_cons (pv 0) (pa_cons (pv 2) pa_nil)))))))))
      , ?_⟩
    refine ⟨_, rfl, _, _, rfl, rfl, ⟨by decide, by decide, by decide⟩, by show 4 ≤ sizeLine; decide, fun l hl => ?_⟩
    refine ⟨a, c, l, _, n, rfl, upd_same, hT.ne hl, by show 0 < 4; decide, by show 4 < 1000000; decide, by omega, hT.new hl, fun j x H1 hx T1 k1 => ?_⟩
    obtain ⟨most, rfl, hm0, hm1⟩ := pickI (xs := [3, 20, 1000, 1000000]) (lo := 3) (hi := 1000000) (by simp) hx
    have k01 : Keep a H H1 := (Keep.refl.new hl).trans k1
    refine ⟨_, rfl, (m : Int), rfl, by omega, by omega, fun D hD => ?_⟩
    have nDa : D ≠ a := T1.ne hD
    have nDc : D ≠ c := T1.nec hD
    have hD0 : H D = none := by
      cases e : H D with
      | none => rfl
      | some o => have := k01 D o nDa e; rw [hD] at this; cases this
    refine lc_range (lo := 0) (n := (m : Int).toNat) (fun i H' => ∃ ns : List Int, H' D = some (.lst (ns.map V.int)) ∧ ns.length = i ∧ (∀ z ∈ ns, Bear z) ∧ Tape H' a c (n + 1 + i) ∧ Keep a H H')
      ⟨[], upd_same, rfl, fun x hx => (by cases hx), T1.new hD, k01.new hD⟩ ?_ ?_
    · rintro i H' hi ⟨ns, eD, ln, hb, Ti, ki⟩
      refine ⟨rfl, _, rfl, _, rfl, a, c, most, n + 1 + i, rfl, by omega, by omega, by omega, Ti, fun d H3 d0 d1 T3 k3 => ?_⟩
      refine ⟨_, _, rfl, rfl, _, k3 _ _ nDa eD, by rw [List.length_map]; exact Nat.lt_of_lt_of_le (show ns.length < 1000 by omega) (Nat.le_trans (show 1000 ≤ 100000 by decide) (by decide)), ns ++ [1 + d], by rw [upd_same, List.map_append]; rfl, by rw [List.length_append, ln]; rfl, ?_, (T3.upd nDa nDc).mono (by omega), fun x o nx e => by rw [upd_ne (ne_of_none e hD0)]; exact k3 x o nx (ki x o nx e)⟩
      intro x hx
      rcases List.mem_append.mp hx with hx | hx
      · exact hb x hx
      · rw [List.mem_singleton.mp hx]; exact ⟨by omega, by omega⟩
    · rintro H' ⟨ns, eD, ln, hb, Ti, ki⟩
      exact q D ns H' (by omega) hb eD nDa hD0 (Ti.mono (by omega)) ki
theorem ok_dparts {f fD fP fN fB fS : Addr} {fd fdD fdP fdN fdB fdS : FuncData} {k : Nat} (F : Fun K "_law_drawn_parts" "_law_drawn_parts" sDParts f fd) (T0 : Txt0 mg) (TN : TxtN mg) (T : TxtP mg)
    (F_law_draw : Fun K "_law_draw" "_law_draw" sDraw fD fdD) (g_law_draw : mg "_law_draw" = some (.ref fD)) (b_law_draw : Binds K fdD ["_law_tape_here", "_law_many"] [])
    (F_law_pick : Fun K "_law_pick" "_law_pick" sPick fP fdP) (g_law_pick : mg "_law_pick" = some (.ref fP)) (b_law_pick : Binds K fdP ["_law_tape_here", "_law_some"] [])
    (F_law_names : Fun K "_law_names" "_law_names" sNames fN fdN) (g_law_names : mg "_law_names" = some (.ref fN)) (b_law_names : Binds K fdN ["_law_tape_here", "_law_many"] [])
    (F_law_boat_rows : Fun K "_law_boat_rows" "_law_boat_rows" sBRows fB fdB) (g_law_boat_rows : mg "_law_boat_rows" = some (.ref fB)) (b_law_boat_rows : Binds K fdB ["_law_tape_here", "_law_names_here"] [])
    (F_law_span_row : Fun K "_law_span_row" "_law_span_row" sSRow fS fdS) (g_law_span_row : mg "_law_span_row" = some (.ref fS)) (b_law_span_row : Binds K fdS ["_law_tape_here", "_law_many"] []) :
    FnOk P w K mg base CX0 (k + 4) f fd ["_law_tape_here"] spDParts := by
  have G_law_draw : FnOk P w K mg base CX0 (k + 3) fD fdD ["_law_tape_here", "_law_many"] spDraw := ok_draw F_law_draw T0
  have G_law_pick : FnOk P w K mg base CX0 (k + 3) fP fdP ["_law_tape_here", "_law_some"] spPick := ok_pick F_law_pick T0 F_law_draw g_law_draw b_law_draw
  have G_law_names : FnOk P w K mg base CX0 (k + 3) fN fdN ["_law_tape_here", "_law_many"] spNames := ok_names F_law_names T0 TN F_law_draw g_law_draw b_law_draw
  have G_law_boat_rows : FnOk P w K mg base CX0 (k + 3) fB fdB ["_law_tape_here", "_law_names_here"] spBRows := ok_brows F_law_boat_rows T0 T F_law_draw g_law_draw b_law_draw F_law_pick g_law_pick b_law_pick
  have G_law_span_row : FnOk P w K mg base CX0 (k + 3) fS fdS ["_law_tape_here", "_law_many"] spSRow := ok_srow F_law_span_row T0 T F_law_draw g_law_draw b_law_draw F_law_pick g_law_pick b_law_pick
  refine F.ok scDParts (fun vs H Q E h => ?_) (fun cdv A outer s H vs Q E hr h => ?_)
  · obtain ⟨a, c, n, rfl, _⟩ := h
    rfl
  · obtain ⟨a, c, n, rfl, hn, hT, q⟩ := h
    have hr_law_draw := hr
    have hr_law_pick := hr
    have hr_law_names := hr
    have hr_law_boat_rows := hr
    have hr_law_span_row := hr
    refine ⟨_,
      (pss_cons (ps_set (i := 1) scDParts.nd rfl (.inl rfl) (pe_call G_law_pick hr_law_pick (by rfl) g_law_pick F_law_pick.kp b_law_pick .nil pass0 (pa_cons (pv 0) (pa_cons (pe_lst (pa_cons pe_int (pa_cons pe_int (pa_cons pe_int (pa_cons (pe_op op_add pe_int (pe_call G_law_draw hr_law_draw (by rfl) g_law_draw F_law_draw.kp b_law_draw .nil pass0 (pa_cons (pv 0) (pa_cons pe_int pa_nil)))) (pa_cons pe_int pa_nil)))))) pa_nil))))
      (pss_one (ps_ret (pe_tup (pa_cons (pe_call G_law_boat_rows hr_law_boat_rows (by rfl) g_law_boat_rows F_law_boat_rows.kp b_law_boat_rows .nil pass0 (pa_cons (pv 0) (pa_cons (pe_call G_law_names hr_law_names (by rfl) g_law_names F_law_names.kp b_law_names .nil pass0 (pa_cons (pv 0) (pa_cons (pv 1) pa_nil))) pa_nil))) (pa_cons (pe_call G_law_span_row hr_law_span_row (by rfl) g_law_span_row F_law_span_row.kp b_law_span_row .nil pass0 (pa_cons (pv 0) (pa_cons (pe_op op_add (pv 1) pe_int) pa_nil))) pa_nil))))))
      , ?_⟩
    refine ⟨_, rfl, _, rfl, a, c, 10, n, rfl, by omega, by omega, by omega, hT, fun d H1 d0 d1 T1 k1 => ⟨_, _, rfl, rfl, by show 5 ≤ sizeLine; decide, fun l hl => ?_⟩⟩
    refine ⟨a, c, l, _, n + 1, rfl, upd_same, T1.ne hl, by show 0 < 5; decide, by show 5 < 1000000; decide, by omega, T1.new hl, fun j x H2 hx T2 k2 => ?_⟩
    obtain ⟨mi, rfl, hm0, hm1⟩ := pickI (xs := [1, 2, 3, 1 + d, 10]) (lo := 1) (hi := 10) (by simp; omega) hx
    obtain ⟨m, rfl⟩ := Int.eq_ofNat_of_zero_le (show 0 ≤ mi by omega)
    have k02 : Keep a H H2 := (k1.new hl).trans k2
    refine ⟨_, rfl, _, rfl, _, rfl, a, c, m, n + 2, rfl, by omega, by omega, by omega, T2, fun np zs H3 lz hz8 hnd enp npa T3 k3 => ?_⟩
    refine ⟨a, c, np, zs, n + 42, rfl, enp, npa, by omega, by omega, by omega, T3, fun r xs rows H4 hfst hbe er hrw nra hr0 T4 k4 => ?_⟩
    refine ⟨_, rfl, _, rfl, _, _, rfl, rfl, a, c, m + 1, n + 72, rfl, by omega, by omega, T4, fun s spans H5 lsp hsp es nsa hs0 T5 k5 => ⟨by show 2 ≤ sizeLine; decide, fun t ht => ?_⟩⟩
    obtain ⟨_, _, _, hTa, _⟩ := T4.ex
    have lrows : rows.length = m := by rw [← lz, ← hfst, List.length_map]
    refine q t r s rows spans _ ⟨by omega, by omega, by rw [hfst]; exact hnd, by omega, hsp⟩ hbe (fun x hx => hz8 _ (by rw [← hfst]; exact List.mem_map_of_mem hx)) ⟨upd_same, ⟨xs, upd_at ht (k5 _ _ nra er), hrw.mono fun b ts e => upd_at ht (k5 _ _ (ne_of e hTa (by intro z; cases z)) e)⟩, upd_at ht es⟩ nra nsa ((T5.new ht).mono (by omega)) ((((k02.trans k3).trans k4).trans k5).new ht)
theorem ok_made {f fI fR fB fS fW : Addr} {fd fdI fdR fdB fdS fdW : FuncData} {k : Nat} (F : Fun K "_law_made" "_law_made" sMade f fd) (TB0 : TxtB mg) (TB : BCl K mg C) (TC : BrCl K mg CB) (T : TxtP mg)
    (MBoat : Mk K C fI) (FI : Fun K "__init__" "Boat.__init__" sBInit fI fdI) (bBoat : Binds K fdI ["self", "name", "bears"] [])
    (MBridge : Mk K CB fR) (FR : Fun K "__init__" "Bridge.__init__" sBrInit fR fdR) (bBridge : Binds K fdR ["self", "boats", "spans"] [])
    (F_are_boats : Fun K "_are_boats" "_are_boats" sAreB fB fdB) (g_are_boats : mg "_are_boats" = some (.ref fB)) (b_are_boats : Binds K fdB ["thing"] [])
    (F_are_spans : Fun K "_are_spans" "_are_spans" sAreS fS fdS) (g_are_spans : mg "_are_spans" = some (.ref fS)) (b_are_spans : Binds K fdS ["thing"] [])
    (Fis_whole : Fun K "is_whole" "is_whole" sIsW fW fdW) (gis_whole : mg "is_whole" = some (.ref fW)) (bis_whole : Binds K fdW ["thing", "least", "most"] []) :
    FnOk P w K mg base CX0 (k + 5) f fd ["_law_parts"] (spMade C CB) := by
  have GBoat : FnOk P w K mg base CX0 (k + 1) fI fdI ["self", "name", "bears"] (spBInit C) := ok_binit FI TB
  have GBridge : FnOk P w K mg base CX0 (k + 3) fR fdR ["self", "boats", "spans"] (spBrInit C CB) := ok_brinit FR TB0 TB TC F_are_boats g_are_boats b_are_boats F_are_spans g_are_spans b_are_spans Fis_whole gis_whole bis_whole
  refine F.ok scMade (fun vs H Q E h => ?_) (fun cdv A outer s H vs Q E hr h => ?_)
  · obtain ⟨p, r, s, rows, spans, rfl, _⟩ := h
    rfl
  · obtain ⟨p, r, sp, rows, spans, rfl, hp, hg, q⟩ := h
    have hrBoat : Room (k + 2) _ := hr.mono (by omega)
    have hrBridge : Room (k + 4) _ := hr
    have gCBoat := TB.gC
    have gCBridge := TC.gC
    refine ⟨_,
      (pss_one (ps_ret (pe_make MBridge GBridge hrBridge (by rfl) gCBridge bBridge .nil pass0 (pa_cons (pe_lc (own := [("_law_name", 1), ("_law_bears", 2)]) (g := gTup K 2 (gCons (gName 1) (gCons (gName 2) gNil))) (tt := tYes) rfl scMade.nd (pi_list (pe_ix ix_tup (pv 0) pe_int (fun _ _ => rfl))) (blkOk_by (N := NMade) (own := [("_law_name", 1), ("_law_bears", 2)]) (sc := defScope sMade) (by decide +kernel)) (fun _ _ _ _ _ => pg_tup rfl (pgs_cons (pg_name (i := 1) scMade.nd rfl (Or.inl rfl)) (pgs_cons (pg_name (i := 2) scMade.nd rfl (Or.inl rfl)) pgs_nil))) (fun _ _ _ _ _ => pts_nil) (fun _ _ _ _ _ => (pe_make MBoat GBoat hrBoat (by rfl) gCBoat bBoat .nil pass0 (pa_cons (pv 1) (pa_cons (pv 2) pa_nil))))) (pa_cons (pe_callTy call_list_of (by rfl) T.mlist (by decide +kernel) (pa_cons (pe_ix ix_tup (pv 0) pe_int (fun _ _ => rfl)) pa_nil)) pa_nil)))))
      , ?_⟩
    obtain ⟨xs, er, hrw⟩ := hp.rw
    have hlx := hrw.len
    refine ⟨_, rfl, p, _, 0, _, rfl, rfl, SqT.of hp.tp, atI_nat (j := 0) rfl, r, rfl, ⟨_, SqL.of er⟩, fun D hD => ?_⟩
    refine lc_list (K := K) (a := r) (xs := xs) (fun i H' => ∃ ys, H' D = some (.lst ys) ∧ Boats C H' ys (rows.take i) ∧ ys.length = i ∧ Same H H')
      ⟨[], upd_same, .nil, rfl, same_upd hD⟩ (fun i H' _ ⟨_, _, _, _, z⟩ => SqL.of (z _ _ er)) ?_ ?_
    · rintro i y H' hy ⟨ys, eD, hys, ly, si⟩
      obtain ⟨b, x, rfl, hx, hb⟩ := hrw.at hy
      have hi : i < xs.length := (List.getElem?_eq_some_iff.mp hy).1
      refine ⟨b, _, rfl, SqT.of (si _ _ hb), rfl, _, _, rfl, _, _, rfl, rfl, rfl, _, rfl, _, rfl, ?_⟩
      intro x1 dx1 hx1 hdx1 ne1
      refine ⟨x1, dx1, x.1, x.2, rfl, upd_same, fun H2 hb2 k2 => ⟨rfl, ?_⟩⟩
      have s2 := made_same hx1 hdx1 k2
      have eD2 := s2 _ _ eD
      obtain ⟨dx2, eb2⟩ := hb2
      have nxD : x1 ≠ D := ne_of eb2 eD2 (by intro z; cases z)
      refine ⟨ys, eD2, small100 (by have := hg.l1; omega), ys ++ [.ref x1], upd_same, ?_, by rw [List.length_append, ly]; rfl, fun z o e => by rw [upd_ne (ne_of_none e hD)]; exact s2 _ _ (si _ _ e)⟩
      have h3 : Boats C (upd H2 D (.lst (ys ++ [.ref x1]))) ys (rows.take i) := (hys.same s2).mono fun a dx n b e => by rw [upd_ne (ne_of e eD2 (by intro z; cases z))]; exact e
      rw [List.take_succ, hx]
      exact h3.app (.cons ⟨dx2, by rw [upd_ne nxD]; exact eb2⟩ .nil)
    · rintro H' ⟨ys, eD, hys, ly, si⟩
      rw [hlx, List.take_length] at hys
      refine ⟨_, rfl, p, _, 1, _, rfl, rfl, SqT.of (si _ _ hp.tp), atI_nat (j := 1) rfl, sp, _, rfl, .inl (SqL.of (si _ _ hp.sp)), fun s2 hs2 => ?_⟩
      have ss := same_upd (o := .lst (spans.map V.int)) hs2
      intro x dx hx hdx ne
      have nsx : s2 ≠ x := ne_of_none (upd_same (H := H') (a := s2) (o := .lst (spans.map V.int))) hx
      have nsd : s2 ≠ dx := ne_of_none (upd_same (H := H') (a := s2) (o := .lst (spans.map V.int))) hdx
      have s3 : Same (upd H' s2 (.lst (spans.map V.int))) (upd (upd (upd H' s2 (.lst (spans.map V.int))) dx (.own x)) x (.ins CB dx [])) := fun b o e => by
        rw [upd_ne (ne_of_none e hx), upd_ne (ne_of_none e hdx)]; exact e
      refine ⟨x, dx, D, s2, ys, rows, spans, rfl, upd_same, s3 _ _ (ss _ _ eD), hys.same (ss.trans s3), s3 _ _ upd_same, hg, fun bl sl H2 hbl hsl hbr k2 => ⟨rfl, ?_⟩⟩
      have back : ∀ z, (upd (upd (upd H' s2 (.lst (spans.map V.int))) dx (.own x)) x (.ins CB dx [])) z = none → H z = none := fun z e => by
        cases ez : H z with
        | none => rfl
        | some o => rw [s3 _ _ (ss _ _ (si _ _ ez))] at e; cases e
      have sAll : Same H H2 := fun b o e => k2 b o (ne_of_none (ss _ _ (si _ _ e)) hx) (s3 _ _ (ss _ _ (si _ _ e)))
      exact q x bl sl H2 (back _ hbl) (back _ hsl) sAll hbr
end
abbrev sOdd : Stmt := topS 29
abbrev NOdd : List Str := ["_law_tape_here", "_law_some"]
theorem scOdd : FnScope NOdd ["_law_tape_here"] (defScope sOdd) := ⟨rfl, rfl, rfl, by decide +kernel, rfl, by decide +kernel, by decide +kernel⟩
/-! ### walks over zip within lists; things of any kind, dicts too -/
theorem lc_zip {K : PySem.W.Frag} {a b : Addr} {xs ys : List V} {g : TG} {tt : TT} {te : TE} {vs : List Nat} {σ : L2.St} {H1 : Hp} {D : Addr} {Qd : Hp → Prop} (hlen : xs.length = ys.length) (Pv : Nat → Hp → Prop) (h0 : Pv 0 (upd H1 D (.lst []))) (hl : ∀ i H, i ≤ xs.length → Pv i H → SqL K H a xs ∧ SqL K H b ys)
    (hs : ∀ i x y T H, xs[i]? = some x → ys[i]? = some y → Pv i H → H T = none → g (.ref T) (wipe σ vs) (upd H T (.tup [x, y])) fun σ2 H2 => wipe σ2 vs = wipe σ vs ∧ tt σ2 H2 fun b H3 =>
      if b = true then te σ2 H3 fun y H4 => ∃ acc, H4 D = some (.lst acc) ∧ acc.length < sizeLine ∧ Pv (i + 1) (upd H4 D (.lst (acc ++ [y]))) else Pv (i + 1) H3) (hd : ∀ H, Pv xs.length H → Qd H) :
    ∃ W : Nat → Nat → Hp → Prop, (∃ m, W 0 m (upd H1 D (.lst []))) ∧ ∀ i m H, W i m H →
      ((Itz K a b).stop i H ∧ Qd H) ∨ ((Itz K a b).go i H ∧ ∃ Nx : Hp → Prop, (∀ H', Nx H' → ∃ m', m' < m ∧ W (i + 1) m' H') ∧ ∀ x H', (Itz K a b).yld i H x H' → g x (wipe σ vs) H' fun σ2 H2 => wipe σ2 vs = wipe σ vs ∧ tt σ2 H2 fun b H3 =>
        if b = true then te σ2 H3 fun y H4 => ∃ acc, H4 D = some (.lst acc) ∧ acc.length < sizeLine ∧ Nx (upd H4 D (.lst (acc ++ [y]))) else Nx H3) := by
  refine ⟨fun i m H => m = xs.length - i ∧ i ≤ xs.length ∧ Pv i H, ⟨xs.length, by simp, Nat.zero_le _, h0⟩, ?_⟩
  rintro i m H ⟨rfl, hi, p⟩
  obtain ⟨qx, qy⟩ := hl i H hi p
  by_cases hlt : i < xs.length
  · have hx : xs[i]? = some xs[i] := List.getElem?_eq_getElem hlt
    have hlt2 : i < ys.length := by omega
    have hy : ys[i]? = some ys[i] := List.getElem?_eq_getElem hlt2
    refine .inr ⟨⟨xs, ys, _, _, qx, qy, hx, hy⟩, Pv (i + 1), fun H' p' => ⟨xs.length - (i + 1), by omega, rfl, hlt, p'⟩, fun v H' y => ?_⟩
    obtain ⟨T, x', y', rfl, hT, rfl, f1, f2⟩ := y
    exact hs i x' y' T H (f1 xs qx) (f2 ys qy) p hT
  · have e : i = xs.length := by omega
    subst e
    exact .inl ⟨⟨xs, ys, qx, qy, Or.inl (Nat.le_refl _)⟩, hd H p⟩
/-- a thing without dicts -/
inductive Th (T : Addr) (H : Hp) : V → PyData → Prop
  | non : Th T H .non .none
  | bl (b : Bool) : Th T H (.bl b) (.bool b)
  | int (i : Int) : Th T H (.int i) (.int i)
  | str (x : Str) : Th T H (.str x) (.str x)
  | l0 {a : Addr} : a ≠ T → H a = some (.lst []) → Th T H (.ref a) (.list [])
  | l1 {a : Addr} {v : V} {d : PyData} : a ≠ T → H a = some (.lst [v]) → Th T H v d → Th T H (.ref a) (.list [d])
  | t0 {a : Addr} : a ≠ T → H a = some (.tup []) → Th T H (.ref a) (.tuple [])
  | t1 {a : Addr} {v : V} {d : PyData} : a ≠ T → H a = some (.tup [v]) → Th T H v d → Th T H (.ref a) (.tuple [d])
  | t2 {a : Addr} {v y : V} {d e : PyData} : a ≠ T → H a = some (.tup [v, y]) → Th T H v d → Th T H y e → Th T H (.ref a) (.tuple [d, e])
theorem Th.keep {T : Addr} {H H' : Hp} {v : V} {d : PyData} (h : Th T H v d) (k : Keep T H H') : Th T H' v d := by
  induction h with
  | non => exact .non
  | bl b => exact .bl b
  | int i => exact .int i
  | str x => exact .str x
  | l0 n e => exact .l0 n (k _ _ n e)
  | l1 n e _ ih => exact .l1 n (k _ _ n e) ih
  | t0 n e => exact .t0 n (k _ _ n e)
  | t1 n e _ ih => exact .t1 n (k _ _ n e) ih
  | t2 n e _ _ ih ih2 => exact .t2 n (k _ _ n e) ih ih2
theorem Th.dp {K : PySem.W.Frag} {T : Addr} {H : Hp} {v : V} {d : PyData} (h : Th T H v d) : Dp K H v d := by
  induction h with
  | non => exact .non
  | bl b => exact .bl b
  | int i => exact .int i
  | str x => exact .str x
  | l0 n e => exact .lst (SqL.of e) .nil
  | l1 n e _ ih => exact .lst (SqL.of e) (.cons ih .nil)
  | t0 n e => exact .tup (SqT.of e) .nil
  | t1 n e _ ih => exact .tup (SqT.of e) (.cons ih .nil)
  | t2 n e _ _ ih ih2 => exact .tup (SqT.of e) (.cons ih (.cons ih2 .nil))
/-- a flat dict, texts to ints -/
def dKv (kvs : List (Str × Int)) : List (Key × V) := kvs.map fun p => (.inr p.1, .int p.2)
def dD (kvs : List (Str × Int)) : PyData := .dict (kvs.map fun p => (.str p.1, .int p.2))
def ShowOk (d : PyData) : Prop := d.showable = true ∧ d.shown.length ≤ 1000
inductive Thing (T : Addr) (H : Hp) : V → PyData → Prop
  | th {v : V} {d : PyData} : Th T H v d → SeqAt.shaped d = true → ShowOk d → Thing T H v d
  | dc {a : Addr} {kvs : List (Str × Int)} : a ≠ T → H a = some (.dK (dKv kvs)) → ShowOk (dD kvs) → Thing T H (.ref a) (dD kvs)
theorem Thing.keep {T : Addr} {H H' : Hp} {v : V} {d : PyData} (h : Thing T H v d) (k : Keep T H H') : Thing T H' v d := by
  cases h with
  | th a b c => exact .th (a.keep k) b c
  | dc n e c => exact .dc n (k _ _ n e) c
theorem Thing.same {T : Addr} {H H' : Hp} {v : V} {d : PyData} (h : Thing T H v d) (k : Same H H') : Thing T H' v d := h.keep fun a o _ e => k a o e
theorem Thing.ok {T : Addr} {H : Hp} {v : V} {d : PyData} (h : Thing T H v d) : ShowOk d := by
  cases h with
  | th _ _ c => exact c
  | dc _ _ c => exact c
theorem pairs_read {h : Heap} : ∀ {kvs : List (Str × Int)} {vs : List (Key × Value)}, KV (dKv kvs) vs → PyProof.V.PairsRead h (fun k : Key => match k with | .inl i => PyData.int i | .inr x => PyData.str x) vs (kvs.map fun p => (.str p.1, .int p.2)) []
  | [], _, r => by
    unfold KV dKv at r
    rw [List.map_nil] at r
    cases r
    exact .nil
  | p :: kvs, _, r => by
    unfold KV dKv at r
    rw [List.map_cons] at r
    cases r with
    | @cons a b as bs h1 t =>
      obtain ⟨k, v⟩ := b
      obtain ⟨e1, e2⟩ := h1
      cases (show Sum.inr p.1 = k from e1)
      obtain ⟨tk, rfl⟩ := (show ∃ t, v = Value.int p.2 t from e2)
      exact .cons (as := []) (.int _ _) (pairs_read (kvs := kvs) t)
theorem dict_reads {P : Program} {w : World} {H : Hp} {h : Heap} {a : Addr} {kvs : List (Str × Int)} (ok : HOk P w H h) (e : H a = some (.dK (dKv kvs))) : Reads h (.ref a) (dD kvs) [a] ∧ a ≠ sysModules := by
  obtain ⟨_, hd, vs, rk, dd⟩ := dk_of ok e
  refine ⟨PyProof.V.reads_dictOf (knd := mixKind P w) (enc := fun k : Key => match k with | .inl i => PyData.int i | .inr x => PyData.str x) (fun k key hk => ?_) dd (pairs_read rk), fun z => ?_⟩
  · rcases keyIs_shape hk with ⟨i, t, rfl, rfl⟩ | ⟨x, t, rfl, rfl⟩
    · exact .int _ _
    · exact .str _ _
  · rw [z] at hd
    exact absurd hd (by simp)
/-- repr(x) of a thing -/
def rReprO : List V → Hp → VK → Prop := fun xs H Q => ∃ x T d, xs = [x] ∧ Thing T H x d ∧ Q (.str d.shown) H
section
variable {X : Cx}
theorem call_reprO {k : Nat} (gd : X.A.guards = some []) (hr : Room k X.A) : CallR X (.builtin "repr") rReprO := by
  intro pins s σ H xs us Q I r h
  obtain ⟨x, T, d, rfl, ht, q⟩ := h
  cases ht with
  | th th sh so => exact call_reprD gd hr pins s σ H [x] us Q I r ⟨x, d, rfl, th.dp, sh, so.1, Nat.le_trans so.2 (by decide), q⟩
  | @dc a kvs n e so =>
    obtain ⟨u, rfl, ru⟩ := Vals.one r
    cases (show u = Value.ref a from ru)
    obtain ⟨rd, ns⟩ := dict_reads I.hok e
    have un := hr.un
    have hdep : (dD kvs).depth ≤ 1 := by
      unfold dD
      rw [PyData.depth]
      have : ∀ l : List (Str × Int), PyData.depthKv (l.map fun p => (PyData.str p.1, PyData.int p.2)) = 0 := by
        intro l
        induction l with
        | nil => simp [PyData.depthKv]
        | cons p l ih => simp [PyData.depthKv, PyData.depth, ih]
      rw [this]
      decide
    exact repr_of_reads' rd so.1 (fun _ => by simpa using Ne.symm ns) gd (by omega) (fun _ _ z => z) (fun h' t' tk hk => ⟨V.str (PyData.shown _), H, I.kept hk, ⟨_, rfl⟩, q⟩) (Nat.le_trans so.2 (by decide))
end
theorem thS {T : Addr} {H : Hp} {v : V} {d : PyData} (h : Th T H v d) (a : SeqAt.shaped d = true) (b : ShowOk d) : ∃ d, Thing T H v d := ⟨d, .th h a b⟩
def spOdd : Sp := fun vs H Q _ => ∃ (T c : Addr) (n : Nat), vs = [.ref T] ∧ n < 900000 ∧ Tape H T c n ∧ ∀ v d H', Thing T H' v d → Tape H' T c (n + 10) → Keep T H H' → Q v H'
section
variable {P : Program} {w : World} {K : PySem.W.Frag} {mg : Str → Option Value} {base : Heap}
theorem ok_odd {f fD fP : Addr} {fd fdD fdP : FuncData} {k : Nat} (F : Fun K "_law_odd" "_law_odd" sOdd f fd) (T0 : Txt0 mg)
    (F_law_draw : Fun K "_law_draw" "_law_draw" sDraw fD fdD) (g_law_draw : mg "_law_draw" = some (.ref fD)) (b_law_draw : Binds K fdD ["_law_tape_here", "_law_many"] [])
    (F_law_pick : Fun K "_law_pick" "_law_pick" sPick fP fdP) (g_law_pick : mg "_law_pick" = some (.ref fP)) (b_law_pick : Binds K fdP ["_law_tape_here", "_law_some"] []) :
    FnOk P w K mg base CX0 (k + 3) f fd ["_law_tape_here"] spOdd := by
  have G_law_pick : FnOk P w K mg base CX0 (k + 2) fP fdP ["_law_tape_here", "_law_some"] spPick := ok_pick F_law_pick T0 F_law_draw g_law_draw b_law_draw
  refine F.ok scOdd (fun vs H Q E h => ?_) (fun cdv A outer s H vs Q E hr h => ?_)
  · obtain ⟨a, c, n, rfl, _⟩ := h
    rfl
  · obtain ⟨a, c, n, rfl, hn, hT, q⟩ := h
    have hr_law_pick := hr
    refine ⟨_,
      (pss_cut (ps_set (i := 1) scOdd.nd rfl (.inl rfl) (pe_lst (pa_cons pe_non (pa_cons pe_bl (pa_cons pe_bl (pa_cons pe_int (pa_cons pe_int (pa_cons (pe_un un_neg pe_int) (pa_cons pe_int (pa_cons (pe_op op_pow pe_int pe_int) (pa_cons pe_str (pa_cons pe_str (pa_cons pe_str (pa_cons pe_str (pa_cons pe_str (pa_cons (pe_tup pa_nil) (pa_cons (pe_lst pa_nil) (pa_cons pe_dnewK (pa_cons (pe_tup (pa_cons pe_int (pa_cons pe_int pa_nil))) (pa_cons (pe_lst (pa_cons pe_int pa_nil)) (pa_cons (pe_lst (pa_cons pe_str pa_nil)) pa_nil)))))))))))))))))))))
      (pss_cut (ps_set (i := 1) scOdd.nd rfl (.inl rfl) (pe_op op_cat (pv 1) (pe_lst (pa_cons (pe_disp (pps_cons pe_str pe_int pps_nil) rfl rfl (by simp) (by decide)) (pa_cons (pe_tup (pa_cons (pe_tup pa_nil) pa_nil)) (pa_cons (pe_lst (pa_cons (pe_lst pa_nil) pa_nil)) (pa_cons (pe_tup (pa_cons pe_int pa_nil)) (pa_cons (pe_tup (pa_cons pe_str (pa_cons pe_int pa_nil))) (pa_cons (pe_lst (pa_cons pe_non pa_nil)) (pa_cons pe_str (pa_cons (pe_tup (pa_cons (pe_tup (pa_cons (pe_tup (pa_cons pe_int pa_nil)) pa_nil)) pa_nil)) (pa_cons (pe_un un_neg (pe_op op_pow pe_int pe_int)) pa_nil))))))))))))
      (pss_one (ps_ret (pe_call G_law_pick hr_law_pick (by rfl) g_law_pick F_law_pick.kp b_law_pick .nil pass0 (pa_cons (pv 0) (pa_cons (pv 1) pa_nil)))))))
      , ?_⟩
    refine ⟨fun σ H1 => ∃ (l : Addr) (xs : List V), σ = [some (.ref a), some (.ref l)] ∧ H1 l = some (.lst xs) ∧ l ≠ a ∧ xs.length = 19 ∧ (∀ x ∈ xs, ∃ d, Thing a H1 x d) ∧ Tape H1 a c n ∧ Keep a H H1, ?_, ?_⟩
    · refine ⟨_, rfl, _, _, rfl, rfl, ⟨by decide, by decide, by decide⟩, (by show 0 ≤ sizeLine; decide), fun t0 ht0 => ⟨by show 0 ≤ sizeLine; decide, fun l0 hl0 => fun dk hdk => ⟨by show 2 ≤ sizeLine; decide, fun t1 ht1 => ⟨by show 1 ≤ sizeLine; decide, fun l1 hl1 => ⟨by show 1 ≤ sizeLine; decide, fun l2 hl2 => ⟨by show 19 ≤ sizeLine; decide, fun ls hls => ?_⟩⟩⟩⟩⟩⟩
      have T1 := hT.new (o := .tup []) ht0
      have T2 := T1.new (o := .lst []) hl0
      have T3 := T2.new (o := .dK []) hdk
      have T4 := T3.new (o := .tup [.int 0, .int 1]) ht1
      have T5 := T4.new (o := .lst [.int 0]) hl1
      have T6 := T5.new (o := .lst [.str "a"]) hl2
      refine ⟨ls, _, rfl, upd_same, T6.ne hls, rfl, ?_, T6.new hls, (((((((Keep.refl.new ht0).new hl0).new hdk).new ht1).new hl1).new hl2).new hls)⟩
      intro x hx
      simp only [List.mem_cons, List.not_mem_nil, or_false] at hx
      have e0 := upd_at (o := .lst [.non, .bl true, .bl false, .int 0, .int 1, .int (-1), .int 7, .int (10 ^ (30 : Int).toNat), .str "", .str "a", .str "A", .str "00:00", .str "1", .ref t0, .ref l0, .ref dk, .ref t1, .ref l1, .ref l2]) hls (upd_at hl2 (upd_at hl1 (upd_at ht1 (upd_at hdk (upd_at hl0 (upd_same (H := H) (a := t0) (o := .tup [])))))))
      rcases hx with rfl | rfl | rfl | rfl | rfl | rfl | rfl | rfl | rfl | rfl | rfl | rfl | rfl | rfl | rfl | rfl | rfl | rfl | rfl
      · exact thS (.non) (by decide +kernel) (by unfold ShowOk; decide +kernel)
      · exact thS (.bl _) (by decide +kernel) (by unfold ShowOk; decide +kernel)
      · exact thS (.bl _) (by decide +kernel) (by unfold ShowOk; decide +kernel)
      · exact thS (.int _) (by decide +kernel) (by unfold ShowOk; decide +kernel)
      · exact thS (.int _) (by decide +kernel) (by unfold ShowOk; decide +kernel)
      · exact thS (.int _) (by decide +kernel) (by unfold ShowOk; decide +kernel)
      · exact thS (.int _) (by decide +kernel) (by unfold ShowOk; decide +kernel)
      · exact thS (.int _) (by decide +kernel) (by unfold ShowOk; decide +kernel)
      · exact thS (.str _) (by decide +kernel) (by unfold ShowOk; decide +kernel)
      · exact thS (.str _) (by decide +kernel) (by unfold ShowOk; decide +kernel)
      · exact thS (.str _) (by decide +kernel) (by unfold ShowOk; decide +kernel)
      · exact thS (.str _) (by decide +kernel) (by unfold ShowOk; decide +kernel)
      · exact thS (.str _) (by decide +kernel) (by unfold ShowOk; decide +kernel)
      · exact thS (.t0 (hT.ne ht0) e0) (by decide +kernel) (by unfold ShowOk; decide +kernel)
      · exact thS (.l0 (T1.ne hl0) (upd_at hls (upd_at hl2 (upd_at hl1 (upd_at ht1 (upd_at hdk upd_same)))))) (by decide +kernel) (by unfold ShowOk; decide +kernel)
      · exact ⟨_, .dc (kvs := []) (T2.ne hdk) (upd_at hls (upd_at hl2 (upd_at hl1 (upd_at ht1 upd_same)))) (by unfold ShowOk; decide +kernel)⟩
      · exact thS (.t2 (T3.ne ht1) (upd_at hls (upd_at hl2 (upd_at hl1 upd_same))) (.int _) (.int _)) (by decide +kernel) (by unfold ShowOk; decide +kernel)
      · exact thS (.l1 (T4.ne hl1) (upd_at hls (upd_at hl2 upd_same)) (.int _)) (by decide +kernel) (by unfold ShowOk; decide +kernel)
      · exact thS (.l1 (T5.ne hl2) (upd_at hls upd_same) (.str _)) (by decide +kernel) (by unfold ShowOk; decide +kernel)
    rintro σ H1 ⟨ls, xs, rfl, els, nls, lxs, hxs, T0', k0⟩
    refine ⟨fun σ H2 => ∃ (l : Addr) (xs : List V), σ = [some (.ref a), some (.ref l)] ∧ H2 l = some (.lst xs) ∧ l ≠ a ∧ xs.length = 28 ∧ (∀ x ∈ xs, ∃ d, Thing a H2 x d) ∧ Tape H2 a c n ∧ Keep a H H2, ?_, ?_⟩
    · refine ⟨_, rfl, fun d1 hd1 => ⟨upd_same, [(.inr "a", .int 1)], rfl, by decide, ?_⟩⟩
      have nd := T0'.ne hd1
      have T1 := (T0'.new (o := .dK []) hd1).upd (o := .dK (mergeK [] [(Sum.inr (Str.ofString "a"), V.int 1)])) nd (T0'.nec hd1)
      have k1 : Keep a H1 (upd (upd H1 d1 (.dK [])) d1 (.dK (mergeK [] [(Sum.inr (Str.ofString "a"), V.int 1)]))) := fun x o nx e => by
        rw [upd_ne (ne_of_none e hd1), upd_ne (ne_of_none e hd1)]; exact e
      have ed : (upd (upd H1 d1 (.dK [])) d1 (.dK (mergeK [] [(Sum.inr (Str.ofString "a"), V.int 1)]))) d1 = some (.dK (dKv [("a", 1)])) := upd_same
      generalize upd (upd H1 d1 (.dK [])) d1 (.dK (mergeK [] [(Sum.inr (Str.ofString "a"), V.int 1)])) = H2 at T1 k1 ed ⊢
      refine ⟨by show 0 ≤ sizeLine; decide, fun u0 hu0 => ⟨by show 1 ≤ sizeLine; decide, fun u1 hu1 => ⟨by show 0 ≤ sizeLine; decide, fun m0 hm0 => ⟨by show 1 ≤ sizeLine; decide, fun m1 hm1 => ⟨by show 1 ≤ sizeLine; decide, fun u2 hu2 => ⟨by show 2 ≤ sizeLine; decide, fun u3 hu3 => ⟨by show 1 ≤ sizeLine; decide, fun m2 hm2 => ⟨by show 1 ≤ sizeLine; decide, fun u4 hu4 => ⟨by show 1 ≤ sizeLine; decide, fun u5 hu5 => ⟨by show 1 ≤ sizeLine; decide, fun u6 hu6 => ?_⟩⟩⟩⟩⟩⟩⟩⟩⟩⟩
      have A1 := T1.new (o := .tup []) hu0
      have A2 := A1.new (o := .tup [.ref u0]) hu1
      have A3 := A2.new (o := .lst []) hm0
      have A4 := A3.new (o := .lst [.ref m0]) hm1
      have A5 := A4.new (o := .tup [.int 1]) hu2
      have A6 := A5.new (o := .tup [.str "a", .int 1]) hu3
      have A7 := A6.new (o := .lst [.non]) hm2
      have A8 := A7.new (o := .tup [.int 1]) hu4
      have A9 := A8.new (o := .tup [.ref u4]) hu5
      have A10 := A9.new (o := .tup [.ref u5]) hu6
      have B1 := k1.new (o := .tup []) hu0
      have B2 := B1.new (o := .tup [.ref u0]) hu1
      have B3 := B2.new (o := .lst []) hm0
      have B4 := B3.new (o := .lst [.ref m0]) hm1
      have B5 := B4.new (o := .tup [.int 1]) hu2
      have B6 := B5.new (o := .tup [.str "a", .int 1]) hu3
      have B7 := B6.new (o := .lst [.non]) hm2
      have B8 := B7.new (o := .tup [.int 1]) hu4
      have B9 := B8.new (o := .tup [.ref u4]) hu5
      have B10 := B9.new (o := .tup [.ref u5]) hu6
      have C10 := upd_same (H := upd (upd (upd (upd (upd (upd (upd (upd (upd H2 u0 (.tup [])) u1 (.tup [.ref u0])) m0 (.lst [])) m1 (.lst [.ref m0])) u2 (.tup [.int 1])) u3 (.tup [.str "a", .int 1])) m2 (.lst [.non])) u4 (.tup [.int 1])) u5 (.tup [.ref u4])) (a := u6) (o := .tup [.ref u5])
      have C9 := upd_at (o := .tup [.ref u5]) hu6 (upd_same (H := upd (upd (upd (upd (upd (upd (upd (upd H2 u0 (.tup [])) u1 (.tup [.ref u0])) m0 (.lst [])) m1 (.lst [.ref m0])) u2 (.tup [.int 1])) u3 (.tup [.str "a", .int 1])) m2 (.lst [.non])) u4 (.tup [.int 1])) (a := u5) (o := .tup [.ref u4]))
      have C8 := upd_at (o := .tup [.ref u5]) hu6 (upd_at (o := .tup [.ref u4]) hu5 (upd_same (H := upd (upd (upd (upd (upd (upd (upd H2 u0 (.tup [])) u1 (.tup [.ref u0])) m0 (.lst [])) m1 (.lst [.ref m0])) u2 (.tup [.int 1])) u3 (.tup [.str "a", .int 1])) m2 (.lst [.non])) (a := u4) (o := .tup [.int 1])))
      have D7 : Keep a (upd (upd (upd (upd (upd (upd (upd H2 u0 (.tup [])) u1 (.tup [.ref u0])) m0 (.lst [])) m1 (.lst [.ref m0])) u2 (.tup [.int 1])) u3 (.tup [.str "a", .int 1])) m2 (.lst [.non])) (upd (upd (upd (upd (upd (upd (upd (upd (upd (upd H2 u0 (.tup [])) u1 (.tup [.ref u0])) m0 (.lst [])) m1 (.lst [.ref m0])) u2 (.tup [.int 1])) u3 (.tup [.str "a", .int 1])) m2 (.lst [.non])) u4 (.tup [.int 1])) u5 (.tup [.ref u4])) u6 (.tup [.ref u5])) := ((Keep.refl.new hu4).new hu5).new hu6
      have C7 := D7 _ _ (A6.ne hm2) upd_same
      have C6 := D7 _ _ (A5.ne hu3) (upd_at hm2 upd_same)
      have C5 := D7 _ _ (A4.ne hu2) (upd_at hm2 (upd_at hu3 upd_same))
      have C4 := D7 _ _ (A3.ne hm1) (upd_at hm2 (upd_at hu3 (upd_at hu2 upd_same)))
      have C3 := D7 _ _ (A2.ne hm0) (upd_at hm2 (upd_at hu3 (upd_at hu2 (upd_at hm1 upd_same))))
      have C2 := D7 _ _ (A1.ne hu1) (upd_at hm2 (upd_at hu3 (upd_at hu2 (upd_at hm1 (upd_at hm0 upd_same)))))
      have C1 := D7 _ _ (T1.ne hu0) (upd_at hm2 (upd_at hu3 (upd_at hu2 (upd_at hm1 (upd_at hm0 (upd_at hu1 upd_same))))))
      have C0 := D7 _ _ nd (upd_at hm2 (upd_at hu3 (upd_at hu2 (upd_at hm1 (upd_at hm0 (upd_at hu1 (upd_at hu0 ed)))))))
      have n0 := T1.ne hu0
      have n1 := A1.ne hu1
      have n2 := A2.ne hm0
      have n3 := A3.ne hm1
      have n4 := A4.ne hu2
      have n5 := A5.ne hu3
      have n6 := A6.ne hm2
      have n7 := A7.ne hu4
      have n8 := A8.ne hu5
      have n9 := A9.ne hu6
      generalize upd (upd (upd (upd (upd (upd (upd (upd (upd (upd H2 u0 (.tup [])) u1 (.tup [.ref u0])) m0 (.lst [])) m1 (.lst [.ref m0])) u2 (.tup [.int 1])) u3 (.tup [.str "a", .int 1])) m2 (.lst [.non])) u4 (.tup [.int 1])) u5 (.tup [.ref u4])) u6 (.tup [.ref u5]) = H3 at A10 B10 C10 C9 C8 C7 C6 C5 C4 C3 C2 C1 C0 ⊢
      refine ⟨_, _, rfl, rfl, ⟨by decide, by decide, by decide⟩, _, rfl, by show 9 ≤ sizeLine; decide, fun m3 hm3 => ?_⟩
      refine ⟨_, _, _, _, rfl, rfl, upd_at hm3 (B10 _ _ nls els), upd_same, small_line (by rw [lxs]; show 19 + 9 ≤ 100; decide), fun p hp => ?_⟩
      have kf : Keep a H3 (upd (upd H3 m3 (.lst [.ref d1, .ref u1, .ref m1, .ref u2, .ref u3, .ref m2, .str "abcdefghi", .ref u6, .int (-10 ^ (9 : Int).toNat)])) p (.lst (xs ++ [.ref d1, .ref u1, .ref m1, .ref u2, .ref u3, .ref m2, .str "abcdefghi", .ref u6, .int (-10 ^ (9 : Int).toNat)]))) := (Keep.refl.new hm3).new hp
      refine ⟨p, _, rfl, upd_same, (A10.new hm3).ne hp, by rw [List.length_append, lxs]; rfl, ?_, (A10.new hm3).new hp, (k0.trans B10).trans kf⟩
      intro x hx
      rcases List.mem_append.mp hx with hx | hx
      · obtain ⟨d, hd⟩ := hxs x hx
        exact ⟨d, (hd.keep B10).keep kf⟩
      have back : (∃ d, Thing a H3 x d) → ∃ d, Thing a (upd (upd H3 m3 (.lst [.ref d1, .ref u1, .ref m1, .ref u2, .ref u3, .ref m2, .str "abcdefghi", .ref u6, .int (-10 ^ (9 : Int).toNat)])) p (.lst (xs ++ [.ref d1, .ref u1, .ref m1, .ref u2, .ref u3, .ref m2, .str "abcdefghi", .ref u6, .int (-10 ^ (9 : Int).toNat)]))) x d := fun ⟨d, z⟩ => ⟨d, z.keep kf⟩
      refine back ?_
      simp only [List.mem_cons, List.not_mem_nil, or_false] at hx
      rcases hx with rfl | rfl | rfl | rfl | rfl | rfl | rfl | rfl | rfl
      · exact ⟨_, .dc nd C0 (by unfold ShowOk; decide +kernel)⟩
      · exact thS (.t1 n1 C2 (.t0 n0 C1)) (by decide +kernel) (by unfold ShowOk; decide +kernel)
      · exact thS (.l1 n3 C4 (.l0 n2 C3)) (by decide +kernel) (by unfold ShowOk; decide +kernel)
      · exact thS (.t1 n4 C5 (.int _)) (by decide +kernel) (by unfold ShowOk; decide +kernel)
      · exact thS (.t2 n5 C6 (.str _) (.int _)) (by decide +kernel) (by unfold ShowOk; decide +kernel)
      · exact thS (.l1 n6 C7 .non) (by decide +kernel) (by unfold ShowOk; decide +kernel)
      · exact thS (.str _) (by decide +kernel) (by unfold ShowOk; decide +kernel)
      · exact thS (.t1 n9 C10 (.t1 n8 C9 (.t1 n7 C8 (.int _)))) (by decide +kernel) (by unfold ShowOk; decide +kernel)
      · exact thS (.int _) (by decide +kernel) (by unfold ShowOk; decide +kernel)
    rintro σ H2 ⟨ls2, xs2, rfl, el2, nl2, lx2, hx2, T2, k2⟩
    refine ⟨_, rfl, _, rfl, a, c, ls2, xs2, n, rfl, el2, nl2, by omega, by omega, by omega, T2, fun j x H3 hx T3 k3 => ?_⟩
    obtain ⟨d, hd⟩ := hx2 x (List.mem_of_getElem? hx)
    exact q x d H3 (hd.keep k3) (T3.mono (by omega)) (k2.trans k3)
end
abbrev sNSInit : Stmt := inClass (topS 4) 0
abbrev NNSInit : List Str := ["self", "at"]
theorem scNSInit : FnScope NNSInit ["self", "at"] (defScope sNSInit) := ⟨rfl, rfl, rfl, by decide +kernel, rfl, by decide +kernel, by decide +kernel⟩
abbrev sRoom : Stmt := topS 14
abbrev NRoom : List Str := ["bridge", "load", "at", "boats", "boat", "many"]
theorem scRoom : FnScope NRoom ["bridge", "load", "at"] (defScope sRoom) := ⟨rfl, rfl, rfl, by decide +kernel, rfl, by decide +kernel, by decide +kernel⟩
/-! ### the room beside a load -/
def sps (rows : List (Str × Int)) (ld : List Int) : List Int := (List.range rows.length).map fun k => 2 * brs rows k - hv ld k
theorem sps_len {rows : List (Str × Int)} {ld : List Int} : (sps rows ld).length = rows.length := by unfold sps; rw [List.length_map, List.length_range]
theorem sps_at {rows : List (Str × Int)} {ld : List Int} {k : Nat} (h : k < rows.length) : (sps rows ld)[k]? = some (2 * brs rows k - hv ld k) := by
  unfold sps
  rw [List.getElem?_map, List.getElem?_range h]
  rfl
def roomL (rows : List (Str × Int)) (spans ld : List Int) (k : Nat) : List Int :=
  (gD spans k - gD ld k) :: ((if 0 < k then [2 * brs rows (k - 1) - hv ld (k - 1)] else []) ++ (if k < rows.length then [2 * brs rows k - hv ld k] else []))
def RoomIs (rows : List (Str × Int)) (spans ld : List Int) (k : Nat) (m : Int) : Prop := m ∈ roomL rows spans ld k ∧ ∀ y ∈ roomL rows spans ld k, m ≤ y
theorem room_one {rows : List (Str × Int)} {spans ld : List Int} {k : Nat} {m n : Int} (a : RoomIs rows spans ld k m) (b : RoomIs rows spans ld k n) : m = n := by
  have h1 := a.2 n b.1
  have h2 := b.2 m a.1
  omega
theorem sps_cut {rows : List (Str × Int)} {ld : List Int} {k : Nat} (h : k ≤ rows.length) (h0 : 1 ≤ rows.length) :
    ((sps rows ld).take (k + 1)).drop (k - 1) = (if 0 < k then [2 * brs rows (k - 1) - hv ld (k - 1)] else []) ++ (if k < rows.length then [2 * brs rows k - hv ld k] else []) := by
  apply List.ext_getElem?
  intro i
  rw [List.getElem?_drop]
  rcases k with _ | k
  · rw [if_neg (by omega), if_pos (by omega), List.nil_append]
    rcases i with _ | i
    · rw [List.getElem?_take_of_lt (by omega), sps_at (by omega)]; rfl
    · rw [List.getElem?_eq_none (by simp; omega), List.getElem?_eq_none (by simp)]
  · rw [if_pos (by omega), Nat.add_sub_cancel]
    rcases i with _ | i
    · rw [List.getElem?_take_of_lt (by omega), sps_at (by omega)]; rfl
    · by_cases c : k + 1 < rows.length
      · rw [if_pos c]
        rcases i with _ | i
        · rw [List.getElem?_take_of_lt (by omega), show k + (0 + 1) = k + 1 by omega, sps_at c]; rfl
        · rw [List.getElem?_eq_none (by simp; omega), List.getElem?_eq_none (by simp)]
      · rw [if_neg c, List.append_nil, List.getElem?_eq_none (by rw [List.length_take, sps_len]; omega), List.getElem?_eq_none (by simp)]
theorem sps_cutV {rows : List (Str × Int)} {ld : List Int} {j : Nat} (h : j ≤ rows.length) (h0 : 1 ≤ rows.length) :
    cutV ((sps rows ld).map V.int) (some (if (0 : Int) > (j : Int) - 1 then 0 else (j : Int) - 1)) (some ((j : Int) + 1)) = ((if 0 < j then [2 * brs rows (j - 1) - hv ld (j - 1)] else []) ++ (if j < rows.length then [2 * brs rows j - hv ld j] else [])).map V.int := by
  rw [← sps_cut h h0]
  have e1 : (if (0 : Int) > (j : Int) - 1 then 0 else (j : Int) - 1) = ((j - 1 : Nat) : Int) := by split <;> omega
  have e2 : (j : Int) + 1 = ((j + 1 : Nat) : Int) := by omega
  rw [e1, e2]
  unfold cutV
  rw [HT.sIx_nat, HT.sIx_nat, List.length_map, sps_len, Nat.min_eq_left (show j - 1 ≤ rows.length by omega), List.map_drop, List.map_take, List.drop_take]
  by_cases c : j + 1 ≤ rows.length
  · rw [Nat.min_eq_left c]
  · rw [Nat.min_eq_right (show rows.length ≤ j + 1 by omega), List.take_of_length_le (by rw [List.length_drop, List.length_map, sps_len]; omega), List.take_of_length_le (by rw [List.length_drop, List.length_map, sps_len]; omega)]
def nsF (x : V) : List (Str × V) := [("at", x)]
def spNSInit (CS : Addr) : Sp := fun vs H Q _ => ∃ (p : Addr) (x : V), vs = [.ref p, x] ∧ H p = some (exo p CS none) ∧ ∀ d H', H d = none → d ≠ p → H' p = some (exo p CS (some d)) → H' d = some (exd d (nsF x)) → (∀ x o, x ≠ p → H x = some o → H' x = some o) → Q .non H'
/-- what is asked of the refusal's class -/
structure SCl (K : PySem.W.Frag) (mg : Str → Option Value) (CS : Addr) : Prop where
  gC : mg "NoSpan" = some (.ref CS)
  oex : OexB K CS
  n1 : PySem.W.findIn K (.ref CS) "at" = some none
  hit : PySem.W.exmOne K (.ref CS) (.ref CS) = some true
/-- no number of a span -/
def BadAt (K : PySem.W.Frag) (H : Hp) (n : Nat) (v : V) : Prop := (∃ i : Int, v = .int i ∧ ¬ (0 ≤ i ∧ i ≤ (n : Int))) ∨ (∃ b, v = .bl b) ∨ ∃ t, TyX K H v t ∧ PySem.W.kitOne K t (.type "int") = some false
def spRoom (K₀ : PySem.W.Frag) (C CB CS : Addr) : Sp := fun vs H Q E => ∃ (p bl sl l : Addr) (v : V) (rows : List (Str × Int)) (spans ld : List Int), vs = [.ref p, .ref l, v] ∧ BrAt C CB H p bl sl rows spans ∧ 1 ≤ rows.length ∧ rows.length ≤ 10 ∧ H l = some (.lst (ld.map V.int)) ∧ ld.length = rows.length + 1 ∧ spans.length = rows.length + 1 ∧
  ((∃ k : Nat, v = .int (k : Nat) ∧ k ≤ rows.length ∧ ∀ m H', Same H H' → RoomIs rows spans ld k m → Q (.int m) H') ∨ (BadAt K₀ H rows.length v ∧ ∀ d H', Same H H' → H' d = some (.xd (nsF v)) → E (.ref CS) (some d) H'))
structure TxtM (mg : Str → Option Value) : Prop where
  mlen : mg "len" = none
  mzip : mg "zip" = none
  mmin : mg "min" = none
  mmax : mg "max" = none
section
variable {P : Program} {w : World} {K : PySem.W.Frag} {mg : Str → Option Value} {base : Heap} {C CB CO CS : Addr}
theorem ok_nsinit {f : Addr} {fd : FuncData} {k : Nat} (F : Fun K "__init__" "NoSpan.__init__" sNSInit f fd) (T : SCl K mg CS) : FnOk P w K mg base CX0 (k + 1) f fd ["self", "at"] (spNSInit CS) := by
  refine F.ok scNSInit (fun vs H Q E h => ?_) (fun cdv A outer s H vs Q E hr h => ?_)
  · obtain ⟨p, x, rfl, _⟩ := h
    rfl
  · obtain ⟨p, x, rfl, hp, q⟩ := h
    refine ⟨_, pss_one (ps_put (pv 0) (pv 1)), ?_⟩
    refine ⟨_, rfl, _, rfl, p, CS, rfl, T.oex, T.n1, .inl ⟨hp, fun d hd ne => ?_⟩⟩
    have np : p ≠ d := Ne.symm ne
    refine q d _ hd ne upd_same (by rw [upd_ne ne]; exact upd_same) fun x o n e => ?_
    have nd : x ≠ d := ne_of_none e hd
    rw [upd_ne n, upd_ne nd]
    exact e
theorem ok_room {f fH fS fX fBo fSp fL fW : Addr} {fd fdH fdS fdX fdBo fdSp fdL fdW : FuncData} {k : Nat} (F : Fun K "room_at" "room_at" sRoom f fd) (TB0 : TxtB mg) (TO : TxtO mg) (TM : TxtM mg) (TB : BCl K mg C) (TC : BrCl K mg CB) (TS : SCl K mg CS)
    (iXNoSpan : PySem.W.findIn K (.ref CS) "__init__" = some (some (.ref fX))) (tXNoSpan : PySem.W.typeIn K (.ref fX) = some (.type "function")) (FX : Fun K "__init__" "NoSpan.__init__" sNSInit fX fdX) (bXNoSpan : Binds K fdX ["self", "at"] [])
    (mboats : Meth K CB "boats" fBo) (FBo : Fun K "boats" "Bridge.boats" sBrBoats fBo fdBo) (bboats : Binds K fdBo ["self"] [])
    (mspans : Meth K CB "spans" fSp) (FSp : Fun K "spans" "Bridge.spans" sBrSpans fSp fdSp) (bspans : Binds K fdSp ["self"] [])
    (mL : Meth K CB "__len__" fL) (FL : Fun K "__len__" "Bridge.__len__" sBrLen fL fdL) (bL : Binds K fdL ["self"] [])
    (Fis_whole : Fun K "is_whole" "is_whole" sIsW fW fdW) (gis_whole : mg "is_whole" = some (.ref fW)) (bis_whole : Binds K fdW ["thing", "least", "most"] [])
    (Fhalves : Fun K "halves" "halves" sHalves fH fdH) (ghalves : mg "halves" = some (.ref fH)) (bhalves : Binds K fdH ["bridge", "load"] [])
    (Fspare : Fun K "spare" "spare" sSpare fS fdS) (gspare : mg "spare" = some (.ref fS)) (bspare : Binds K fdS ["boat", "many"] []) :
    FnOk P w K mg base (L2.CX P w) (k + 5) f fd ["bridge", "load", "at"] (spRoom K C CB CS) := by
  have Gboats : FnOk P w K mg base CX0 (k + 1) fBo fdBo ["self"] (spBrBoats C CB) := ok_brboats FBo TB0 TC
  have Gspans : FnOk P w K mg base CX0 (k + 1) fSp fdSp ["self"] (spBrSpans C CB) := ok_brspans FSp TB0 TC
  have GL : FnOk P w K mg base CX0 (k + 1) fL fdL ["self"] (spBrLen C CB) := ok_brlen FL TB0 TC
  have Ghalves : FnOk P w K mg base CX0 (k + 4) fH fdH ["bridge", "load"] (spHalves C CB) := ok_halves Fhalves TB0 TC TO mL FL bL
  have Gspare : FnOk P w K mg base CX0 (k + 1) fS fdS ["boat", "many"] (spSpare C) := ok_spare Fspare TB
  have Gis_whole : FnOk P w K mg base CX0 (k + 1) fW fdW ["thing", "least", "most"] (spIsW K) := ok_isw Fis_whole TB0
  have GXNoSpan : FnOk P w K mg base CX0 (k + 1) fX fdX ["self", "at"] (spNSInit CS) := ok_nsinit FX TS
  refine F.okX scRoom (fun vs H Q E h => ?_) (fun cdv A outer s H vs Q E hr h => ?_)
  · obtain ⟨p, bl, sl, l, v, rows, spans, ld, rfl, _⟩ := h
    rfl
  · obtain ⟨p, bl, sl, l, v, rows, spans, ld, rfl, hp, hr1, hr10, hl, hld, hsl, q⟩ := h
    have hrboats : Room (k + 1) _ := hr.mono (by omega)
    have hrspans : Room (k + 1) _ := hr.mono (by omega)
    have hrhalves := hr
    have hrspare : Room (k + 1) _ := hr.mono (by omega)
    have hris_whole : Room (k + 1) _ := hr.mono (by omega)
    have hrL : Room (k + 2) _ := hr.mono (by omega)
    have hrXNoSpan : Room (k + 2) _ := hr.mono (by omega)
    have cboats := TC.cl
    have cspans := TC.cl
    have gCNoSpan := TS.gC
    have oxNoSpan := TS.oex
    have T := TM
    refine ⟨_,
      (pss_cons (ps_if (pt_not (pt_val (pe_call Gis_whole hris_whole (by rfl) gis_whole Fis_whole.kp bis_whole .nil pass0 (pa_cons (pv 2) (pa_cons pe_int (pa_cons (pe_callB (call_lenOwn mL.at_ mL.fn GL bL hrL pass0) (by rfl) T.mlen PySem.boot_len (pa_cons (pv 0) pa_nil)) pa_nil))))))
      (pss_one (ps_raise rfl (takes_of rfl rfl rfl rfl) (pmk_oexB oxNoSpan iXNoSpan tXNoSpan GXNoSpan hrXNoSpan bXNoSpan pass0 (by rfl) gCNoSpan (by exact (pa_cons (pv 2) pa_nil)))))
      pss_nil)
      (pss_cut (ps_setLc (i := 3) (own := [("boat", 4), ("many", 5)]) (g := gTup K 2 (gCons (gName 4) (gCons (gName 5) gNil))) (tt := tYes) rfl scRoom.nd rfl rfl (sw_true rfl rfl rfl (by decide +kernel)) (RZ.pi_zipA (by rfl) T.mzip (pa_cons (pe_meth0 (pv 0) cboats mboats Gboats hrboats bboats .nil pass0) (pa_cons (pe_call Ghalves hrhalves (by rfl) ghalves Fhalves.kp bhalves .nil pass0 (pa_cons (pv 0) (pa_cons (pv 1) pa_nil))) pa_nil))) (blkOk_by (N := NRoom) (own := [("boat", 4), ("many", 5)]) (sc := defScope sRoom) (by decide +kernel)) (fun _ _ _ _ _ => pg_tup rfl (pgs_cons (pg_name (i := 4) scRoom.nd rfl (Or.inl rfl)) (pgs_cons (pg_name (i := 5) scRoom.nd rfl (Or.inl rfl)) pgs_nil))) (fun _ _ _ _ _ => pts_nil) (fun _ _ _ _ _ => (pe_call Gspare hrspare (by rfl) gspare Fspare.kp bspare .nil pass0 (pa_cons (pv 4) (pa_cons (pv 5) pa_nil)))))
      (pss_one (ps_ret (pe_callB (cr_min rfl) (by rfl) T.mmin (by decide +kernel) (pa_cons (pe_lst (pa_cons (pe_op op_sub (pe_ix ix_list (pe_meth0 (pv 0) cspans mspans Gspans hrspans bspans .nil pass0) (pv 2) (fun _ _ => rfl)) (pe_ix ix_list (pv 1) (pv 2) (fun _ _ => rfl))) (StX.pa_star (pe_slice sl_list (pv 3) (po_some (pe_callB (call_max2 rfl) (by rfl) T.mmax (by decide +kernel) (pa_cons (pe_op op_sub (pv 2) pe_int) (pa_cons pe_int pa_nil)))) (po_some (pe_op op_add (pv 2) pe_int))) pa_nil))) pa_nil))))))
      , ?_⟩
    obtain ⟨dx, bs0, e1, e2, e3⟩ := hp.ex
    have raise : BadAt K H rows.length v → (∀ d H', Same H H' → H' d = some (.xd (nsF v)) → E (.ref CS) (some d) H') → tMkO CS (spNSInit CS) [] (tCons (tVar 2) tNil) (L2.start NRoom [V.ref p, V.ref l, v]) H fun cls d H' => E cls d H' := by
      intro _ q
      refine ⟨_, rfl, by show 1 ≤ 1000; decide, fun e he => ⟨e, _, rfl, upd_same, fun d H2 hd ne ep ed k => ⟨rfl, d, _, ep, ed, ?_, ?_⟩⟩⟩
      · rw [upd_ne ne] at hd
        exact hd
      · exact q d _ (raise_same same_refl he hd ne k) upd_same
    refine ⟨_, rfl, _, rfl, p, dx, _, rfl, e1, p, bl, sl, rows, spans, rfl, hp, _, rfl, by omega, by omega, v, 0, (rows.length : Int), rfl, ?_⟩
    rcases q with ⟨j, rfl, hj, q⟩ | ⟨bad, q⟩
    case inr =>
      rcases id bad with ⟨i, rfl, hi⟩ | ⟨b, rfl⟩ | ⟨t, ty, hk⟩
      · refine .inl ⟨i, rfl, _, rfl, ?_⟩
        have e : (decide (0 ≤ i) && decide (i ≤ (rows.length : Int))) = false := by
          rw [← Bool.not_eq_true, Bool.and_eq_true, decide_eq_true_eq, decide_eq_true_eq]
          exact hi
        rw [e]
        exact iteT (raise bad q)
      · exact .inr (.inl ⟨b, rfl, _, rfl, iteT (raise bad q)⟩)
      · exact .inr (.inr ⟨t, ty, hk, _, rfl, iteT (raise bad q)⟩)
    refine .inl ⟨(j : Int), rfl, _, rfl, ?_⟩
    rw [show (decide ((0 : Int) ≤ (j : Int)) && decide ((j : Int) ≤ (rows.length : Int))) = true by rw [decide_eq_true (by omega), decide_eq_true (by omega)]; rfl]
    refine iteF ⟨fun σ H1 => ∃ (b : Addr), σ = [some (.ref p), some (.ref l), some (.int (j : Nat)), some (.ref b), none, none] ∧ H1 b = some (.lst ((sps rows ld).map V.int)) ∧ Same H H1, ?_, ?_⟩
    · refine ⟨_, rfl, p, dx, _, rfl, e1, brF_mboats bl sl, p, bl, sl, rows, spans, rfl, hp, fun c bs H1 s1 hc ec hbs => ⟨_, rfl, _, rfl, p, bl, sl, l, rows, spans, ld, rfl, hp.same s1, hr10, s1 _ _ hl, hld, fun h H2 s2 hh eh => ⟨c, h, bs, (hvs ld rows.length).map V.int, rfl, .inl ⟨SqL.of (s2 _ _ ec), SqL.of eh, fun D hD => ?_⟩⟩⟩⟩
      have hbl := hbs.len
      have hvl : (hvs ld rows.length).length = rows.length := by unfold hvs; rw [List.length_map, List.length_range]
      refine lc_zip (K := K) (a := c) (b := h) (xs := bs) (ys := (hvs ld rows.length).map V.int) (by rw [List.length_map, hvl]; exact hbl) (fun i H' => H' D = some (.lst (((sps rows ld).take i).map V.int)) ∧ Same H2 H') ⟨upd_same, same_upd hD⟩ (fun i H' _ ⟨_, z⟩ => ⟨SqL.of (z _ _ (s2 _ _ ec)), SqL.of (z _ _ eh)⟩) ?_ ?_
      · rintro i x y Tt H' hx hy ⟨eD, si⟩ hT
        obtain ⟨a, r, rfl, hr2, ha⟩ := hbs.at hx
        have hi : i < bs.length := (List.getElem?_eq_some_iff.mp hx).1
        have hi2 : i < rows.length := by omega
        rw [hvs_at hi2] at hy
        cases hy
        have st := same_upd (o := .tup [.ref a, .int (hv ld i)]) hT
        obtain ⟨dxa, ea⟩ := ha
        have ha3 : BoatAt C (upd H' Tt (.tup [.ref a, .int (hv ld i)])) a r.1 r.2 := ⟨dxa, st _ _ (si _ _ (s2 _ _ ea))⟩
        have eb := brs_at hr2
        have eD2 := st _ _ eD
        refine ⟨Tt, _, rfl, SqT.of upd_same, rfl, _, _, rfl, _, _, rfl, rfl, rfl, _, rfl, _, rfl, a, r.1, r.2, _, rfl, ha3, _, eD2, ?_, ?_, fun z o e => by rw [upd_ne (ne_of_none e hD)]; exact st _ _ (si _ _ e)⟩
        · rw [List.length_map, List.length_take]; exact small100 (by omega)
        · rw [upd_same, List.take_succ, sps_at hi2, eb]; simp
      · rintro H' ⟨eD, si⟩
        rw [hbl, ← sps_len (rows := rows) (ld := ld), List.take_length] at eD
        exact ⟨D, rfl, eD, s1.trans (s2.trans si)⟩
    rintro σ H1 ⟨b, rfl, eb, s1⟩
    have hlj : j < ld.length := by omega
    have hsj : j < spans.length := by omega
    refine ⟨_, rfl, p, dx, _, rfl, s1 _ _ e1, brF_mspans bl sl, p, bl, sl, rows, spans, rfl, hp.same s1, fun c H2 s2 hc ec => ⟨_, rfl, c, _, (j : Int), _, rfl, rfl, SqL.of ec, atI_nat (gD_v hsj), _, rfl, _, rfl, l, _, (j : Int), _, rfl, rfl, SqL.of (s2 _ _ (s1 _ _ hl)), atI_nat (gD_v hlj), _, _, rfl, rfl, _, rfl, _, rfl, _, _, rfl, rfl, _, _, rfl, _, rfl, _, rfl, _, _, rfl, rfl, _, rfl, b, _, rfl, SqL.of (s2 _ _ eb), fun c2 hc2 => ⟨c2, _, rfl, .inr (SqL.of upd_same), ?_⟩⟩⟩
    rw [sps_cutV (rows := rows) (ld := ld) (by omega) hr1]
    refine ⟨small_line (by show (_ :: (_ ++ [])).length ≤ 100; rw [List.append_nil, List.length_cons, List.length_map, List.length_append]; split <;> split <;> simp), fun p1 hp1 => ⟨p1, roomL rows spans ld j, rfl, SqL.of ?_, by simp [roomL], fun m hm1 hm2 => q m _ ?_ ⟨hm1, hm2⟩⟩⟩
    · rw [upd_same, List.append_nil]; rfl
    · exact (s1.trans s2).trans ((same_upd hc2).trans (same_upd hp1))
end
abbrev sWeights : Stmt := topS 34
abbrev NWeights : List Str := ["_law_tape_here", "_law_parts", "_law_found", "_law_k", "_law_least", "_law_j", "_law_some"]
theorem scWeights : FnScope NWeights ["_law_tape_here", "_law_parts"] (defScope sWeights) := ⟨rfl, rfl, rfl, by decide +kernel, rfl, by decide +kernel, by decide +kernel⟩
def spWeights : Sp := fun vs H Q _ => ∃ (T c q r s : Addr) (rows : List (Str × Int)) (spans : List Int) (n : Nat), vs = [.ref T, .ref q] ∧ PartsAt H q r s rows spans ∧ r ≠ T ∧ s ≠ T ∧ spans.length ≤ 11 ∧ (∀ x ∈ rows, Bear x.2) ∧ (∀ z ∈ spans, Bear z) ∧ n < 800000 ∧ Tape H T c n ∧
  ∀ (l : Addr) (ld : List Int) H', H' l = some (.lst (ld.map V.int)) → ld.length = spans.length → (∀ z ∈ ld, 0 ≤ z ∧ z ≤ 1000000) → l ≠ T → H l = none → Tape H' T c (n + 50) → Keep T H H' → Q (.ref l) H'
structure TxtW (mg : Str → Option Value) : Prop where
  mlen : mg "len" = none
  mrange : mg "range" = none
  mmin : mg "min" = none
section
variable {P : Program} {w : World} {K : PySem.W.Frag} {mg : Str → Option Value} {base : Heap} {C CB CO : Addr}
theorem ok_weights {f fD fP : Addr} {fd fdD fdP : FuncData} {k : Nat} (F : Fun K "_law_weights" "_law_weights" sWeights f fd) (T0 : Txt0 mg) (T : TxtW mg)
    (F_law_draw : Fun K "_law_draw" "_law_draw" sDraw fD fdD) (g_law_draw : mg "_law_draw" = some (.ref fD)) (b_law_draw : Binds K fdD ["_law_tape_here", "_law_many"] [])
    (F_law_pick : Fun K "_law_pick" "_law_pick" sPick fP fdP) (g_law_pick : mg "_law_pick" = some (.ref fP)) (b_law_pick : Binds K fdP ["_law_tape_here", "_law_some"] []) :
    FnOk P w K mg base CX0 (k + 3) f fd ["_law_tape_here", "_law_parts"] spWeights := by
  have G_law_draw : FnOk P w K mg base CX0 (k + 2) fD fdD ["_law_tape_here", "_law_many"] spDraw := ok_draw F_law_draw T0
  have G_law_pick : FnOk P w K mg base CX0 (k + 2) fP fdP ["_law_tape_here", "_law_some"] spPick := ok_pick F_law_pick T0 F_law_draw g_law_draw b_law_draw
  refine F.ok scWeights (fun vs H Q E h => ?_) (fun cdv A outer s H vs Q E hr h => ?_)
  · obtain ⟨a, c, q, r, s, rows, spans, n, rfl, _⟩ := h
    rfl
  · obtain ⟨a, c, p, r, sp, rows, spans, n, rfl, hp, nra, nsa, hs11, hbe, hsb, hn, hT, q⟩ := h
    have hr_law_draw := hr
    have hr_law_pick := hr
    refine ⟨_,
      (pss_cons (ps_set (i := 2) scWeights.nd rfl (.inl rfl) (pe_lst pa_nil))
      (pss_cons (ps_for PassesOwn.never rfl (pi_range1 (by rfl) T.mrange (pa_cons (pe_callB call_len_seq (by rfl) T.mlen PySem.boot_len (pa_cons (pe_ix ix_tup (pv 1) pe_int (fun _ _ => rfl)) pa_nil)) pa_nil)) (pg_name (i := 3) scWeights.nd rfl (.inl rfl))
      (pss_cons (ps_set (i := 4) scWeights.nd rfl (.inl rfl) (pe_ix ix_list (pe_ix ix_tup (pv 1) pe_int (fun _ _ => rfl)) (pv 3) (fun _ _ => rfl)))
      (pss_cut (ps_for PassesOwn.never rfl (pi_tup (pe_tup (pa_cons (pe_op op_sub (pv 3) pe_int) (pa_cons (pv 3) pa_nil)))) (pg_name (i := 5) scWeights.nd rfl (.inl rfl))
      (pss_one (ps_if (pt_chain op_le op_lt pe_int (pv 5) (pe_callB call_len_seq (by rfl) T.mlen PySem.boot_len (pa_cons (pe_ix ix_tup (pv 1) pe_int (fun _ _ => rfl)) pa_nil)))
      (pss_one (ps_set (i := 4) scWeights.nd rfl (.inl rfl) (pe_callB (call_min2 rfl) (by rfl) T.mmin (by decide +kernel) (pa_cons (pv 4) (pa_cons (pe_ix ix_tup (pe_ix ix_list (pe_ix ix_tup (pv 1) pe_int (fun _ _ => rfl)) (pv 5) (fun _ _ => rfl)) pe_int (fun _ _ => rfl)) pa_nil)))))
      pss_nil)))
      (pss_cons (ps_set (i := 6) scWeights.nd rfl (.inl rfl) (pe_lst (pa_cons pe_int (pa_cons pe_int (pa_cons (pe_call G_law_draw hr_law_draw (by rfl) g_law_draw F_law_draw.kp b_law_draw .nil pass0 (pa_cons (pv 0) (pa_cons (pe_op op_add (pv 4) pe_int) pa_nil))) (pa_cons (pv 4) (pa_cons (pe_ix ix_list (pe_ix ix_tup (pv 1) pe_int (fun _ _ => rfl)) (pv 3) (fun _ _ => rfl)) (pa_cons (pe_op op_add (pv 4) pe_int) (pa_cons (pe_op op_add pe_int (pe_call G_law_draw hr_law_draw (by rfl) g_law_draw F_law_draw.kp b_law_draw .nil pass0 (pa_cons (pv 0) (pa_cons (pe_op op_pow pe_int pe_int) pa_nil)))) pa_nil)))))))))
      (pss_one (ps_expr (pe_bm PySem.F.plainAttrs_list PySem.F.slot_list_append PySem.F.type_list_append mt_append (pv 2) (pa_cons (pe_callB (call_min2 rfl) (by rfl) T.mmin (by decide +kernel) (pa_cons (pe_op op_pow pe_int pe_int) (pa_cons (pe_call G_law_pick hr_law_pick (by rfl) g_law_pick F_law_pick.kp b_law_pick .nil pass0 (pa_cons (pv 0) (pa_cons (pv 6) pa_nil))) pa_nil))) pa_nil))))))))
      (pss_one (ps_ret (pv 2)))))
      , ?_⟩
    obtain ⟨xs, er, hrw⟩ := hp.rw
    have hlx := hrw.len
    refine ⟨Nat.zero_le _, fun fp hfp => ?_⟩
    have nfa : fp ≠ a := hT.ne hfp
    have nfc : fp ≠ c := hT.nec hfp
    have T0' := hT.new (o := .lst []) hfp
    have sf := same_upd (o := .lst []) hfp
    refine ⟨_, rfl, p, _, 1, _, rfl, rfl, SqT.of (sf _ _ hp.tp), atI_nat (j := 1) rfl, sp, _, rfl, .inl (SqL.of (sf _ _ hp.sp)), _, rfl, by rw [List.length_map]; omega, by rw [List.length_map]; omega, ?_⟩
    refine for_range (lo := 0) (n := (((spans.map V.int).length : Nat) : Int).toNat) (fun i σ H' => ∃ (v3 v4 v5 v6 : Option V) (ld : List Int), σ = [some (.ref a), some (.ref p), some (.ref fp), v3, v4, v5, v6] ∧ H' fp = some (.lst (ld.map V.int)) ∧ ld.length = i ∧ (∀ z ∈ ld, 0 ≤ z ∧ z ≤ 1000000) ∧ Tape H' a c (n + 3 * i) ∧ Keep a H H')
      ⟨_, _, _, _, [], rfl, upd_same, rfl, fun z hz => (by cases hz), T0', Keep.refl.new hfp⟩ ?_ ?_
    · rintro i σ H' hi ⟨v3, v4, v5, v6, ld, rfl, ef, ll, hld, Ti, ki⟩
      rw [List.length_map] at hi
      have hi2 : i < spans.length := by omega
      obtain ⟨_, _, _, hTa, _⟩ := hT.ex
      have hp' := hp.keep hTa ki nra nsa
      obtain ⟨xs', er', hrw'⟩ := hp'.rw
      have hlx' := hrw'.len
      have hsi := hsb _ (List.mem_of_getElem? (gD_at hi2))
      unfold Bear at hsi
      refine ⟨_, rfl, p, _, 1, _, rfl, rfl, SqT.of hp'.tp, atI_nat (j := 1) rfl, _, rfl, sp, _, (i : Int), _, rfl, congrArg V.int (by omega), SqL.of hp'.sp, atI_nat (gD_v hi2), ?_⟩
      -- the least of the three
      refine ⟨fun σ H1 => ∃ (le : Int) (w5 : Option V), σ = [some (.ref a), some (.ref p), some (.ref fp), some (.int (0 + (i : Int))), some (.int le), w5, v6] ∧ 1 ≤ le ∧ le ≤ 1000000 ∧ Same H' H1, ?_, ?_⟩
      · refine ⟨_, rfl, _, _, rfl, rfl, _, rfl, by show 2 ≤ sizeLine; decide, fun t ht => ⟨t, rfl, ⟨_, SqT.of upd_same⟩, ?_⟩⟩
        have st := same_upd (o := .tup [.int (0 + (i : Int) - 1), .int (0 + (i : Int))]) ht
        refine for_tup (K := K) (a := t) (xs := [.int (0 + (i : Int) - 1), .int (0 + (i : Int))]) (fun j σ H1 => ∃ (le : Int) (w5 : Option V), σ = [some (.ref a), some (.ref p), some (.ref fp), some (.int (0 + (i : Int))), some (.int le), w5, v6] ∧ 1 ≤ le ∧ le ≤ 1000000 ∧ H1 = upd H' t (.tup [.int (0 + (i : Int) - 1), .int (0 + (i : Int))]))
          ⟨_, _, rfl, hsi.1, hsi.2, rfl⟩ (fun j σ H1 _ ⟨_, _, _, _, _, z⟩ => z ▸ SqT.of upd_same) ?_ ?_
        · rintro j y σ H1 hj ⟨le, w5, rfl, l0, l1, rfl⟩
          obtain ⟨z, rfl⟩ : ∃ z : Int, y = .int z := by
            rcases j with _ | _ | j
            · exact ⟨_, (Option.some.inj hj).symm⟩
            · exact ⟨_, (Option.some.inj hj).symm⟩
            · exact absurd hj (by simp)
          refine ⟨_, rfl, _, _, rfl, rfl, _, rfl, ite2 (fun c1 => ?_) (fun _ => ⟨_, rfl, iteF ⟨_, _, rfl, l0, l1, rfl⟩⟩)⟩
          refine ⟨_, rfl, p, _, 0, _, rfl, rfl, SqT.of (st _ _ hp'.tp), atI_nat (j := 0) rfl, r, _, rfl, .inl (SqL.of (st _ _ er')), _, _, rfl, rfl, _, rfl, ite2 (fun c2 => ?_) (fun _ => ⟨_, _, rfl, l0, l1, rfl⟩)⟩
          have z0 : 0 ≤ z := of_decide_eq_true c1
          have z1 : z < (xs'.length : Int) := of_decide_eq_true c2
          obtain ⟨zn, rfl⟩ := Int.eq_ofNat_of_zero_le z0
          have hz : zn < rows.length := by omega
          obtain ⟨b, gb, hb⟩ := hrw'.at2 hz
          have hbb := hbe _ (List.getElem_mem hz)
          unfold Bear at hbb
          refine ⟨_, rfl, _, rfl, p, _, 0, _, rfl, rfl, SqT.of (st _ _ hp'.tp), atI_nat (j := 0) rfl, _, rfl, r, _, (zn : Int), _, rfl, rfl, SqL.of (st _ _ er'), atI_nat gb, b, _, 1, _, rfl, rfl, SqT.of (st _ _ hb), atI_nat (j := 1) rfl, _, _, rfl, ?_⟩
          exact ⟨_, _, rfl, by split <;> omega, by split <;> omega, rfl⟩
        · rintro σ H1 ⟨le, w5, rfl, l0, l1, rfl⟩
          exact ⟨le, w5, rfl, l0, l1, st⟩
      rintro σ H1 ⟨le, w5, rfl, l0, l1, s1⟩
      have T1 := Ti.same s1
      have hp1 := hp'.same s1
      -- what may be drawn
      refine ⟨_, rfl, _, rfl, _, _, rfl, rfl, a, c, le + 1, _, rfl, by omega, by omega, by omega, T1, fun d1 H2 d10 d11 T2 k2 => ?_⟩
      obtain ⟨_, _, _, hTa1, _⟩ := T1.ex
      have hp2 := hp1.keep hTa1 k2 nra nsa
      refine ⟨_, rfl, _, rfl, p, _, 1, _, rfl, rfl, SqT.of hp2.tp, atI_nat (j := 1) rfl, _, rfl, sp, _, (i : Int), _, rfl, congrArg V.int (by omega), SqL.of hp2.sp, atI_nat (gD_v hi2), _, rfl, _, _, rfl, rfl, _, rfl, _, _, rfl, rfl, ⟨by decide, by decide, by decide⟩, a, c, 1000000, _, rfl, by omega, by omega, by omega, T2, fun d2 H3 d20 d21 T3 k3 => ⟨_, _, rfl, rfl, by show 7 ≤ sizeLine; decide, fun l hl => ?_⟩⟩
      have k13 : Keep a H1 H3 := k2.trans k3
      have ef3 := k13 _ _ nfa (s1 _ _ ef)
      have nlf : l ≠ fp := (ne_of_none ef3 hl).symm
      refine ⟨_, rfl, .inl ⟨rfl, _, SqL.of (upd_at hl ef3)⟩, _, _, rfl, rfl, ⟨by decide, by decide, by decide⟩, _, rfl, _, rfl, a, c, l, _, _, rfl, upd_same, T3.ne hl, by show 0 < 7; decide, by show 7 < 1000000; decide, by omega, T3.new hl, fun j x H4 hx T4 k4 => ?_⟩
      obtain ⟨z, rfl, hz0, hz1⟩ := pickI (xs := [0, 0, d1, le, gD spans i, le + 1, 1 + d2]) (lo := 0) (hi := 1000001) (by simp; omega) hx
      have ef4 := k4 _ _ nfa (upd_at hl ef3)
      refine ⟨_, _, rfl, fp, _, _, rfl, rfl, ef4, small100 (by rw [List.length_map]; omega), ?_⟩
      refine ⟨_, _, _, _, ld ++ [if z < 10 ^ (6 : Int).toNat then z else 10 ^ (6 : Int).toNat], rfl, by rw [upd_same, List.map_append]; rfl, by rw [List.length_append, ll]; rfl, ?_, (T4.upd nfa nfc).mono (by omega), ?_⟩
      · intro y hy
        have e6 : (10 : Int) ^ (6 : Int).toNat = 1000000 := by decide
        rcases List.mem_append.mp hy with hy | hy
        · exact hld y hy
        · rw [List.mem_singleton.mp hy, e6]; split <;> omega
      · exact fun x o nx e => by rw [upd_ne (ne_of_none e hfp)]; exact k4 x o nx (upd_at hl (k13 x o nx (s1 _ _ (ki x o nx e))))
    · rintro σ H' ⟨v3, v4, v5, v6, ld, rfl, ef, ll, hld, Ti, ki⟩
      rw [List.length_map] at ll Ti
      exact ⟨_, rfl, q fp ld H' ef (by omega) hld nfa hfp (Ti.mono (by omega)) ki⟩
end
abbrev sEased : Stmt := topS 35
abbrev NEased : List Str := ["_law_parts", "_law_cargo", "_law_found", "_law_k"]
theorem scEased : FnScope NEased ["_law_parts", "_law_cargo"] (defScope sEased) := ⟨rfl, rfl, rfl, by decide +kernel, rfl, by decide +kernel, by decide +kernel⟩
abbrev sLRoom : Stmt := topS 36
abbrev NLRoom : List Str := ["_law_parts", "_law_cargo", "_law_spot", "_law_some"]
theorem scLRoom : FnScope NLRoom ["_law_parts", "_law_cargo", "_law_spot"] (defScope sLRoom) := ⟨rfl, rfl, rfl, by decide +kernel, rfl, by decide +kernel, by decide +kernel⟩
abbrev sLWhole : Stmt := topS 28
abbrev NLWhole : List Str := ["_law_thing"]
theorem scLWhole : FnScope NLWhole ["_law_thing"] (defScope sLWhole) := ⟨rfl, rfl, rfl, by decide +kernel, rfl, by decide +kernel, by decide +kernel⟩
theorem gD_set {l : List Int} {k : Nat} {y : Int} (h : k < l.length) (j : Nat) : gD (l.set k y) j = if j = k then y else gD l j := by
  unfold gD
  rw [List.getD_eq_getElem?_getD, List.getD_eq_getElem?_getD, List.getElem?_set]
  by_cases c : k = j
  · subst c; rw [if_pos rfl, if_pos h, if_pos rfl]; rfl
  · rw [if_neg c, if_neg (Ne.symm c)]
theorem Keep.toSame {e : Addr} {H H' : Hp} (k : Keep e H H') (h : H e = none) : Same H H' := fun x o z => k x o (ne_of_none z h) z
def EasedL (rows : List (Str × Int)) (spans ld : List Int) : Prop := (∀ j, j < spans.length → gD ld j ≤ gD spans j) ∧ ∀ j, j < rows.length → hv ld j ≤ 2 * brs rows j
def spEased : Sp := fun vs H Q _ => ∃ (q r s l : Addr) (rows : List (Str × Int)) (spans ld : List Int), vs = [.ref q, .ref l] ∧ PartsAt H q r s rows spans ∧ H l = some (.lst (ld.map V.int)) ∧ ld.length = spans.length ∧ spans.length = rows.length + 1 ∧ rows.length ≤ 10 ∧
  ∀ e ld' H', Same H H' → H e = none → H' e = some (.lst (ld'.map V.int)) → ld'.length = spans.length → EasedL rows spans ld' → Q (.ref e) H'
def spLRoom : Sp := fun vs H Q _ => ∃ (q r s l : Addr) (rows : List (Str × Int)) (spans ld : List Int) (k : Nat), vs = [.ref q, .ref l, .int (k : Nat)] ∧ PartsAt H q r s rows spans ∧ H l = some (.lst (ld.map V.int)) ∧ ld.length = spans.length ∧ spans.length = rows.length + 1 ∧ rows.length ≤ 10 ∧ k < spans.length ∧
  ∀ m H', Same H H' → RoomIs rows spans ld k m → Q (.int m) H'
def spLWhole2 (K : PySem.W.Frag) : Sp := fun vs H Q _ => ∃ (v : V), vs = [v] ∧ ((∃ i, v = .int i ∧ Q (.bl true) H) ∨ (∃ b, v = .bl b ∧ Q (.bl false) H) ∨ ∃ t, TyX K H v t ∧ PySem.W.kitOne K t (.type "int") = some false ∧ Q (.bl false) H)
structure TxtE (mg : Str → Option Value) : Prop where
  mlen : mg "len" = none
  mrange : mg "range" = none
  mmin : mg "min" = none
  mlist : mg "list" = none
section
variable {P : Program} {w : World} {K : PySem.W.Frag} {mg : Str → Option Value} {base : Heap} {C CB CO CS : Addr}
theorem ok_lwhole2 {f : Addr} {fd : FuncData} {k : Nat} (F : Fun K "_law_is_whole" "_law_is_whole" sLWhole f fd) (T : TxtP mg) : FnOk P w K mg base CX0 (k + 1) f fd ["_law_thing"] (spLWhole2 K) := by
  refine F.ok scLWhole (fun vs H Q E h => ?_) (fun cdv A outer s H vs Q E hr h => ?_)
  · obtain ⟨v, rfl, _⟩ := h
    rfl
  · obtain ⟨v, rfl, h⟩ := h
    refine ⟨_,
      (pss_one (ps_ret (pe_and (pe_callB call_isi (by rfl) T.misinstance (by decide +kernel) (pa_cons (pv 0) (pa_cons (pe_bltn (v := .ty "int") (u := .type "int") (by rfl) T.mint (by decide +kernel) rfl) pa_nil))) (pe_one (pe_not (pe_callB call_isi (by rfl) T.misinstance (by decide +kernel) (pa_cons (pv 0) (pa_cons (pe_bltn (v := .ty "bool") (u := .type "bool") (by rfl) T.mbool (by decide +kernel) rfl) pa_nil))))))))
      , ?_⟩
    rcases h with ⟨i, rfl, q⟩ | ⟨b, rfl, q⟩ | ⟨t, ty, hk, q⟩
    · refine ⟨_, rfl, _, _, _, _, true, rfl, .ty "int", .base (.int _), kit_ty (by decide +kernel), _, rfl, ?_⟩
      exact ⟨_, rfl, _, _, _, _, false, rfl, .ty "bool", .base (.int _), kit_ty (by decide +kernel), _, rfl, q⟩
    · refine ⟨_, rfl, _, _, _, _, true, rfl, .ty "int", .base (.bl _), kit_ty (by decide +kernel), _, rfl, ?_⟩
      exact ⟨_, rfl, _, _, _, _, true, rfl, .ty "bool", .base (.bl _), kit_ty (by decide +kernel), _, rfl, q⟩
    · exact ⟨_, rfl, _, _, _, _, false, rfl, .ty "int", ty, hk, _, rfl, q⟩
theorem ok_eased {f : Addr} {fd : FuncData} {k : Nat} (F : Fun K "_law_eased" "_law_eased" sEased f fd) (T : TxtE mg) : FnOk P w K mg base CX0 (k + 1) f fd ["_law_parts", "_law_cargo"] spEased := by
  refine F.ok scEased (fun vs H Q E h => ?_) (fun cdv A outer s H vs Q E hr h => ?_)
  · obtain ⟨q, r, s, l, rows, spans, ld, rfl, _⟩ := h
    rfl
  · obtain ⟨p, r, sp, l, rows, spans, ld, rfl, hp, hl, hld, hsl, hr10, q⟩ := h
    refine ⟨_,
      (pss_cons (ps_set (i := 2) scEased.nd rfl (.inl rfl) (pe_callTy call_list_of (by rfl) T.mlist (by decide +kernel) (pa_cons (pv 1) pa_nil)))
      (pss_cut (ps_for PassesOwn.never rfl (pi_range1 (by rfl) T.mrange (pa_cons (pe_callB call_len_seq (by rfl) T.mlen PySem.boot_len (pa_cons (pv 2) pa_nil)) pa_nil)) (pg_name (i := 3) scEased.nd rfl (.inl rfl))
      (pss_one (ps_asg (pe_callB (call_min2 rfl) (by rfl) T.mmin (by decide +kernel) (pa_cons (pe_ix ix_list (pv 2) (pv 3) (fun _ _ => rfl)) (pa_cons (pe_ix ix_list (pe_ix ix_tup (pv 0) pe_int (fun _ _ => rfl)) (pv 3) (fun _ _ => rfl)) pa_nil))) (pg_sub (pv 2) (pv 3) set_list))))
      (pss_cons (ps_for PassesOwn.never rfl (pi_range1 (by rfl) T.mrange (pa_cons (pe_callB call_len_seq (by rfl) T.mlen PySem.boot_len (pa_cons (pe_ix ix_tup (pv 0) pe_int (fun _ _ => rfl)) pa_nil)) pa_nil)) (pg_name (i := 3) scEased.nd rfl (.inl rfl))
      (pss_cons (ps_asg (pe_callB (call_min2 rfl) (by rfl) T.mmin (by decide +kernel) (pa_cons (pe_ix ix_list (pv 2) (pv 3) (fun _ _ => rfl)) (pa_cons (pe_op op_mul pe_int (pe_ix ix_tup (pe_ix ix_list (pe_ix ix_tup (pv 0) pe_int (fun _ _ => rfl)) (pv 3) (fun _ _ => rfl)) pe_int (fun _ _ => rfl))) pa_nil))) (pg_sub (pv 2) (pv 3) set_list))
      (pss_one (ps_asg (pe_callB (call_min2 rfl) (by rfl) T.mmin (by decide +kernel) (pa_cons (pe_ix ix_list (pv 2) (pe_op op_add (pv 3) pe_int) (fun _ _ => rfl)) (pa_cons (pe_op op_sub (pe_op op_mul pe_int (pe_ix ix_tup (pe_ix ix_list (pe_ix ix_tup (pv 0) pe_int (fun _ _ => rfl)) (pv 3) (fun _ _ => rfl)) pe_int (fun _ _ => rfl))) (pe_ix ix_list (pv 2) (pv 3) (fun _ _ => rfl))) pa_nil))) (pg_sub (pv 2) (pe_op op_add (pv 3) pe_int) set_list)))))
      (pss_one (ps_ret (pv 2))))))
      , ?_⟩
    refine ⟨_, rfl, l, _, rfl, .inl (SqL.of hl), fun e he => ?_⟩
    refine ⟨fun σ H1 => ∃ (f : List Int) (w3 : Option V), σ = [some (.ref p), some (.ref l), some (.ref e), w3] ∧ H1 e = some (.lst (f.map V.int)) ∧ Keep e H H1 ∧ f.length = spans.length ∧ ∀ j, j < spans.length → gD f j ≤ gD spans j, ?_, ?_⟩
    · refine ⟨_, rfl, e, _, rfl, .inl (SqL.of upd_same), _, rfl, by rw [List.length_map]; omega, by rw [List.length_map]; omega, ?_⟩
      refine for_range (lo := 0) (n := (((ld.map V.int).length : Nat) : Int).toNat) (fun i σ H1 => ∃ (f : List Int) (w3 : Option V), σ = [some (.ref p), some (.ref l), some (.ref e), w3] ∧ H1 e = some (.lst (f.map V.int)) ∧ Keep e H H1 ∧ f.length = spans.length ∧ ∀ j, j < i → gD f j ≤ gD spans j)
        ⟨ld, _, rfl, upd_same, Keep.refl.new he, hld, fun j hj => absurd hj (Nat.not_lt_zero j)⟩ ?_ ?_
      · rintro i σ H1 hi ⟨f, w3, rfl, ef, kf, lf, hj⟩
        rw [List.length_map] at hi
        have hi2 : i < spans.length := by omega
        have ei : (0 : Int) + (i : Int) = (i : Int) := by omega
        have s1 := kf.toSame he
        have hp1 := hp.same s1
        refine ⟨_, rfl, _, rfl, e, _, (i : Int), _, rfl, congrArg V.int ei, SqL.of ef, atI_nat (gD_v (by omega)), _, rfl, p, _, 1, _, rfl, rfl, SqT.of hp1.tp, atI_nat (j := 1) rfl, _, rfl, sp, _, (i : Int), _, rfl, congrArg V.int ei, SqL.of hp1.sp, atI_nat (gD_v hi2), _, _, rfl, _, rfl, _, rfl, e, _, (i : Int), i, rfl, congrArg V.int ei, ef, ixN_nat (by rw [List.length_map]; omega), ?_⟩
        refine ⟨f.set i (if gD spans i < gD f i then gD spans i else gD f i), _, rfl, by rw [upd_same, List.map_set], kf.updT, by rw [List.length_set]; exact lf, fun j hj2 => ?_⟩
        rw [gD_set (by omega)]
        by_cases c : j = i
        · subst c; rw [if_pos rfl]; split <;> omega
        · rw [if_neg c]; exact hj j (by omega)
      · rintro σ H1 ⟨f, w3, rfl, ef, kf, lf, hj⟩
        exact ⟨f, _, rfl, ef, kf, lf, fun j hj2 => hj j (by rw [List.length_map]; omega)⟩
    rintro σ H1 ⟨f, w3, rfl, ef, kf, lf, hsp⟩
    have hp0 := hp.same (kf.toSame he)
    obtain ⟨xs, er, hrw⟩ := hp0.rw
    have hlx := hrw.len
    refine ⟨_, rfl, p, _, 0, _, rfl, rfl, SqT.of hp0.tp, atI_nat (j := 0) rfl, r, _, rfl, .inl (SqL.of er), _, rfl, by omega, by omega, ?_⟩
    refine for_range (lo := 0) (n := ((xs.length : Nat) : Int).toNat) (fun i σ H' => ∃ (f : List Int) (w3 : Option V), σ = [some (.ref p), some (.ref l), some (.ref e), w3] ∧ H' e = some (.lst (f.map V.int)) ∧ Keep e H H' ∧ f.length = spans.length ∧ (∀ j, j < spans.length → gD f j ≤ gD spans j) ∧ ∀ j, j < i → hv f j ≤ 2 * brs rows j)
      ⟨f, _, rfl, ef, kf, lf, hsp, fun j hj => absurd hj (Nat.not_lt_zero j)⟩ ?_ ?_
    · rintro i σ H1 hi ⟨f, w3, rfl, ef, kf, lf, hsp, hj⟩
      have hi2 : i < rows.length := by omega
      have ei : (0 : Int) + (i : Int) = (i : Int) := by omega
      have ei1 : (0 : Int) + (i : Int) + 1 = ((i + 1 : Nat) : Int) := by omega
      have hp1 := hp.same (kf.toSame he)
      obtain ⟨xs, er, hrw⟩ := hp1.rw
      obtain ⟨b, gb, hb⟩ := hrw.at2 hi2
      have eb : brs rows i = rows[i].2 := brs_at (List.getElem?_eq_getElem hi2)
      have nre : ∀ x o, H1 x = some o → (∀ xs, o ≠ .lst xs) → x ≠ e := fun x o z n c => by rw [c, ef] at z; cases z; exact n _ rfl
      refine ⟨_, rfl, _, rfl, e, _, (i : Int), _, rfl, congrArg V.int ei, SqL.of ef, atI_nat (gD_v (by omega)), _, rfl, p, _, 0, _, rfl, rfl, SqT.of hp1.tp, atI_nat (j := 0) rfl, _, rfl, r, _, (i : Int), _, rfl, congrArg V.int ei, SqL.of er, atI_nat gb, b, _, 1, _, rfl, rfl, SqT.of hb, atI_nat (j := 1) rfl, _, _, rfl, rfl, .inl ⟨by decide, by decide⟩, _, _, rfl, _, rfl, _, rfl, e, _, (i : Int), i, rfl, congrArg V.int ei, ef, ixN_nat (by rw [List.length_map]; omega), ?_⟩
      have ef1 : (upd H1 e (.lst ((f.map V.int).set i (.int (if 2 * rows[i].2 < gD f i then 2 * rows[i].2 else gD f i))))) e = some (.lst ((f.set i (if 2 * rows[i].2 < gD f i then 2 * rows[i].2 else gD f i)).map V.int)) := by rw [upd_same, List.map_set]
      have kf1 : Keep e H (upd H1 e (.lst ((f.map V.int).set i (.int (if 2 * rows[i].2 < gD f i then 2 * rows[i].2 else gD f i))))) := kf.updT
      generalize upd H1 e (.lst ((f.map V.int).set i (.int (if 2 * rows[i].2 < gD f i then 2 * rows[i].2 else gD f i)))) = H2 at ef1 kf1 ⊢
      have g1 : ∀ j, gD (f.set i (if 2 * rows[i].2 < gD f i then 2 * rows[i].2 else gD f i)) j = if j = i then (if 2 * rows[i].2 < gD f i then 2 * rows[i].2 else gD f i) else gD f j := fun j => gD_set (by omega) j
      have l1 : (f.set i (if 2 * rows[i].2 < gD f i then 2 * rows[i].2 else gD f i)).length = spans.length := by rw [List.length_set]; exact lf
      generalize f.set i (if 2 * rows[i].2 < gD f i then 2 * rows[i].2 else gD f i) = f1 at ef1 g1 l1 ⊢
      have hp2 := hp.same (kf1.toSame he)
      obtain ⟨xs2, er2, hrw2⟩ := hp2.rw
      obtain ⟨b2, gb2, hb2⟩ := hrw2.at2 hi2
      refine ⟨_, rfl, _, rfl, _, _, rfl, rfl, e, _, ((i + 1 : Nat) : Int), _, rfl, congrArg V.int ei1, SqL.of ef1, atI_nat (gD_v (by omega)), _, rfl, p, _, 0, _, rfl, rfl, SqT.of hp2.tp, atI_nat (j := 0) rfl, _, rfl, r, _, (i : Int), _, rfl, congrArg V.int ei, SqL.of er2, atI_nat gb2, b2, _, 1, _, rfl, rfl, SqT.of hb2, atI_nat (j := 1) rfl, _, _, rfl, rfl, .inl ⟨by decide, by decide⟩, _, rfl, _, rfl, e, _, (i : Int), _, rfl, congrArg V.int ei, SqL.of ef1, atI_nat (gD_v (by omega)), _, _, rfl, rfl, _, _, rfl, _, rfl, _, rfl, _, _, rfl, rfl, e, _, ((i + 1 : Nat) : Int), i + 1, rfl, congrArg V.int ei1, ef1, ixN_nat (by rw [List.length_map]; omega), ?_⟩
      refine ⟨f1.set (i + 1) (if 2 * rows[i].2 - gD f1 i < gD f1 (i + 1) then 2 * rows[i].2 - gD f1 i else gD f1 (i + 1)), _, rfl, by rw [upd_same, List.map_set], kf1.updT, by rw [List.length_set]; exact l1, fun j hj2 => ?_, fun j hj2 => ?_⟩
      · rw [gD_set (by omega), g1 j, g1 (i + 1), g1 i]
        have h1 := hsp j hj2
        by_cases c : j = i + 1
        · subst c
          rw [if_pos (show i + 1 = i + 1 from rfl), if_pos (show i = i from rfl), if_neg (show ¬ i + 1 = i by omega)]
          split <;> split <;> omega
        · rw [if_neg c]
          by_cases c2 : j = i
          · subst c2; rw [if_pos rfl]; split <;> omega
          · rw [if_neg c2]; exact h1
      · unfold hv
        rw [gD_set (by omega), gD_set (by omega), g1 (i + 1), g1 i, g1 j, g1 (j + 1), if_neg (show ¬ i + 1 = i by omega), if_pos rfl]
        by_cases c : j = i
        · subst c
          rw [if_neg (by omega), if_pos rfl, if_pos rfl, eb]
          split <;> split <;> omega
        · have h1 := hj j (by omega)
          unfold hv at h1
          rw [if_neg (by omega), if_neg c, if_neg (by omega)]
          by_cases c2 : j + 1 = i
          · subst c2; rw [if_pos rfl]; split <;> omega
          · rw [if_neg c2]; exact h1
    · rintro σ H1 ⟨f, w3, rfl, ef, kf, lf, hsp, hj⟩
      exact ⟨_, rfl, q e f H1 (kf.toSame he) he ef lf ⟨hsp, fun j hj2 => hj j (by omega)⟩⟩
end
section
variable {P : Program} {w : World} {K : PySem.W.Frag} {mg : Str → Option Value} {base : Heap} {C CB CO CS : Addr}
theorem ok_lroom {f : Addr} {fd : FuncData} {k : Nat} (F : Fun K "_law_room" "_law_room" sLRoom f fd) (T : TxtE mg) : FnOk P w K mg base CX0 (k + 1) f fd ["_law_parts", "_law_cargo", "_law_spot"] spLRoom := by
  refine F.ok scLRoom (fun vs H Q E h => ?_) (fun cdv A outer s H vs Q E hr h => ?_)
  · obtain ⟨q, r, s, l, rows, spans, ld, k, rfl, _⟩ := h
    rfl
  · obtain ⟨p, r, sp, l, rows, spans, ld, j, rfl, hp, hl, hld, hsl, hr10, hj, q⟩ := h
    refine ⟨_,
      (pss_cons (ps_set (i := 3) scLRoom.nd rfl (.inl rfl) (pe_lst (pa_cons (pe_op op_sub (pe_ix ix_list (pe_ix ix_tup (pv 0) pe_int (fun _ _ => rfl)) (pv 2) (fun _ _ => rfl)) (pe_ix ix_list (pv 1) (pv 2) (fun _ _ => rfl))) pa_nil)))
      (pss_cut (ps_if (pt_cmpR op_gt (pv 2) pe_int (nomark _))
      (pss_one (ps_expr (pe_bm PySem.F.plainAttrs_list PySem.F.slot_list_append PySem.F.type_list_append mt_append (pv 3) (pa_cons (pe_op op_sub (pe_op op_sub (pe_op op_mul pe_int (pe_ix ix_tup (pe_ix ix_list (pe_ix ix_tup (pv 0) pe_int (fun _ _ => rfl)) (pe_op op_sub (pv 2) pe_int) (fun _ _ => rfl)) pe_int (fun _ _ => rfl))) (pe_ix ix_list (pv 1) (pe_op op_sub (pv 2) pe_int) (fun _ _ => rfl))) (pe_ix ix_list (pv 1) (pv 2) (fun _ _ => rfl))) pa_nil))))
      pss_nil)
      (pss_cut (ps_if (pt_cmpR op_lt (pv 2) (pe_callB call_len_seq (by rfl) T.mlen PySem.boot_len (pa_cons (pe_ix ix_tup (pv 0) pe_int (fun _ _ => rfl)) pa_nil)) (nomark _))
      (pss_one (ps_expr (pe_bm PySem.F.plainAttrs_list PySem.F.slot_list_append PySem.F.type_list_append mt_append (pv 3) (pa_cons (pe_op op_sub (pe_op op_sub (pe_op op_mul pe_int (pe_ix ix_tup (pe_ix ix_list (pe_ix ix_tup (pv 0) pe_int (fun _ _ => rfl)) (pv 2) (fun _ _ => rfl)) pe_int (fun _ _ => rfl))) (pe_ix ix_list (pv 1) (pv 2) (fun _ _ => rfl))) (pe_ix ix_list (pv 1) (pe_op op_add (pv 2) pe_int) (fun _ _ => rfl))) pa_nil))))
      pss_nil)
      (pss_one (ps_ret (pe_callB (cr_min rfl) (by rfl) T.mmin (by decide +kernel) (pa_cons (pv 3) pa_nil)))))))
      , ?_⟩
    refine ⟨_, rfl, p, _, 1, _, rfl, rfl, SqT.of hp.tp, atI_nat (j := 1) rfl, _, rfl, sp, _, (j : Int), _, rfl, rfl, SqL.of hp.sp, atI_nat (gD_v hj), _, rfl, _, rfl, l, _, (j : Int), _, rfl, rfl, SqL.of hl, atI_nat (gD_v (by omega)), _, _, rfl, rfl, by show 1 ≤ sizeLine; decide, fun e he => ?_⟩
    refine ⟨fun σ H1 => σ = [some (.ref p), some (.ref l), some (.int (j : Nat)), some (.ref e)] ∧ H1 e = some (.lst (((gD spans j - gD ld j) :: (if 0 < j then [2 * brs rows (j - 1) - hv ld (j - 1)] else [])).map V.int)) ∧ Keep e H H1, ?_, ?_⟩
    · refine ⟨_, rfl, _, _, rfl, rfl, _, rfl, ite2 (fun c => ?_) (fun c => ?_)⟩
      · have c' : 0 < j := by have := of_decide_eq_true c; omega
        have s1 := same_upd (o := .lst [.int (gD spans j - gD ld j)]) he
        have hp1 := hp.same s1
        obtain ⟨xs, er, hrw⟩ := hp1.rw
        have hlx := hrw.len
        have hi2 : j - 1 < rows.length := by omega
        obtain ⟨b, gb, hb⟩ := hrw.at2 hi2
        have eb : brs rows (j - 1) = rows[j - 1].2 := brs_at (List.getElem?_eq_getElem hi2)
        have ej : (j : Int) - 1 = ((j - 1 : Nat) : Int) := by omega
        refine ⟨_, rfl, .inl ⟨rfl, _, SqL.of upd_same⟩, _, rfl, p, _, 0, _, rfl, rfl, SqT.of hp1.tp, atI_nat (j := 0) rfl, _, rfl, _, _, rfl, rfl, r, _, ((j - 1 : Nat) : Int), _, rfl, congrArg V.int ej, SqL.of er, atI_nat gb, b, _, 1, _, rfl, rfl, SqT.of hb, atI_nat (j := 1) rfl, _, _, rfl, rfl, .inl ⟨by decide, by decide⟩, _, rfl, _, rfl, _, _, rfl, rfl, l, _, ((j - 1 : Nat) : Int), _, rfl, congrArg V.int ej, SqL.of (s1 _ _ hl), atI_nat (gD_v (by omega)), _, _, rfl, rfl, _, rfl, _, rfl, l, _, (j : Int), _, rfl, rfl, SqL.of (s1 _ _ hl), atI_nat (gD_v (by omega)), _, _, rfl, rfl, e, _, _, rfl, rfl, upd_same, small100 (by show 1 < 100; decide), ?_⟩
        refine ⟨rfl, ?_, (Keep.refl.new he).updT⟩
        rw [upd_same, if_pos c']
        have e1 : 2 * rows[j - 1].2 - gD ld (j - 1) - gD ld j = 2 * brs rows (j - 1) - hv ld (j - 1) := by
          unfold hv
          rw [eb, show j - 1 + 1 = j by omega]
          omega
        exact congrArg (fun z : Int => some (HO.lst [V.int (gD spans j - gD ld j), V.int z])) e1
      · exact ⟨rfl, by rw [upd_same, if_neg (by intro z; exact c (decide_eq_true (by omega)))]; rfl, Keep.refl.new he⟩
    rintro σ H1 ⟨rfl, ef, kf⟩
    have s1 := kf.toSame he
    have hp1 := hp.same s1
    obtain ⟨xs, er, hrw⟩ := hp1.rw
    have hlx := hrw.len
    refine ⟨fun σ H2 => σ = [some (.ref p), some (.ref l), some (.int (j : Nat)), some (.ref e)] ∧ H2 e = some (.lst ((roomL rows spans ld j).map V.int)) ∧ Keep e H H2, ?_, ?_⟩
    · refine ⟨_, rfl, _, rfl, p, _, 0, _, rfl, rfl, SqT.of hp1.tp, atI_nat (j := 0) rfl, r, _, rfl, .inl (SqL.of er), _, _, rfl, rfl, _, rfl, ite2 (fun c => ?_) (fun c => ?_)⟩
      · have hi2 : j < rows.length := by have : (j : Int) < (xs.length : Int) := of_decide_eq_true c; omega
        obtain ⟨b, gb, hb⟩ := hrw.at2 hi2
        have eb : brs rows j = rows[j].2 := brs_at (List.getElem?_eq_getElem hi2)
        refine ⟨_, rfl, .inl ⟨rfl, _, SqL.of ef⟩, _, rfl, p, _, 0, _, rfl, rfl, SqT.of hp1.tp, atI_nat (j := 0) rfl, _, rfl, r, _, (j : Int), _, rfl, rfl, SqL.of er, atI_nat gb, b, _, 1, _, rfl, rfl, SqT.of hb, atI_nat (j := 1) rfl, _, _, rfl, rfl, .inl ⟨by decide, by decide⟩, _, rfl, _, rfl, l, _, (j : Int), _, rfl, rfl, SqL.of (s1 _ _ hl), atI_nat (gD_v (by omega)), _, _, rfl, rfl, _, rfl, _, rfl, _, _, rfl, rfl, l, _, ((j + 1 : Nat) : Int), _, rfl, congrArg V.int (by omega), SqL.of (s1 _ _ hl), atI_nat (gD_v (by omega)), _, _, rfl, rfl, e, _, _, rfl, rfl, ef, small100 (by split <;> simp), ?_⟩
        refine ⟨rfl, ?_, kf.updT⟩
        have e1 : 2 * rows[j].2 - gD ld j - gD ld (j + 1) = 2 * brs rows j - hv ld j := by
          unfold hv
          rw [eb]
          omega
        rw [upd_same]
        unfold roomL
        rw [if_pos hi2, ← List.cons_append, List.map_append]
        exact congrArg (fun z : Int => some (HO.lst (((gD spans j - gD ld j) :: (if 0 < j then [2 * brs rows (j - 1) - hv ld (j - 1)] else [])).map V.int ++ [V.int z]))) e1
      · refine ⟨rfl, ?_, kf⟩
        rw [ef]
        unfold roomL
        rw [if_neg (show ¬ j < rows.length from fun z => c (decide_eq_true (by omega))), List.append_nil]
    rintro σ H2 ⟨rfl, ef2, kf2⟩
    exact ⟨_, rfl, e, roomL rows spans ld j, rfl, SqL.of ef2, by simp [roomL], fun m hm1 hm2 => q m H2 (kf2.toSame he) ⟨hm1, hm2⟩⟩
end
/-! ### what is borne beside the room, and what isn't -/
theorem borne_more {rows : List (Str × Int)} {spans ld : List Int} {k : Nat} {m : Int} (hl : ld.length = spans.length) (hs : spans.length = rows.length + 1) (hk : k < spans.length) (he : EasedL rows spans ld) (hm : RoomIs rows spans ld k m) :
    FaultIs rows spans (ld.set k (gD ld k + m)) none := by
  have m0 := hm.2 (gD spans k - gD ld k) (by simp [roomL])
  refine .none (fun j hj => ?_) (fun j hj => ?_)
  · rw [gD_set (by omega)]
    have h1 := he.1 j hj
    by_cases c : j = k
    · subst c; rw [if_pos rfl]; omega
    · rw [if_neg c]; omega
  · have h1 := he.2 j hj
    unfold hv at h1 ⊢
    rw [gD_set (by omega), gD_set (by omega)]
    by_cases c : j = k
    · subst c
      have h2 := hm.2 (2 * brs rows j - hv ld j) (by simp [roomL, hj])
      unfold hv at h2
      rw [if_pos rfl, if_neg (by omega)]
      omega
    · rw [if_neg c]
      by_cases c2 : j + 1 = k
      · subst c2
        have h2 := hm.2 (2 * brs rows j - hv ld j) (by simp [roomL])
        unfold hv at h2
        rw [if_pos rfl]
        omega
      · rw [if_neg c2]; omega
theorem too_far {rows : List (Str × Int)} {spans ld : List Int} {k : Nat} {m : Int} (hl : ld.length = spans.length) (hs : spans.length = rows.length + 1) (hk : k < spans.length) (hm : RoomIs rows spans ld k m) :
    ¬ FaultIs rows spans (ld.set k (gD ld k + (m + 1))) none := by
  intro h
  cases h with
  | none h1 h2 =>
    have a1 := h1 k hk
    rw [gD_set (by omega), if_pos rfl] at a1
    have hm1 := hm.1
    unfold roomL at hm1
    rw [List.mem_cons, List.mem_append] at hm1
    rcases hm1 with e | e | e
    · omega
    · by_cases c : 0 < k
      · rw [if_pos c, List.mem_singleton] at e
        have a2 := h2 (k - 1) (by omega)
        unfold hv at a2 e
        rw [gD_set (by omega), gD_set (by omega), if_neg (by omega), if_pos (by omega)] at a2
        rw [show k - 1 + 1 = k by omega] at e
        omega
      · rw [if_neg c] at e; cases e
    · by_cases c : k < rows.length
      · rw [if_pos c, List.mem_singleton] at e
        have a2 := h2 k c
        unfold hv at a2 e
        rw [gD_set (by omega), gD_set (by omega), if_pos rfl, if_neg (by omega)] at a2
        omega
      · rw [if_neg c] at e; cases e
abbrev sRefused : Stmt := topS 37
abbrev NRefused : List Str := ["_law_crossed", "_law_cargo", "_law_thing", "_law_error", "e", "_law_alone"]
theorem scRefused : FnScope NRefused ["_law_crossed", "_law_cargo", "_law_thing"] (defScope sRefused) := ⟨rfl, rfl, rfl, by decide +kernel, rfl, by decide +kernel, by decide +kernel⟩
theorem thing_kind {K : PySem.W.Frag} {T : Addr} {H : Hp} {v : V} {d : PyData} (h : Thing T H v d) : (∃ i, v = .int i) ∨ (∃ b, v = .bl b) ∨ ∃ t, TyX K H v t ∧ PySem.W.kitOne K t (.type "int") = some false := by
  cases h with
  | th h _ _ =>
    cases h with
    | non => exact .inr (.inr ⟨_, .base .non, kit_ty (by decide +kernel)⟩)
    | bl b => exact .inr (.inl ⟨b, rfl⟩)
    | int i => exact .inl ⟨i, rfl⟩
    | str x => exact .inr (.inr ⟨_, .base (.str x), kit_ty (by decide +kernel)⟩)
    | l0 _ e => exact .inr (.inr ⟨_, .base (.lst e), kit_ty (by decide +kernel)⟩)
    | l1 _ e _ => exact .inr (.inr ⟨_, .base (.lst e), kit_ty (by decide +kernel)⟩)
    | t0 _ e => exact .inr (.inr ⟨_, .base (.tup e), kit_ty (by decide +kernel)⟩)
    | t1 _ e _ => exact .inr (.inr ⟨_, .base (.tup e), kit_ty (by decide +kernel)⟩)
    | t2 _ e _ _ => exact .inr (.inr ⟨_, .base (.tup e), kit_ty (by decide +kernel)⟩)
  | dc _ e _ => exact .inr (.inr ⟨_, .base (.dK e), kit_ty (by decide +kernel)⟩)
def spRefused (K : PySem.W.Frag) (C CB : Addr) : Sp := fun vs H Q _ => ∃ (p bl sl l T : Addr) (v : V) (d : PyData) (rows : List (Str × Int)) (spans ld : List Int), vs = [.ref p, .ref l, v] ∧ BrAt C CB H p bl sl rows spans ∧ 1 ≤ rows.length ∧ rows.length ≤ 10 ∧ H l = some (.lst (ld.map V.int)) ∧ ld.length = rows.length + 1 ∧ spans.length = rows.length + 1 ∧ BadAt K H rows.length v ∧ Thing T H v d ∧
  ∀ H', Same H H' → Q (.str d.shown) H'
def tbRefused (K : PySem.W.Frag) (C CB CS : Addr) : WX → TS := fun W D σ H => ∃ (p bl sl l : Addr) (v : V) (rows : List (Str × Int)) (spans ld : List Int), σ = [some (.ref p), some (.ref l), some v, some .non, none, none] ∧ BrAt C CB H p bl sl rows spans ∧ 1 ≤ rows.length ∧ rows.length ≤ 10 ∧ H l = some (.lst (ld.map V.int)) ∧ ld.length = rows.length + 1 ∧ spans.length = rows.length + 1 ∧ BadAt K H rows.length v ∧
  ∀ d H', Same H H' → H' d = some (.xd (nsF v)) → W (.ref CS) (some d) σ H'
structure SCl2 (K : PySem.W.Frag) (mg : Str → Option Value) (CS c1 c2 c3 c4 : Addr) : Prop where
  g1 : mg "NoBoat" = some (.ref c1)
  g2 : mg "NoBridge" = some (.ref c2)
  g3 : mg "NoRule" = some (.ref c3)
  g4 : mg "Overload" = some (.ref c4)
  xf : XfC K CS
  ec : ExcC K CS
  up : PySem.W.kitOne K (.ref CS) (.type "IndexError") = some true
  no : PySem.W.kitAny K (.ref CS) [.ref c1, .ref c2, .ref c3, .ref c4] = some false
  misinstance : mg "isinstance" = none
  mIndexError : mg "IndexError" = none
  mrepr : mg "repr" = none
section
variable {P : Program} {w : World} {K : PySem.W.Frag} {mg : Str → Option Value} {base : Heap} {C CB CO CS : Addr}
theorem ok_refused {f fR fH fS fX fBo fSp fL fW CNoBoat CNoBridge CNoRule COverload : Addr} {fd fdR fdH fdS fdX fdBo fdSp fdL fdW : FuncData} {k : Nat} (F : Fun K "_law_refused" "_law_refused" sRefused f fd) (TB0 : TxtB mg) (TO : TxtO mg) (TM : TxtM mg) (TB : BCl K mg C) (TC : BrCl K mg CB) (TS : SCl K mg CS) (T : SCl2 K mg CS CNoBoat CNoBridge CNoRule COverload)
    (iXNoSpan : PySem.W.findIn K (.ref CS) "__init__" = some (some (.ref fX))) (tXNoSpan : PySem.W.typeIn K (.ref fX) = some (.type "function")) (FX : Fun K "__init__" "NoSpan.__init__" sNSInit fX fdX) (bXNoSpan : Binds K fdX ["self", "at"] [])
    (mboats : Meth K CB "boats" fBo) (FBo : Fun K "boats" "Bridge.boats" sBrBoats fBo fdBo) (bboats : Binds K fdBo ["self"] [])
    (mspans : Meth K CB "spans" fSp) (FSp : Fun K "spans" "Bridge.spans" sBrSpans fSp fdSp) (bspans : Binds K fdSp ["self"] [])
    (mL : Meth K CB "__len__" fL) (FL : Fun K "__len__" "Bridge.__len__" sBrLen fL fdL) (bL : Binds K fdL ["self"] [])
    (Fis_whole : Fun K "is_whole" "is_whole" sIsW fW fdW) (gis_whole : mg "is_whole" = some (.ref fW)) (bis_whole : Binds K fdW ["thing", "least", "most"] [])
    (Fhalves : Fun K "halves" "halves" sHalves fH fdH) (ghalves : mg "halves" = some (.ref fH)) (bhalves : Binds K fdH ["bridge", "load"] [])
    (Fspare : Fun K "spare" "spare" sSpare fS fdS) (gspare : mg "spare" = some (.ref fS)) (bspare : Binds K fdS ["boat", "many"] [])
    (Froom_at : Fun K "room_at" "room_at" sRoom fR fdR) (groom_at : mg "room_at" = some (.ref fR)) (broom_at : Binds K fdR ["bridge", "load", "at"] []) :
    FnOkG P w K mg base CX0 (k + 6) f fd ["_law_crossed", "_law_cargo", "_law_thing"] (spRefused K C CB) := by
  have Groom_at : FnOk P w K mg base (L2.CX P w) (k + 5) fR fdR ["bridge", "load", "at"] (spRoom K C CB CS) := ok_room Froom_at TB0 TO TM TB TC TS iXNoSpan tXNoSpan FX bXNoSpan mboats FBo bboats mspans FSp bspans mL FL bL Fis_whole gis_whole bis_whole Fhalves ghalves bhalves Fspare gspare bspare
  refine okG F scRefused (fun vs H Q E h => ?_) (fun cdv A outer s H vs Q E gd hr h => ?_)
  · obtain ⟨p, bl, sl, l, T, v, d, rows, spans, ld, rfl, _⟩ := h
    rfl
  · obtain ⟨p, bl, sl, l, T0, v, d, rows, spans, ld, rfl, hp, hr1, hr10, hl, hld, hsl, bad, th, q⟩ := h
    have hrroom_at := hr
    have gCNoSpan := TS.gC
    have gCNoBoat := T.g1
    have gCNoBridge := T.g2
    have gCNoRule := T.g3
    have gCOverload := T.g4
    refine ⟨_,
      (pss_cons (ps_set (i := 3) scRefused.nd rfl (.inl rfl) pe_non)
      (pss_cons (ps_try_keep (i := 4) (tb := (tbRefused K C CB CS)) (ts := fun _ _ _ => tAsg (tVar 4) (gName 3)) rfl rfl rfl scRefused.nd rfl rfl ⟨rfl, by decide, .inl gCNoSpan⟩
      (fun W pn xe tk _ => pss_imp (pss_one (ps_expr (pe_callSD Groom_at hrroom_at (by rfl) groom_at Froom_at.kp broom_at .nil (fun σ => passAt tk σ) (by exact (pa_cons (pv 0) (pa_cons (pv 1) (pa_cons (pv 2) pa_nil))))))) ?imp)
      (fun a cls d pn => pss_one (ps_set (i := 3) scRefused.nd rfl (Or.inl rfl) (pv 4))))
      (pss_cons (ps_if (pt_cmpR op_isN (pv 3) pe_non (nomark _))
      (pss_one (ps_ret pe_str))
      pss_nil)
      (pss_cons (ps_set (i := 5) scRefused.nd rfl (.inl rfl) (pe_and (pe_callB call_isO (by rfl) T.misinstance (by decide +kernel) (pa_cons (pv 3) (pa_cons (pe_bltn (v := .ty "IndexError") (u := .type "IndexError") (by rfl) T.mIndexError (by decide +kernel) rfl) pa_nil))) (pe_one (pe_not (pe_callB call_isOT (by rfl) T.misinstance (by decide +kernel) (pa_cons (pv 3) (pa_cons (pe_tup (pa_cons (pe_glob (v := .ref CNoBoat) (by rfl) gCNoBoat rfl) (pa_cons (pe_glob (v := .ref CNoBridge) (by rfl) gCNoBridge rfl) (pa_cons (pe_glob (v := .ref CNoRule) (by rfl) gCNoRule rfl) (pa_cons (pe_glob (v := .ref COverload) (by rfl) gCOverload rfl) pa_nil))))) pa_nil)))))))
      (pss_one (ps_ret (pe_ifExp (pt_val (pv 5)) (pe_callB (call_reprO gd hr) (by rfl) T.mrepr (by decide +kernel) (pa_cons (pe_fldX (pv 3) rfl) pa_nil)) pe_str)))))))
      , ?main⟩
    case imp =>
      rintro D σ H0 ⟨p, bl, sl, l, v, rows, spans, ld, rfl, hp, hr1, hr10, hl, hld, hsl, bad, d1⟩
      exact ⟨_, rfl, _, rfl, _, rfl, p, bl, sl, l, v, rows, spans, ld, rfl, hp, hr1, hr10, hl, hld, hsl, .inr ⟨bad, d1⟩⟩
    case main =>
      refine ⟨p, bl, sl, l, v, rows, spans, ld, rfl, hp, hr1, hr10, hl, hld, hsl, bad, fun d' H1 s1 ed => ⟨TS.hit, fun e he => ⟨_, rfl, ?_⟩⟩⟩
      have kp : KeptE (upd H1 e (keptX (.ref CS) (some d') e)) e CS (nsF v) := ⟨d', upd_same, upd_at he ed⟩
      have s3 : Same H (upd H1 e (keptX (.ref CS) (some d') e)) := s1.trans (same_upd he)
      generalize upd H1 e (keptX (.ref CS) (some d') e) = H2 at kp s3 ⊢
      refine ⟨_, rfl, rfl, _, rfl, iteF ?_⟩
      refine ⟨_, rfl, .inr ⟨e, CS, _, .ty "IndexError", .type "IndexError", true, rfl, kp, T.ec, .ty _, T.up, ?_⟩⟩
      refine ⟨_, rfl, iteT ⟨_, rfl, by show 4 ≤ sizeLine; decide, fun tp htp => ?_⟩⟩
      have kp2 : KeptE (upd H2 tp (.tup [.ref CNoBoat, .ref CNoBridge, .ref CNoRule, .ref COverload])) e CS (nsF v) := by
        obtain ⟨d2, k1, k2⟩ := kp
        exact ⟨d2, upd_at htp k1, upd_at htp k2⟩
      have s4 := s3.trans (same_upd (o := .tup [.ref CNoBoat, .ref CNoBridge, .ref CNoRule, .ref COverload]) htp)
      refine .inr ⟨e, CS, _, tp, _, [.ref CNoBoat, .ref CNoBridge, .ref CNoRule, .ref COverload], false, rfl, kp2, T.ec, upd_same, .cons (.own _) (.cons (.own _) (.cons (.own _) (.cons (.own _) .nil))), T.no, false, rfl, ?_⟩
      refine ⟨_, rfl, _, rfl, iteT ?_⟩
      exact ⟨_, rfl, e, CS, _, v, rfl, T.xf, TS.n1, kp2, rfl, v, T0, d, rfl, th.same s4, q _ s4⟩
end
abbrev sLaw : Stmt := topS 38
abbrev NLaw : List Str := ["_law_script", "_law_tape_here", "_law_turn", "_law_parts", "_law_crossed", "_law_again", "_law_cargo", "_law_handed", "_law_spot", "_law_found", "_law_more", "_law_too_far", "_law_thing", "_law_fine"]
theorem scLaw : FnScope NLaw ["_law_script"] (defScope sLaw) := ⟨rfl, rfl, rfl, by decide +kernel, rfl, by decide +kernel, by decide +kernel⟩
theorem lt_bounds {n : Int} (h0 : 0 ≤ n) (h : n ≤ 63) : -(2 ^ 62) ≤ n ∧ n < 2 ^ 62 := by omega
/-- a[b] within a[b] += .. -/
def rGetL : V → V → Hp → VK → Prop := fun x y H Q => ∃ (p : Addr) (xs : List V) (i : Int) (j : Nat) (v : V), x = .ref p ∧ y = .int i ∧ i = (j : Int) ∧ H p = some (.lst xs) ∧ xs[j]? = some v ∧ Q v H
theorem get_list {X : Cx} : PGet X rGetL := by
  intro pins s σ H o i ov iv Q I ro ri h
  obtain ⟨p, xs, i, j, v, rfl, rfl, rfl, hp, hj, q⟩ := h
  cases ro
  obtain ⟨t, rfl⟩ := ri
  obtain ⟨its, r, pl, hz⟩ := I.list (SqL.of hp)
  obtain ⟨w, ew, rw'⟩ := r.get hj
  have hl := r.length
  have hn := line63
  have hj2 : j < xs.length := (List.getElem?_eq_some_iff.mp hj).1
  exact wpAny_getItem_list pl.isList (by omega) (by omega) (by simpa using ew) ⟨v, H, I, rw', q⟩
theorem refl_ints (ns : List Int) : PyData.eqv (.list (ns.map PyData.int)) (.list (ns.map PyData.int)) = true := SeqAt.eqv_refl _ (SeqAt.canLay_of_shaped (ke_shaped_ints _))
theorem small10 {i : Int} (h : i.natAbs < 10000000000) : (Str.ofString (toString i)).length ≤ 11 := by
  have := PySem.int_text_length_le10 (a := i) (k := 10) (by decide) h
  rw [PySem.ofString_length]
  exact this
theorem logs {i : Int} (h : i.natAbs < 10000000000) : i.natAbs.log2 < 1920 := by
  by_cases z : i.natAbs = 0
  · rw [z]; decide
  · exact (Nat.log2_lt z).mpr (Nat.lt_of_lt_of_le h (Nat.le_trans (show 10000000000 ≤ 2 ^ 64 by decide) (Nat.pow_le_pow_right (by decide) (by decide : 64 ≤ 1920))))
theorem show_int {i : Int} (h : i.natAbs < 10000000000) : ShowOk (.int i) := by
  unfold ShowOk
  refine ⟨?_, ?_⟩
  · rw [PyData.showable]; exact decide_eq_true (logs h)
  · rw [PyData.shown]
    have := small10 h
    show (Str.ofString (toString i)).length ≤ 1000
    omega
theorem thing_int {T : Addr} {H : Hp} {i : Int} (h : i.natAbs < 10000000000) : Thing T H (.int i) (.int i) := .th (.int i) (by simp [SeqAt.shaped, PyData.canLay0, PyData.depth]) (show_int h)
def spLaw (K : PySem.W.Frag) : Sp := fun vs H Q _ => ∃ (a : Addr) (ns : List Int), vs = [.ref a] ∧ SqL K H a (ns.map V.int) ∧ ns.length ≤ 63 ∧ ∀ H', Q (.bl true) H'
structure TxtL (mg : Str → Option Value) : Prop where
  mlen : mg "len" = none
  mrange : mg "range" = none
  mmax : mg "max" = none
  mmin : mg "min" = none
  mlist : mg "list" = none
  mrepr : mg "repr" = none
section
variable {P : Program} {w : World} {K : PySem.W.Frag} {mg : Str → Option Value} {base : Heap} {C CB CO CS : Addr}
theorem ok_law {f fI fR fB fS fW fMd fBr fH fSr fO fX fBo fSp fL fN fRm fEa fLR fLW fOd fRf CNoBoat CNoBridge CNoRule COverload fT fD fP fNm fBR fSR fDP fWe : Addr} {fd fdI fdR fdB fdS fdW fdMd fdBr fdH fdSr fdO fdX fdBo fdSp fdL fdN fdRm fdEa fdLR fdLW fdOd fdRf fdT fdD fdP fdNm fdBR fdSR fdDP fdWe : FuncData} (F : Fun K "law" "law" sLaw f fd) (T0 : Txt0 mg) (TN : TxtN mg) (TL : TxtL mg)
    (TB0 : TxtB mg) (TO : TxtO mg) (TB : BCl K mg C) (TC : BrCl K mg CB) (TOv : OCl K mg CO) (TP : TxtP mg) (TW : TxtW mg) (TM : TxtM mg) (TE : TxtE mg) (TS : SCl K mg CS) (TS2 : SCl2 K mg CS CNoBoat CNoBridge CNoRule COverload)
    (MBoat : Mk K C fI) (FI : Fun K "__init__" "Boat.__init__" sBInit fI fdI) (bBoat : Binds K fdI ["self", "name", "bears"] [])
    (MBridge : Mk K CB fR) (FR : Fun K "__init__" "Bridge.__init__" sBrInit fR fdR) (bBridge : Binds K fdR ["self", "boats", "spans"] [])
    (F_are_boats : Fun K "_are_boats" "_are_boats" sAreB fB fdB) (g_are_boats : mg "_are_boats" = some (.ref fB)) (b_are_boats : Binds K fdB ["thing"] [])
    (F_are_spans : Fun K "_are_spans" "_are_spans" sAreS fS fdS) (g_are_spans : mg "_are_spans" = some (.ref fS)) (b_are_spans : Binds K fdS ["thing"] [])
    (Fis_whole : Fun K "is_whole" "is_whole" sIsW fW fdW) (gis_whole : mg "is_whole" = some (.ref fW)) (bis_whole : Binds K fdW ["thing", "least", "most"] [])
    (iXOverload : PySem.W.findIn K (.ref CO) "__init__" = some (some (.ref fO))) (tXOverload : PySem.W.typeIn K (.ref fO) = some (.type "function")) (FO : Fun K "__init__" "Overload.__init__" sOInit fO fdO) (bXOverload : Binds K fdO ["self", "part", "at", "over"] [])
    (iXNoSpan : PySem.W.findIn K (.ref CS) "__init__" = some (some (.ref fX))) (tXNoSpan : PySem.W.typeIn K (.ref fX) = some (.type "function")) (FX : Fun K "__init__" "NoSpan.__init__" sNSInit fX fdX) (bXNoSpan : Binds K fdX ["self", "at"] [])
    (mboats : Meth K CB "boats" fBo) (FBo : Fun K "boats" "Bridge.boats" sBrBoats fBo fdBo) (bboats : Binds K fdBo ["self"] [])
    (mspans : Meth K CB "spans" fSp) (FSp : Fun K "spans" "Bridge.spans" sBrSpans fSp fdSp) (bspans : Binds K fdSp ["self"] [])
    (mL : Meth K CB "__len__" fL) (FL : Fun K "__len__" "Bridge.__len__" sBrLen fL fdL) (bL : Binds K fdL ["self"] [])
    (Fhalves : Fun K "halves" "halves" sHalves fH fdH) (ghalves : mg "halves" = some (.ref fH)) (bhalves : Binds K fdH ["bridge", "load"] [])
    (Fspare : Fun K "spare" "spare" sSpare fSr fdSr) (gspare : mg "spare" = some (.ref fSr)) (bspare : Binds K fdSr ["boat", "many"] [])
    (Fneed_borne : Fun K "need_borne" "need_borne" sNeed fN fdN) (gneed_borne : mg "need_borne" = some (.ref fN)) (bneed_borne : Binds K fdN ["bridge", "load"] [])
    (Fis_borne : Fun K "is_borne" "is_borne" sBorne fBr fdBr) (gis_borne : mg "is_borne" = some (.ref fBr)) (bis_borne : Binds K fdBr ["bridge", "load"] [])
    (Froom_at : Fun K "room_at" "room_at" sRoom fRm fdRm) (groom_at : mg "room_at" = some (.ref fRm)) (broom_at : Binds K fdRm ["bridge", "load", "at"] []) (kcroom_at : KBinds K fdRm ["bridge", "load", "at"] ["at", "load", "bridge"] (fun us ws => (kwAll 3 us ws).reverse) (fun us ws => (kwAll 3 us ws).reverse))
    (F_law_made : Fun K "_law_made" "_law_made" sMade fMd fdMd) (g_law_made : mg "_law_made" = some (.ref fMd)) (b_law_made : Binds K fdMd ["_law_parts"] [])
    (F_law_is_whole : Fun K "_law_is_whole" "_law_is_whole" sLWhole fLW fdLW) (g_law_is_whole : mg "_law_is_whole" = some (.ref fLW)) (b_law_is_whole : Binds K fdLW ["_law_thing"] [])
    (F_law_eased : Fun K "_law_eased" "_law_eased" sEased fEa fdEa) (g_law_eased : mg "_law_eased" = some (.ref fEa)) (b_law_eased : Binds K fdEa ["_law_parts", "_law_cargo"] [])
    (F_law_room : Fun K "_law_room" "_law_room" sLRoom fLR fdLR) (g_law_room : mg "_law_room" = some (.ref fLR)) (b_law_room : Binds K fdLR ["_law_parts", "_law_cargo", "_law_spot"] [])
    (F_law_odd : Fun K "_law_odd" "_law_odd" sOdd fOd fdOd) (g_law_odd : mg "_law_odd" = some (.ref fOd)) (b_law_odd : Binds K fdOd ["_law_tape_here"] [])
    (F_law_refused : Fun K "_law_refused" "_law_refused" sRefused fRf fdRf) (g_law_refused : mg "_law_refused" = some (.ref fRf)) (b_law_refused : Binds K fdRf ["_law_crossed", "_law_cargo", "_law_thing"] [])
    (F_law_tape : Fun K "_law_tape" "_law_tape" sTape fT fdT) (g_law_tape : mg "_law_tape" = some (.ref fT)) (b_law_tape : Binds K fdT ["_law_script"] [])
    (F_law_draw : Fun K "_law_draw" "_law_draw" sDraw fD fdD) (g_law_draw : mg "_law_draw" = some (.ref fD)) (b_law_draw : Binds K fdD ["_law_tape_here", "_law_many"] [])
    (F_law_pick : Fun K "_law_pick" "_law_pick" sPick fP fdP) (g_law_pick : mg "_law_pick" = some (.ref fP)) (b_law_pick : Binds K fdP ["_law_tape_here", "_law_some"] [])
    (F_law_names : Fun K "_law_names" "_law_names" sNames fNm fdNm) (g_law_names : mg "_law_names" = some (.ref fNm)) (b_law_names : Binds K fdNm ["_law_tape_here", "_law_many"] [])
    (F_law_boat_rows : Fun K "_law_boat_rows" "_law_boat_rows" sBRows fBR fdBR) (g_law_boat_rows : mg "_law_boat_rows" = some (.ref fBR)) (b_law_boat_rows : Binds K fdBR ["_law_tape_here", "_law_names_here"] [])
    (F_law_span_row : Fun K "_law_span_row" "_law_span_row" sSRow fSR fdSR) (g_law_span_row : mg "_law_span_row" = some (.ref fSR)) (b_law_span_row : Binds K fdSR ["_law_tape_here", "_law_many"] [])
    (F_law_drawn_parts : Fun K "_law_drawn_parts" "_law_drawn_parts" sDParts fDP fdDP) (g_law_drawn_parts : mg "_law_drawn_parts" = some (.ref fDP)) (b_law_drawn_parts : Binds K fdDP ["_law_tape_here"] [])
    (F_law_weights : Fun K "_law_weights" "_law_weights" sWeights fWe fdWe) (g_law_weights : mg "_law_weights" = some (.ref fWe)) (b_law_weights : Binds K fdWe ["_law_tape_here", "_law_parts"] []) :
    FnOkG P w K mg base CX0 8 f fd ["_law_script"] (spLaw K) := by
  have G_law_tape : FnOk P w K mg base CX0 7 fT fdT ["_law_script"] (spTape K) := ok_tape F_law_tape T0
  have G_law_draw : FnOk P w K mg base CX0 7 fD fdD ["_law_tape_here", "_law_many"] spDraw := ok_draw F_law_draw T0
  have G_law_drawn_parts : FnOk P w K mg base CX0 7 fDP fdDP ["_law_tape_here"] spDParts := ok_dparts F_law_drawn_parts T0 TN TP F_law_draw g_law_draw b_law_draw F_law_pick g_law_pick b_law_pick F_law_names g_law_names b_law_names F_law_boat_rows g_law_boat_rows b_law_boat_rows F_law_span_row g_law_span_row b_law_span_row
  have G_law_weights : FnOk P w K mg base CX0 7 fWe fdWe ["_law_tape_here", "_law_parts"] spWeights := ok_weights F_law_weights T0 TW F_law_draw g_law_draw b_law_draw F_law_pick g_law_pick b_law_pick
  have G_law_made : FnOk P w K mg base CX0 7 fMd fdMd ["_law_parts"] (spMade C CB) := ok_made F_law_made TB0 TB TC TP MBoat FI bBoat MBridge FR bBridge F_are_boats g_are_boats b_are_boats F_are_spans g_are_spans b_are_spans Fis_whole gis_whole bis_whole
  have G_law_eased : FnOk P w K mg base CX0 7 fEa fdEa ["_law_parts", "_law_cargo"] spEased := ok_eased F_law_eased TE
  have G_law_room : FnOk P w K mg base CX0 7 fLR fdLR ["_law_parts", "_law_cargo", "_law_spot"] spLRoom := ok_lroom F_law_room TE
  have G_law_is_whole : FnOk P w K mg base CX0 7 fLW fdLW ["_law_thing"] (spLWhole2 K) := ok_lwhole2 F_law_is_whole TP
  have G_law_odd : FnOk P w K mg base CX0 7 fOd fdOd ["_law_tape_here"] spOdd := ok_odd F_law_odd T0 F_law_draw g_law_draw b_law_draw F_law_pick g_law_pick b_law_pick
  have Gis_borne : FnOk P w K mg base CX0 7 fBr fdBr ["bridge", "load"] (spBorne C CB) := ok_borne Fis_borne TB0 TO TB TC TOv iXOverload tXOverload FO bXOverload mboats FBo bboats mspans FSp bspans mL FL bL Fhalves ghalves bhalves Fspare gspare bspare Fneed_borne gneed_borne bneed_borne
  have Groom_at : FnOk P w K mg base (L2.CX P w) 7 fRm fdRm ["bridge", "load", "at"] (spRoom K C CB CS) := ok_room Froom_at TB0 TO TM TB TC TS iXNoSpan tXNoSpan FX bXNoSpan mboats FBo bboats mspans FSp bspans mL FL bL Fis_whole gis_whole bis_whole Fhalves ghalves bhalves Fspare gspare bspare
  have G_law_refused : FnOkG P w K mg base CX0 7 fRf fdRf ["_law_crossed", "_law_cargo", "_law_thing"] (spRefused K C CB) := ok_refused F_law_refused TB0 TO TM TB TC TS TS2 iXNoSpan tXNoSpan FX bXNoSpan mboats FBo bboats mspans FSp bspans mL FL bL Fis_whole gis_whole bis_whole Fhalves ghalves bhalves Fspare gspare bspare Froom_at groom_at broom_at
  refine okG F scLaw (fun vs H Q E h => ?_) (fun cdv A outer s H vs Q E gd hr h => ?_)
  · obtain ⟨a, n, rfl, _⟩ := h
    rfl
  · obtain ⟨a, ns, rfl, hS, hlen, q⟩ := h
    have hr_law_tape := hr
    have hr_law_draw := hr
    have hr_law_drawn_parts := hr
    have hr_law_weights := hr
    have hr_law_made := hr
    have hr_law_eased := hr
    have hr_law_room := hr
    have hr_law_is_whole := hr
    have hr_law_odd := hr
    have hris_borne := hr
    have hrroom_at := hr
    have hr_law_refused := hr
    have T := TL
    refine ⟨_,
      (pss_cons (ps_set (i := 1) scLaw.nd rfl (.inl rfl) (pe_call G_law_tape hr_law_tape (by rfl) g_law_tape F_law_tape.kp b_law_tape .nil pass0 (pa_cons (pv 0) pa_nil)))
      (pss_cons (ps_for PassesOwn.never rfl (pi_range1 (by rfl) T.mrange (pa_cons (pe_callB (call_max2 rfl) (by rfl) T.mmax (by decide +kernel) (pa_cons pe_int (pa_cons (pe_callB (call_min2 rfl) (by rfl) T.mmin (by decide +kernel) (pa_cons (pe_callB call_len_seq (by rfl) T.mlen PySem.boot_len (pa_cons (pv 0) pa_nil)) (pa_cons pe_int pa_nil))) pa_nil))) pa_nil)) (pg_name (i := 2) scLaw.nd rfl (.inl rfl))
      (pss_cons (ps_set (i := 3) scLaw.nd rfl (.inl rfl) (pe_call G_law_drawn_parts hr_law_drawn_parts (by rfl) g_law_drawn_parts F_law_drawn_parts.kp b_law_drawn_parts .nil pass0 (pa_cons (pv 1) pa_nil)))
      (pss_cons (ps_set (i := 4) scLaw.nd rfl (.inl rfl) (pe_call G_law_made hr_law_made (by rfl) g_law_made F_law_made.kp b_law_made .nil pass0 (pa_cons (pv 3) pa_nil)))
      (pss_one (ps_for PassesOwn.never rfl (pi_range1 (by rfl) T.mrange (pa_cons pe_int pa_nil)) (pg_name (i := 5) scLaw.nd rfl (.inl rfl))
      (pss_cons (ps_set (i := 6) scLaw.nd rfl (.inl rfl) (pe_call G_law_eased hr_law_eased (by rfl) g_law_eased F_law_eased.kp b_law_eased .nil pass0 (pa_cons (pv 3) (pa_cons (pe_call G_law_weights hr_law_weights (by rfl) g_law_weights F_law_weights.kp b_law_weights .nil pass0 (pa_cons (pv 1) (pa_cons (pv 3) pa_nil))) pa_nil))))
      (pss_cons (ps_set (i := 7) scLaw.nd rfl (.inl rfl) (pe_callTy call_list_of (by rfl) T.mlist (by decide +kernel) (pa_cons (pv 6) pa_nil)))
      (pss_cut (ps_for PassesOwn.never rfl (pi_range1 (by rfl) T.mrange (pa_cons (pe_callB call_len_seq (by rfl) T.mlen PySem.boot_len (pa_cons (pv 6) pa_nil)) pa_nil)) (pg_name (i := 8) scLaw.nd rfl (.inl rfl))
      (pss_cons (ps_set (i := 9) scLaw.nd rfl (.inl rfl) (pe_callSD Groom_at hrroom_at (by rfl) groom_at Froom_at.kp broom_at .nil (fun _ => passNo rfl rfl) (by exact (pa_cons (pv 4) (pa_cons (pv 7) (pa_cons (pv 8) pa_nil))))))
      (pss_cons (ps_if (PW.pt (pw_or (pt_not (pt_val (pe_call G_law_is_whole hr_law_is_whole (by rfl) g_law_is_whole F_law_is_whole.kp b_law_is_whole .nil pass0 (pa_cons (pv 9) pa_nil)))) (pw_or (pt_cmpR op_ne (pv 9) (pe_call G_law_room hr_law_room (by rfl) g_law_room F_law_room.kp b_law_room .nil pass0 (pa_cons (pv 3) (pa_cons (pv 6) (pa_cons (pv 8) pa_nil)))) (nomark _)) (pw_or1 (pt_cmpR (op_neD hr.units) (pv 7) (pv 6) (nomark _))))))
      (pss_one (ps_ret pe_bl))
      pss_nil)
      (pss_cons (ps_par (i := 10) (j := 11) rfl scLaw.nd rfl rfl (by decide) rfl rfl (pa_cons (pe_callTy call_list_of (by rfl) T.mlist (by decide +kernel) (pa_cons (pv 6) pa_nil)) (pa_cons (pe_callTy call_list_of (by rfl) T.mlist (by decide +kernel) (pa_cons (pv 6) pa_nil)) pa_nil)) (by rfl))
      (pss_cons (ps_augS (pv 10) (pv 8) get_list (pv 9) ip_add set_list)
      (pss_cons (ps_augS (pv 11) (pv 8) get_list (pe_op op_add (pv 9) pe_int) ip_add set_list)
      (pss_cons (ps_if (pt_cmpR op_notBl (pe_call Gis_borne hris_borne (by rfl) gis_borne Fis_borne.kp bis_borne .nil pass0 (pa_cons (pv 4) (pa_cons (pv 10) pa_nil))) pe_bl (nomark _))
      (pss_one (ps_ret pe_bl))
      pss_nil)
      (pss_one (ps_if (PW.pt (pw_and (pt_cmpR op_le (pe_callB (cr_max rfl) (by rfl) T.mmax (by decide +kernel) (pa_cons (pv 11) pa_nil)) (pe_op op_pow pe_int pe_int) (nomark _)) (pw_and1 (pt_cmpR op_notBl (pe_call Gis_borne hris_borne (by rfl) gis_borne Fis_borne.kp bis_borne .nil pass0 (pa_cons (pv 4) (pa_cons (pv 11) pa_nil))) pe_bl (nomark _)))))
      (pss_one (ps_ret pe_bl))
      pss_nil)))))))))
      (pss_cut (ps_for PassesOwn.never rfl (pi_list (pe_lst (pa_cons (pe_un un_neg pe_int) (pa_cons (pe_callB call_len_seq (by rfl) T.mlen PySem.boot_len (pa_cons (pv 6) pa_nil)) (pa_cons (pe_un un_neg (pe_callB call_len_seq (by rfl) T.mlen PySem.boot_len (pa_cons (pv 6) pa_nil))) (pa_cons pe_bl (pa_cons (pe_call G_law_odd hr_law_odd (by rfl) g_law_odd F_law_odd.kp b_law_odd .nil pass0 (pa_cons (pv 1) pa_nil)) pa_nil))))))) (pg_name (i := 12) scLaw.nd rfl (.inl rfl))
      (pss_cut (ps_set (i := 13) scLaw.nd rfl (.inl rfl) (pe_and (pe_call G_law_is_whole hr_law_is_whole (by rfl) g_law_is_whole F_law_is_whole.kp b_law_is_whole .nil pass0 (pa_cons (pv 12) pa_nil)) (pe_one (pe_chain op_le op_lt pe_int (pv 12) (pe_callB call_len_seq (by rfl) T.mlen PySem.boot_len (pa_cons (pv 6) pa_nil))))))
      (pss_one (ps_if (PW.pt (pw_and (pt_not (pt_val (pv 13))) (pw_and1 (pt_cmpR op_ne (pe_callG G_law_refused gd hr_law_refused (by rfl) g_law_refused F_law_refused.kp b_law_refused .nil pass0 (pa_cons (pv 4) (pa_cons (pv 7) (pa_cons (pv 12) pa_nil)))) (pe_callB (call_reprO gd hr) (by rfl) T.mrepr (by decide +kernel) (pa_cons (pv 12) pa_nil)) (nomark _)))))
      (pss_one (ps_ret pe_bl))
      pss_nil))))
      (pss_cons (ps_set (i := 8) scLaw.nd rfl (.inl rfl) (pe_call G_law_draw hr_law_draw (by rfl) g_law_draw F_law_draw.kp b_law_draw .nil pass0 (pa_cons (pv 1) (pa_cons (pe_callB call_len_seq (by rfl) T.mlen PySem.boot_len (pa_cons (pv 6) pa_nil)) pa_nil))))
      (pss_one (ps_if (pt_cmpR op_ne (pe_callK0 Groom_at hrroom_at (by rfl) groom_at Froom_at.kp kcroom_at (passF rfl rfl) (pk_cons (pv 8) (pk_cons (pv 7) (pk_cons (pv 4) pk_nil)))) (pe_call G_law_room hr_law_room (by rfl) g_law_room F_law_room.kp b_law_room .nil pass0 (pa_cons (pv 3) (pa_cons (pv 6) (pa_cons (pv 8) pa_nil)))) (nomark _))
      (pss_one (ps_ret pe_bl))
      pss_nil))))))))))))
      (pss_one (ps_ret pe_bl))))
      , ?_⟩
    refine ⟨_, rfl, a, ns, rfl, hS, hlen, fun tp c H1 ntp ntc s1 T1 => ?_⟩
    refine ⟨_, rfl, a, _, rfl, .inl (s1.seq hS), _, _, rfl, _, _, rfl, _, rfl, ?_, ?_, ?_⟩
    · show -(2 ^ 62) ≤ (if (if (12 : Int) < _ then (12 : Int) else _) > 3 then _ else (3 : Int))
      split <;> omega
    · show (if (if (12 : Int) < (((ns.map V.int).length : Nat) : Int) then (12 : Int) else (((ns.map V.int).length : Nat) : Int)) > 3 then (if (12 : Int) < (((ns.map V.int).length : Nat) : Int) then (12 : Int) else (((ns.map V.int).length : Nat) : Int)) else (3 : Int)) < 2 ^ 62
      rw [List.length_map]
      split <;> split <;> omega
    refine for_range (fun i σ H2 => ∃ (v2 v3 v4 v5 v6 v7 v8 v9 v10 v11 v12 v13 : Option V), σ = [some (.ref a), some (.ref tp), v2, v3, v4, v5, v6, v7, v8, v9, v10, v11, v12, v13] ∧ Tape H2 tp c (1000 * i))
      ⟨_, _, _, _, _, _, _, _, _, _, _, _, rfl, T1⟩ ?_ ?_
    · rintro i σ H2 hi ⟨v2, v3, v4, v5, v6, v7, v8, v9, v10, v11, v12, v13, rfl, T2⟩
      have hi2 : i < 100 := by
        have h : (i : Int) < (if (if (12 : Int) < (((ns.map V.int).length : Nat) : Int) then (12 : Int) else (((ns.map V.int).length : Nat) : Int)) > 3 then (if (12 : Int) < (((ns.map V.int).length : Nat) : Int) then (12 : Int) else (((ns.map V.int).length : Nat) : Int)) else (3 : Int)) := Int.lt_toNat.mp hi
        rw [List.length_map] at h
        split at h <;> split at h <;> omega
      refine ⟨_, rfl, tp, c, 1000 * i, rfl, by omega, T2, fun pq r sp rows spans H3 hg hbe hl8 hp nr nsp T3 k3 => ?_⟩
      obtain ⟨_, _, _, hT3, _⟩ := T3.ex
      refine ⟨_, rfl, pq, r, sp, rows, spans, rfl, hp, hg, fun x bl sl H4 hbl hsl0 s4 hbr => ?_⟩
      have nbl : bl ≠ tp := (ne_of_none hT3 hbl).symm
      have nsl : sl ≠ tp := (ne_of_none hT3 hsl0).symm
      have T4 := T3.same s4
      have hp4 := hp.same s4
      have hs := hg.sl
      have h0 := hg.l0
      have h10 := hg.l1
      refine ⟨2, rfl, by omega, by omega, ?_⟩
      refine for_range (lo := 0) (n := (2 : Int).toNat) (fun j σ H' => ∃ (v5 v6 v7 v8 v9 v10 v11 v12 v13 : Option V), σ = [some (.ref a), some (.ref tp), some (.int (0 + (i : Int))), some (.ref pq), some (.ref x), v5, v6, v7, v8, v9, v10, v11, v12, v13] ∧ PartsAt H' pq r sp rows spans ∧ BrAt C CB H' x bl sl rows spans ∧ Tape H' tp c (1000 * i + 100 + 200 * j))
        ⟨_, _, _, _, _, _, _, _, _, rfl, hp4, hbr, T4⟩ ?_ ?_
      · rintro j σ H5 hj ⟨v5, v6, v7, v8, v9, v10, v11, v12, v13, rfl, hp5, hbr5, T5⟩
        have hj2 : j < 2 := hj
        obtain ⟨_, _, _, hT5, _⟩ := T5.ex
        refine ⟨_, rfl, _, rfl, _, rfl, tp, c, pq, r, sp, rows, spans, _, rfl, hp5, nr, nsp, by omega, hbe, hg.sb, by omega, T5, fun lw ldw H6 elw llw hlw nlw hlwn T6 k6 => ?_⟩
        have hp6 := hp5.keep hT5 k6 nr nsp
        have hbr6 := hbr5.keep hT5 k6 nbl nsl
        refine ⟨pq, r, sp, lw, rows, spans, ldw, rfl, hp6, elw, llw, hs, h10, fun e ld H7 s7 he0 ee le hE => ?_⟩
        refine ⟨_, rfl, e, _, rfl, .inl (SqL.of ee), fun hd hhd => ?_⟩
        have hp7 := hp6.same s7
        have hbr7 := hbr6.same s7
        have T7 := T6.same s7
        have sh := same_upd (o := .lst (ld.map V.int)) hhd
        have hp8 := hp7.same sh
        have hbr8 := hbr7.same sh
        have T8 := T7.new (o := .lst (ld.map V.int)) hhd
        have ee8 := sh _ _ ee
        have ehd8 : (upd H7 hd (.lst (ld.map V.int))) hd = some (.lst (ld.map V.int)) := upd_same
        have ne : e ≠ tp := T6.ne he0
        have nhd : hd ≠ tp := T7.ne hhd
        generalize upd H7 hd (.lst (ld.map V.int)) = H8 at hp8 hbr8 T8 ee8 ehd8 ⊢
        have le' : ld.length = rows.length + 1 := by omega
        have rli := refl_ints ld
        have eqi : ∀ z : Int, (!decide (V.int z = V.int z)) = false := fun z => by rw [decide_eq_true rfl]; rfl
        -- each span
        refine ⟨fun σ H' => ∃ (v8 v9 v10 v11 : Option V), σ = [some (.ref a), some (.ref tp), some (.int (0 + (i : Int))), some (.ref pq), some (.ref x), some (.int (0 + (j : Int))), some (.ref e), some (.ref hd), v8, v9, v10, v11, v12, v13] ∧ Same H8 H', ?_, ?_⟩
        · refine ⟨_, rfl, e, _, rfl, .inl (SqL.of ee8), _, rfl, by rw [List.length_map]; omega, by rw [List.length_map]; omega, ?_⟩
          refine for_range (lo := 0) (n := (((ld.map V.int).length : Nat) : Int).toNat) (fun k σ H' => ∃ (v8 v9 v10 v11 : Option V), σ = [some (.ref a), some (.ref tp), some (.int (0 + (i : Int))), some (.ref pq), some (.ref x), some (.int (0 + (j : Int))), some (.ref e), some (.ref hd), v8, v9, v10, v11, v12, v13] ∧ Same H8 H')
            ⟨_, _, _, _, rfl, same_refl⟩ ?_ ?_
          · rintro k σ H9 hk ⟨v8, v9, v10, v11, rfl, s9⟩
            rw [List.length_map] at hk
            have hk2 : k < ld.length := by omega
            have hks : k < spans.length := by omega
            have ek : (0 : Int) + (k : Int) = (k : Int) := by omega
            have hbr9 := hbr8.same s9
            have hp9 := hp8.same s9
            refine ⟨_, rfl, _, rfl, _, rfl, x, bl, sl, hd, .int (0 + (k : Int)), rows, spans, ld, rfl, hbr9, h0, h10, s9 _ _ ehd8, le', hs, .inl ⟨k, congrArg V.int ek, by omega, fun m H10 s10 hm => ?_⟩⟩
            have s810 := s9.trans s10
            refine ⟨_, rfl, .int m, rfl, .inl ⟨m, rfl, _, rfl, iteF ?_⟩⟩
            refine ⟨_, rfl, _, rfl, _, rfl, _, rfl, pq, r, sp, e, rows, spans, ld, k, congrArg (fun z => [V.ref pq, V.ref e, V.int z]) ek, hp9.same s10, s810 _ _ ee8, le, hs, h10, hks, fun m2 H11 s11 hm2 => ?_⟩
            have em := room_one hm2 hm
            subst em
            have s811 := s810.trans s11
            refine ⟨rfl, _, rfl, ?_⟩
            rw [eqi]
            refine iteF ⟨_, rfl, _, rfl, .list (ld.map PyData.int), .list (ld.map PyData.int), .lst (SqL.of (s811 _ _ ehd8)) (dp_ints _), .lst (SqL.of (s811 _ _ ee8)) (dp_ints _), ke_shaped_ints _, ke_shaped_ints _, _, rfl, ?_⟩
            rw [rli]
            refine iteF ⟨_, rfl, e, _, rfl, .inl (SqL.of (s811 _ _ ee8)), fun lm hlm => ⟨_, rfl, e, _, rfl, .inl (SqL.of (upd_at hlm (s811 _ _ ee8))), fun lt hlt => ?_⟩⟩
            have nlt : lt ≠ lm := fun z => by rw [z, upd_same] at hlt; cases hlt
            have hlt0 : H11 lt = none := by rw [upd_ne nlt] at hlt; exact hlt
            have em0 : (upd (upd H11 lm (.lst (ld.map V.int))) lt (.lst (ld.map V.int))) lm = some (.lst (ld.map V.int)) := upd_at hlt upd_same
            refine ⟨_, _, rfl, ?_⟩
            refine ⟨_, rfl, _, rfl, lm, _, _, k, _, rfl, rfl, ek, em0, gD_v hk2, _, rfl, _, _, rfl, rfl, lm, _, (k : Int), k, rfl, congrArg V.int ek, em0, ixN_nat (by rw [List.length_map]; exact hk2), ?_⟩
            have et0 : (upd (upd (upd H11 lm (.lst (ld.map V.int))) lt (.lst (ld.map V.int))) lm (.lst ((ld.map V.int).set k (.int (gD ld k + m2))))) lt = some (.lst (ld.map V.int)) := by rw [upd_ne nlt]; exact upd_same
            refine ⟨_, rfl, _, rfl, lt, _, _, k, _, rfl, rfl, ek, et0, gD_v hk2, _, rfl, _, _, rfl, rfl, _, _, rfl, rfl, lt, _, (k : Int), k, rfl, congrArg V.int ek, et0, ixN_nat (by rw [List.length_map]; exact hk2), ?_⟩
            have em1 : (upd (upd (upd (upd H11 lm (.lst (ld.map V.int))) lt (.lst (ld.map V.int))) lm (.lst ((ld.map V.int).set k (.int (gD ld k + m2))))) lt (.lst ((ld.map V.int).set k (.int (gD ld k + (m2 + 1)))))) lm = some (.lst ((ld.set k (gD ld k + m2)).map V.int)) := by rw [upd_ne nlt.symm, upd_same, List.map_set]
            have et1 : (upd (upd (upd (upd H11 lm (.lst (ld.map V.int))) lt (.lst (ld.map V.int))) lm (.lst ((ld.map V.int).set k (.int (gD ld k + m2))))) lt (.lst ((ld.map V.int).set k (.int (gD ld k + (m2 + 1)))))) lt = some (.lst ((ld.set k (gD ld k + (m2 + 1))).map V.int)) := by rw [upd_same, List.map_set]
            have s13 : Same H11 (upd (upd (upd (upd H11 lm (.lst (ld.map V.int))) lt (.lst (ld.map V.int))) lm (.lst ((ld.map V.int).set k (.int (gD ld k + m2))))) lt (.lst ((ld.map V.int).set k (.int (gD ld k + (m2 + 1)))))) := fun z o ez => by
              have n1 := ne_of_none ez hlm
              have n2 := ne_of_none ez hlt0
              rw [upd_ne n2, upd_ne n1, upd_ne n2, upd_ne n1]
              exact ez
            generalize upd (upd (upd (upd H11 lm (.lst (ld.map V.int))) lt (.lst (ld.map V.int))) lm (.lst ((ld.map V.int).set k (.int (gD ld k + m2))))) lt (.lst ((ld.map V.int).set k (.int (gD ld k + (m2 + 1))))) = H13 at em1 et1 s13 ⊢
            have s813 := s811.trans s13
            have lm1 : (ld.set k (gD ld k + m2)).length = rows.length + 1 := by rw [List.length_set]; exact le'
            have lt1 : (ld.set k (gD ld k + (m2 + 1))).length = rows.length + 1 := by rw [List.length_set]; exact le'
            refine ⟨_, rfl, _, rfl, x, bl, sl, lm, rows, spans, _, rfl, hbr8.same s813, h10, em1, lm1, hs, fun y H14 s14 ft => ?_⟩
            have ey := fault_one ft (borne_more le hs hks hE hm)
            subst ey
            have s814 := s813.trans s14
            refine ⟨_, _, rfl, rfl, _, rfl, iteF ?_⟩
            refine ⟨_, rfl, lt, _, rfl, SqL.of (s14 _ _ et1), by rw [lt1]; omega, fun mx _ _ => ⟨_, _, rfl, rfl, ⟨by decide, by decide, by decide⟩, _, _, rfl, rfl, _, rfl, ite2 (fun c => ?_) (fun c => ?_)⟩⟩
            · refine ⟨_, rfl, _, rfl, x, bl, sl, lt, rows, spans, _, rfl, hbr8.same s814, h10, s14 _ _ et1, lt1, hs, fun y H15 s15 ft2 => ?_⟩
              cases y with
              | none => exact absurd ft2 (too_far le hs hks hm)
              | some y => exact ⟨_, _, rfl, rfl, _, rfl, iteF ⟨_, _, _, _, rfl, s814.trans s15⟩⟩
            · exact ⟨_, _, _, _, rfl, s814⟩
          · rintro σ H9 ⟨v8, v9, v10, v11, rfl, s9⟩
            exact ⟨_, _, _, _, rfl, s9⟩
        rintro σ H9 ⟨v8, v9, v10, v11, rfl, s9⟩
        have hp9 := hp8.same s9
        have hbr9 := hbr8.same s9
        have T9 := T8.same s9
        have ee9 := s9 _ _ ee8
        have ehd9 := s9 _ _ ehd8
        have lenE : ((ld.map V.int).length : Int) = (rows.length : Int) + 1 := by rw [List.length_map, le']; rfl
        refine ⟨fun σ H' => ∃ (w12 w13 : Option V), σ = [some (.ref a), some (.ref tp), some (.int (0 + (i : Int))), some (.ref pq), some (.ref x), some (.int (0 + (j : Int))), some (.ref e), some (.ref hd), v8, v9, v10, v11, w12, w13] ∧ Keep tp H9 H' ∧ Tape H' tp c (1000 * i + 100 + 200 * j + 80), ?_, ?_⟩
        · refine ⟨_, rfl, _, rfl, e, _, rfl, .inl (SqL.of ee9), _, rfl, e, _, rfl, .inl (SqL.of ee9), _, rfl, _, rfl, tp, c, _, rfl, by omega, T9, fun od dd H10 hth T10 k10 => ⟨by show 5 ≤ sizeLine; decide, fun l5 hl5 => ⟨l5, rfl, ⟨_, SqL.of upd_same⟩, ?_⟩⟩⟩
          have k11 : Keep tp H9 (upd H10 l5 (.lst [.int (-1), .int ((ld.map V.int).length : Nat), .int (-((ld.map V.int).length : Nat)), .bl true, od])) := k10.new hl5
          have T11 := T10.new (o := .lst [.int (-1), .int ((ld.map V.int).length : Nat), .int (-((ld.map V.int).length : Nat)), .bl true, od]) hl5
          have hth11 : Thing tp (upd H10 l5 (.lst [.int (-1), .int ((ld.map V.int).length : Nat), .int (-((ld.map V.int).length : Nat)), .bl true, od])) od dd := hth.same (same_upd hl5)
          have e11 : (upd H10 l5 (.lst [.int (-1), .int ((ld.map V.int).length : Nat), .int (-((ld.map V.int).length : Nat)), .bl true, od])) l5 = some (.lst [.int (-1), .int ((ld.map V.int).length : Nat), .int (-((ld.map V.int).length : Nat)), .bl true, od]) := upd_same
          generalize upd H10 l5 (.lst [.int (-1), .int ((ld.map V.int).length : Nat), .int (-((ld.map V.int).length : Nat)), .bl true, od]) = H11 at k11 T11 hth11 e11 ⊢
          obtain ⟨_, _, _, hT9, _⟩ := T9.ex
          have hbr11 := hbr9.keep hT9 k11 nbl nsl
          have ee11 := k11 _ _ ne ee9
          have ehd11 := k11 _ _ nhd ehd9
          refine for_list (K := K) (a := l5) (xs := [.int (-1), .int ((ld.map V.int).length : Nat), .int (-((ld.map V.int).length : Nat)), .bl true, od]) (fun t σ H' => ∃ (w12 w13 : Option V), σ = [some (.ref a), some (.ref tp), some (.int (0 + (i : Int))), some (.ref pq), some (.ref x), some (.int (0 + (j : Int))), some (.ref e), some (.ref hd), v8, v9, v10, v11, w12, w13] ∧ Same H11 H')
            ⟨_, _, rfl, same_refl⟩ (fun t σ H' _ ⟨_, _, _, z⟩ => SqL.of (z _ _ e11)) ?_ ?_
          · rintro t y σ H12 hy ⟨w12, w13, rfl, s12⟩
            have hthy : ∃ d, Thing tp H12 y d := by
              rcases t with _ | _ | _ | _ | _ | t
              · rw [← Option.some.inj hy]; exact ⟨_, thing_int (by decide)⟩
              · rw [← Option.some.inj hy]; exact ⟨_, thing_int (by omega)⟩
              · rw [← Option.some.inj hy]; exact ⟨_, thing_int (by omega)⟩
              · rw [← Option.some.inj hy]; exact ⟨_, .th (.bl true) (by decide +kernel) (by unfold ShowOk; decide +kernel)⟩
              · rw [← Option.some.inj hy]; exact ⟨_, hth11.same s12⟩
              · exact absurd hy (by simp)
            obtain ⟨d, hthy⟩ := hthy
            have ee12 := s12 _ _ ee11
            have ehd12 := s12 _ _ ehd11
            have hbr12 := hbr11.same s12
            -- fine
            refine ⟨fun σ H' => ∃ (b : Bool), σ = [some (.ref a), some (.ref tp), some (.int (0 + (i : Int))), some (.ref pq), some (.ref x), some (.int (0 + (j : Int))), some (.ref e), some (.ref hd), v8, v9, v10, v11, some y, some (.bl b)] ∧ H' = H12 ∧ (b = false → BadAt K H12 rows.length y), ?_, ?_⟩
            · refine ⟨_, rfl, y, rfl, ?_⟩
              rcases thing_kind (K := K) hthy with ⟨z, rfl⟩ | ⟨b, rfl⟩ | ⟨ty, hty, hk⟩
              · refine .inl ⟨z, rfl, _, rfl, iteT ?_⟩
                refine ⟨_, rfl, _, _, rfl, rfl, _, rfl, ite2 (fun c1 => ?_) (fun c1 => ?_)⟩
                · refine ⟨_, rfl, e, _, rfl, .inl (SqL.of ee12), _, _, rfl, rfl, ⟨_, rfl, rfl, fun hb => .inl ⟨z, rfl, fun hz => ?_⟩⟩⟩
                  have h3 : ¬ z < ((ld.map V.int).length : Int) := of_decide_eq_false hb
                  omega
                · exact ⟨false, rfl, rfl, fun _ => .inl ⟨z, rfl, fun hz => c1 (decide_eq_true hz.1)⟩⟩
              · exact .inr (.inl ⟨b, rfl, _, rfl, iteF ⟨false, rfl, rfl, fun _ => .inr (.inl ⟨b, rfl⟩)⟩⟩)
              · exact .inr (.inr ⟨ty, hty, hk, _, rfl, iteF ⟨false, rfl, rfl, fun _ => .inr (.inr ⟨ty, hty, hk⟩)⟩⟩)
            rintro σ H' ⟨b, rfl, rfl, hbad⟩
            refine ⟨_, rfl, _, rfl, ?_⟩
            cases b with
            | true => exact iteF (iteF ⟨_, _, rfl, s12⟩)
            | false =>
              refine iteT ⟨_, rfl, _, rfl, _, rfl, x, bl, sl, hd, tp, y, d, rows, spans, ld, rfl, hbr12, h0, h10, ehd12, le', hs, hbad rfl, hthy, fun H13 s13 => ?_⟩
              refine ⟨_, rfl, y, tp, d, rfl, hthy.same s13, rfl, _, rfl, ?_⟩
              rw [decide_eq_true rfl]
              exact iteF ⟨_, _, rfl, s12.trans s13⟩
          · rintro σ H' ⟨w12, w13, rfl, s12⟩
            exact ⟨_, _, rfl, k11.same s12, (T11.same s12).mono (by omega)⟩
        rintro σ H10 ⟨w12, w13, rfl, k10, T10⟩
        obtain ⟨_, _, _, hT9, _⟩ := T9.ex
        have hp10 := hp9.keep hT9 k10 nr nsp
        have hbr10 := hbr9.keep hT9 k10 nbl nsl
        have ee10 := k10 _ _ ne ee9
        have ehd10 := k10 _ _ nhd ehd9
        refine ⟨_, rfl, _, rfl, e, _, rfl, .inl (SqL.of ee10), tp, c, _, _, rfl, by omega, by omega, by omega, T10, fun d H11 d0 d1 T11 k11 => ?_⟩
        obtain ⟨dn, rfl⟩ := Int.eq_ofNat_of_zero_le d0
        obtain ⟨_, _, _, hT10, _⟩ := T10.ex
        have hp11 := hp10.keep hT10 k11 nr nsp
        have hbr11 := hbr10.keep hT10 k11 nbl nsl
        have ee11 := k11 _ _ ne ee10
        have ehd11 := k11 _ _ nhd ehd10
        refine ⟨_, rfl, _, rfl, _, rfl, x, bl, sl, hd, .int (dn : Int), rows, spans, ld, rfl, hbr11, h0, h10, ehd11, le', hs, .inl ⟨dn, rfl, by omega, fun m H12 s12 hm => ?_⟩⟩
        refine ⟨_, rfl, _, rfl, _, rfl, pq, r, sp, e, rows, spans, ld, dn, rfl, hp11.same s12, s12 _ _ ee11, le, hs, h10, by omega, fun m2 H13 s13 hm2 => ?_⟩
        have em := room_one hm2 hm
        subst em
        refine ⟨rfl, _, rfl, ?_⟩
        rw [eqi]
        have s1213 := s12.trans s13
        exact iteF ⟨_, _, _, _, _, _, _, _, _, rfl, hp11.same s1213, hbr11.same s1213, (T11.same s1213).mono (by omega)⟩
      · rintro σ H5 ⟨v5, v6, v7, v8, v9, v10, v11, v12, v13, rfl, _, _, T5⟩
        exact ⟨_, _, _, _, _, _, _, _, _, _, _, _, rfl, T5.mono (by have : (2 : Int).toNat = 2 := rfl; omega)⟩
    · rintro σ H2 ⟨v2, v3, v4, v5, v6, v7, v8, v9, v10, v11, v12, v13, rfl, T2⟩
      exact q H2
end
theorem oex_of {K : PySem.W.Frag} {B newId initId : String} {nm q : Str} {C N : Addr} {bs bm : List Value} {sn : List Str} {sub : List Value} {ab : Bool} {col : Option Bool} {dd : Option Addr} {m0 m1 m2 m3 m5 : Option Value}
    (FB : PySem.ExcBaseFacts B newId initId bm) (SF : PySem.StoreFacts B bm "object.__setattr__" "object") (xL : K.lookup C = some (excClassObj nm q C N bs bm true sn sub ab col dd m0 m1 m2 m3 m5 newId)) (ht : PySem.W.excTail bm bm = true)
    (hd : PySem.W.hasDictIn K C = true) (sa : PySem.W.findIn K (.ref C) "__setattr__" = some (some (.builtin "object.__setattr__"))) (exC : PySem.W.subIn K (.ref C) (.type "BaseException") = some true) (tyC : PySem.W.typeIn K (.ref C) = some (.type "type")) (kC : PySem.W.keepIn K (.ref C) = true) : OexB K C := by
  refine ⟨⟨B, newId, initId, bm, bm, nm, q, N, bs, true, sn, sub, ab, col, dd, m0, m1, m2, m3, m5, FB, ⟨FB.hasB, FB.noAttr, FB.noName⟩, xL⟩, ⟨B, bm, SF, ?_⟩, hd, sa, exC, tyC, kC⟩
  unfold PySem.W.excOver PySem.W.clsIn
  rw [xL]
  simp [excClassObj, ht]
/-- KeyError: stores by its own facts, made by LookupError's __new__ -/
abbrev keyTail : List Value := [.type "KeyError", .type "LookupError", .type "Exception", .type "BaseException", .type "object"]
theorem store_KeyError : PySem.StoreFacts "KeyError" keyTail "object.__setattr__" "object" :=
  ⟨by kernel_rfl, .of (n := "__setattr__") (owner := "object") (by rw [typeLookup_type, builtinLookup_eq_fast]; kernel_rfl) (by decide +kernel) (by decide +kernel) (by decide +kernel) (.inl (by decide +kernel)) (by rw [isSubtype_type]; kernel_rfl),
    PySem.F.entry_object_sa, by decide +kernel, by decide +kernel, by decide +kernel, fun a b c => by unfold argsOk; kernel_rfl, fun self => by kernel_rfl⟩
theorem oex_key {K : PySem.W.Frag} {nm q : Str} {C N : Addr} {bs : List Value} {sn : List Str} {sub : List Value} {ab : Bool} {col : Option Bool} {dd : Option Addr} {m0 m1 m2 m3 m5 : Option Value}
    (xL : K.lookup C = some (excClassObj nm q C N bs keyTail true sn sub ab col dd m0 m1 m2 m3 m5 "LookupError.__new__"))
    (hd : PySem.W.hasDictIn K C = true) (sa : PySem.W.findIn K (.ref C) "__setattr__" = some (some (.builtin "object.__setattr__"))) (exC : PySem.W.subIn K (.ref C) (.type "BaseException") = some true) (tyC : PySem.W.typeIn K (.ref C) = some (.type "type")) (kC : PySem.W.keepIn K (.ref C) = true) : OexB K C := by
  refine ⟨⟨"LookupError", _, _, _, keyTail, nm, q, N, bs, true, sn, sub, ab, col, dd, m0, m1, m2, m3, m5, PySem.F.excBase_LookupError, ⟨by decide +kernel, by decide +kernel, by decide +kernel⟩, xL⟩, ⟨"KeyError", keyTail, store_KeyError, ?_⟩, hd, sa, exC, tyC, kC⟩
  unfold PySem.W.excOver PySem.W.clsIn
  rw [xL]
  simp [excClassObj, show PySem.W.excTail keyTail keyTail = true by decide +kernel]
theorem kit_up {K : PySem.W.Frag} {C : Addr} {T : String} (m : PySem.W.kitMeta T = true) (s : PySem.W.subIn K (.ref C) (.type T) = some true) : PySem.W.kitOne K (.ref C) (.type T) = some true := by
  show (if (Value.ref C == Value.type T) = true then some true else if PySem.W.kitMeta T = true then PySem.W.subIn K (.ref C) (.type T) else none) = some true
  rw [if_neg (by intro z; cases z), if_pos m]
  exact s
theorem kit_cls2 {K : PySem.W.Frag} {C D : Addr} {b : Bool} (ic : PySem.W.isClsIn K D = true) (ty : PySem.W.typeIn K (.ref D) = some (.type "type")) (s : PySem.W.subIn K (.ref C) (.ref D) = some b) : PySem.W.kitCls K (.ref C) (.ref D) = some b := by
  have ic' : (PySem.W.clsIn K D).isSome = true := ic
  have e : ((PySem.W.clsIn K D).isSome && PySem.W.typeIn K (.ref D) == some (.type "type")) = true := by rw [ic', ty]; rfl
  show (if ((PySem.W.clsIn K D).isSome && PySem.W.typeIn K (.ref D) == some (.type "type")) = true then PySem.W.subIn K (.ref C) (.ref D) else none) = some b
  rw [if_pos e]
  exact s
theorem kit_other {K : PySem.W.Frag} {C D : Addr} (self : PySem.W.subIn K (.ref C) (.ref C) = some true) (ic : PySem.W.isClsIn K D = true) (ty : PySem.W.typeIn K (.ref D) = some (.type "type")) (s : PySem.W.subIn K (.ref C) (.ref D) = some false) : PySem.W.kitOne K (.ref C) (.ref D) = some false := by
  have ne : ¬ (Value.ref C == Value.ref D) = true := by
    intro z
    have e := eq_of_beq z
    injection e with e
    subst e
    rw [self] at s
    cases s
  show (if (Value.ref C == Value.ref D) = true then some true else PySem.W.kitCls K (.ref C) (.ref D)) = some false
  rw [if_neg ne]
  exact kit_cls2 ic ty s
theorem exm_hit {K : PySem.W.Frag} {C : Addr} (ex : PySem.W.subIn K (.ref C) (.type "BaseException") = some true) (ic : PySem.W.isClsIn K C = true) (ty : PySem.W.typeIn K (.ref C) = some (.type "type")) (s : PySem.W.subIn K (.ref C) (.ref C) = some true) : PySem.W.exmOne K (.ref C) (.ref C) = some true := by
  show (if (PySem.W.subIn K (.ref C) (.type "BaseException") == some true) = true then PySem.W.kitCls K (.ref C) (.ref C) else none) = some true
  rw [if_pos (by rw [ex]; rfl)]
  exact kit_cls2 ic ty s
theorem any_no {K : PySem.W.Frag} {t c : Value} {cs : List Value} (h : PySem.W.kitOne K t c = some false) (r : PySem.W.kitAny K t cs = some false) : PySem.W.kitAny K t (c :: cs) = some false := kitAny_cons h (fun _ => r) (fun z => nomatch z)
theorem all_mk {l : PySem.W.OpenLaw} {w : World} {K : PySem.W.Frag} {h : Heap} {mg : Str → Option Value} {fa fis_whole fhalves fspare fneed_borne fis_borne froom_at f_are_boats f_are_spans f_law_tape f_law_draw f_law_pick f_law_names f_law_is_whole f_law_odd f_law_boat_rows f_law_span_row f_law_drawn_parts f_law_made f_law_weights f_law_eased f_law_room f_law_refused flaw fBoat___init__ fBridge___init__ fBridge___len__ fBridge_boats fBridge_spans fOverload___init__ fNoSpan___init__ CBoat CBridge COverload CNoSpan CNoBoat CNoBridge CNoRule : Addr} (X : K.In h) (G : h.Ns mainGlobals mg) (hfa : mg "law" = some (.ref fa))
    {odis_whole anis_whole odhalves anhalves odspare anspare odneed_borne anneed_borne odis_borne anis_borne odroom_at anroom_at od_are_boats an_are_boats od_are_spans an_are_spans od_law_tape an_law_tape od_law_draw an_law_draw od_law_pick an_law_pick od_law_names an_law_names od_law_is_whole an_law_is_whole od_law_odd an_law_odd od_law_boat_rows an_law_boat_rows od_law_span_row an_law_span_row od_law_drawn_parts an_law_drawn_parts od_law_made an_law_made od_law_weights an_law_weights od_law_eased an_law_eased od_law_room an_law_room od_law_refused an_law_refused odlaw anlaw odBoat___init__ anBoat___init__ odBridge___init__ anBridge___init__ odBridge___len__ anBridge___len__ odBridge_boats anBridge_boats odBridge_spans anBridge_spans odOverload___init__ anOverload___init__ odNoSpan___init__ anNoSpan___init__ : Option Addr} {slis_whole slhalves slspare slneed_borne slis_borne slroom_at sl_are_boats sl_are_spans sl_law_tape sl_law_draw sl_law_pick sl_law_names sl_law_is_whole sl_law_odd sl_law_boat_rows sl_law_span_row sl_law_drawn_parts sl_law_made sl_law_weights sl_law_eased sl_law_room sl_law_refused sllaw slBoat___init__ slBridge___init__ slBridge___len__ slBridge_boats slBridge_spans slOverload___init__ slNoSpan___init__ : Array (Option Value)} {ocis_whole kVis_whole dcis_whole pmis_whole cdis_whole ctis_whole ochalves kVhalves dchalves pmhalves cdhalves cthalves ocspare kVspare dcspare pmspare cdspare ctspare ocneed_borne kVneed_borne dcneed_borne pmneed_borne cdneed_borne ctneed_borne ocis_borne kVis_borne dcis_borne pmis_borne cdis_borne ctis_borne ocroom_at kVroom_at dcroom_at pmroom_at cdroom_at ctroom_at oc_are_boats kV_are_boats dc_are_boats pm_are_boats cd_are_boats ct_are_boats oc_are_spans kV_are_spans dc_are_spans pm_are_spans cd_are_spans ct_are_spans oc_law_tape kV_law_tape dc_law_tape pm_law_tape cd_law_tape ct_law_tape oc_law_draw kV_law_draw dc_law_draw pm_law_draw cd_law_draw ct_law_draw oc_law_pick kV_law_pick dc_law_pick pm_law_pick cd_law_pick ct_law_pick oc_law_names kV_law_names dc_law_names pm_law_names cd_law_names ct_law_names oc_law_is_whole kV_law_is_whole dc_law_is_whole pm_law_is_whole cd_law_is_whole ct_law_is_whole oc_law_odd kV_law_odd dc_law_odd pm_law_odd cd_law_odd ct_law_odd oc_law_boat_rows kV_law_boat_rows dc_law_boat_rows pm_law_boat_rows cd_law_boat_rows ct_law_boat_rows oc_law_span_row kV_law_span_row dc_law_span_row pm_law_span_row cd_law_span_row ct_law_span_row oc_law_drawn_parts kV_law_drawn_parts dc_law_drawn_parts pm_law_drawn_parts cd_law_drawn_parts ct_law_drawn_parts oc_law_made kV_law_made dc_law_made pm_law_made cd_law_made ct_law_made oc_law_weights kV_law_weights dc_law_weights pm_law_weights cd_law_weights ct_law_weights oc_law_eased kV_law_eased dc_law_eased pm_law_eased cd_law_eased ct_law_eased oc_law_room kV_law_room dc_law_room pm_law_room cd_law_room ct_law_room oc_law_refused kV_law_refused dc_law_refused pm_law_refused cd_law_refused ct_law_refused oclaw kVlaw dclaw pmlaw cdlaw ctlaw ocBoat___init__ kVBoat___init__ dcBoat___init__ pmBoat___init__ cdBoat___init__ ctBoat___init__ ocBridge___init__ kVBridge___init__ dcBridge___init__ pmBridge___init__ cdBridge___init__ ctBridge___init__ ocBridge___len__ kVBridge___len__ dcBridge___len__ pmBridge___len__ cdBridge___len__ ctBridge___len__ ocBridge_boats kVBridge_boats dcBridge_boats pmBridge_boats cdBridge_boats ctBridge_boats ocBridge_spans kVBridge_spans dcBridge_spans pmBridge_spans cdBridge_spans ctBridge_spans ocOverload___init__ kVOverload___init__ dcOverload___init__ pmOverload___init__ cdOverload___init__ ctOverload___init__ ocNoSpan___init__ kVNoSpan___init__ dcNoSpan___init__ pmNoSpan___init__ cdNoSpan___init__ ctNoSpan___init__ : Value} {nmOverload qOverload : Str} {NOverload : Addr} {bsOverload : List Value} {snOverload : List Str} {subOverload : List Value} {abOverload : Bool} {colOverload : Option Bool} {ddOverload : Option Addr} {p0Overload p1Overload p2Overload p3Overload p5Overload : Option Value} {nmNoSpan qNoSpan : Str} {NNoSpan : Addr} {bsNoSpan : List Value} {snNoSpan : List Str} {subNoSpan : List Value} {abNoSpan : Bool} {colNoSpan : Option Bool} {ddNoSpan : Option Addr} {p0NoSpan p1NoSpan p2NoSpan p3NoSpan p5NoSpan : Option Value} {tMOST_BOATS tMOST_BORNE : Tok}
    (aNoBoat : PySem.W.nsIn K mainGlobals "NoBoat" = some (some (.ref CNoBoat))) (tyNoBoat : PySem.W.typeIn K (.ref CNoBoat) = some (.type "type")) (icNoBoat : PySem.W.isClsIn K CNoBoat = true)
    (aNoBridge : PySem.W.nsIn K mainGlobals "NoBridge" = some (some (.ref CNoBridge))) (tyNoBridge : PySem.W.typeIn K (.ref CNoBridge) = some (.type "type")) (icNoBridge : PySem.W.isClsIn K CNoBridge = true)
    (aNoRule : PySem.W.nsIn K mainGlobals "NoRule" = some (some (.ref CNoRule))) (tyNoRule : PySem.W.typeIn K (.ref CNoRule) = some (.type "type")) (icNoRule : PySem.W.isClsIn K CNoRule = true)
    (aOverload : PySem.W.nsIn K mainGlobals "Overload" = some (some (.ref COverload))) (xlOverload : K.lookup COverload = some (excClassObj nmOverload qOverload COverload NOverload bsOverload [.type "OverflowError", .type "ArithmeticError", .type "Exception", .type "BaseException", .type "object"] true snOverload subOverload abOverload colOverload ddOverload p0Overload p1Overload p2Overload p3Overload p5Overload "OverflowError.__new__"))
    (hdOverload : PySem.W.hasDictIn K COverload = true) (saOverload : PySem.W.findIn K (.ref COverload) "__setattr__" = some (some (.builtin "object.__setattr__"))) (exOverload : PySem.W.subIn K (.ref COverload) (.type "BaseException") = some true) (tyOverload : PySem.W.typeIn K (.ref COverload) = some (.type "type")) (kcOverload : PySem.W.keepIn K (.ref COverload) = true) (icOverload : PySem.W.isClsIn K COverload = true) (seOverload : PySem.W.subIn K (.ref COverload) (.ref COverload) = some true) (upOverload : PySem.W.subIn K (.ref COverload) (.type "OverflowError") = some true)
    (gaOverload : PySem.W.findIn K (.ref COverload) "__getattribute__" = some (some (.builtin "BaseException.__getattribute__"))) (ggOverload : PySem.W.findIn K (.ref COverload) "__getattr__" = some none) (haOverload : PySem.W.findIn K (.ref COverload) "__class__" = some (some (.builtin "object.__class__"))) (hnOverload : PySem.W.specialIn K (.builtin "object.__class__") "__get__" = some (some (.builtin "getset_descriptor.__get__"))) (htOverload : PySem.W.takesIn K (.builtin "object.__class__") = some true) (hmOverload : PySem.W.mroIn K COverload (.type "object") = some true)
    (nOverload_part : PySem.W.findIn K (.ref COverload) "part" = some none)
    (nOverload_at : PySem.W.findIn K (.ref COverload) "at" = some none)
    (nOverload_over : PySem.W.findIn K (.ref COverload) "over" = some none)
    (noOverload_NoBoat : PySem.W.subIn K (.ref COverload) (.ref CNoBoat) = some false)
    (noOverload_NoBridge : PySem.W.subIn K (.ref COverload) (.ref CNoBridge) = some false)
    (noOverload_NoRule : PySem.W.subIn K (.ref COverload) (.ref CNoRule) = some false)
    (aNoSpan : PySem.W.nsIn K mainGlobals "NoSpan" = some (some (.ref CNoSpan))) (xlNoSpan : K.lookup CNoSpan = some (excClassObj nmNoSpan qNoSpan CNoSpan NNoSpan bsNoSpan [.type "IndexError", .type "LookupError", .type "Exception", .type "BaseException", .type "object"] true snNoSpan subNoSpan abNoSpan colNoSpan ddNoSpan p0NoSpan p1NoSpan p2NoSpan p3NoSpan p5NoSpan "IndexError.__new__"))
    (hdNoSpan : PySem.W.hasDictIn K CNoSpan = true) (saNoSpan : PySem.W.findIn K (.ref CNoSpan) "__setattr__" = some (some (.builtin "object.__setattr__"))) (exNoSpan : PySem.W.subIn K (.ref CNoSpan) (.type "BaseException") = some true) (tyNoSpan : PySem.W.typeIn K (.ref CNoSpan) = some (.type "type")) (kcNoSpan : PySem.W.keepIn K (.ref CNoSpan) = true) (icNoSpan : PySem.W.isClsIn K CNoSpan = true) (seNoSpan : PySem.W.subIn K (.ref CNoSpan) (.ref CNoSpan) = some true) (upNoSpan : PySem.W.subIn K (.ref CNoSpan) (.type "IndexError") = some true)
    (gaNoSpan : PySem.W.findIn K (.ref CNoSpan) "__getattribute__" = some (some (.builtin "BaseException.__getattribute__"))) (ggNoSpan : PySem.W.findIn K (.ref CNoSpan) "__getattr__" = some none) (haNoSpan : PySem.W.findIn K (.ref CNoSpan) "__class__" = some (some (.builtin "object.__class__"))) (hnNoSpan : PySem.W.specialIn K (.builtin "object.__class__") "__get__" = some (some (.builtin "getset_descriptor.__get__"))) (htNoSpan : PySem.W.takesIn K (.builtin "object.__class__") = some true) (hmNoSpan : PySem.W.mroIn K CNoSpan (.type "object") = some true)
    (nNoSpan_at : PySem.W.findIn K (.ref CNoSpan) "at" = some none)
    (noNoSpan_NoBoat : PySem.W.subIn K (.ref CNoSpan) (.ref CNoBoat) = some false)
    (noNoSpan_NoBridge : PySem.W.subIn K (.ref CNoSpan) (.ref CNoBridge) = some false)
    (noNoSpan_NoRule : PySem.W.subIn K (.ref CNoSpan) (.ref CNoRule) = some false)
    (noNoSpan_Overload : PySem.W.subIn K (.ref CNoSpan) (.ref COverload) = some false)
    (aBoat : PySem.W.nsIn K mainGlobals "Boat" = some (some (.ref CBoat))) (pgBoat : PySem.W.plainGet K CBoat Str.empty = true) (hdBoat : PySem.W.hasDictIn K CBoat = true) (poBoat : PySem.W.plainOver K CBoat = true) (saBoat : PySem.W.findIn K (.ref CBoat) "__setattr__" = some (some (.builtin "object.__setattr__"))) (mkBoat : PySem.W.makesIn K CBoat = true) (kcBoat : PySem.W.keepIn K (.ref CBoat) = true)
    (haBoat : PySem.W.findIn K (.ref CBoat) "__class__" = some (some (.builtin "object.__class__"))) (hnBoat : PySem.W.specialIn K (.builtin "object.__class__") "__get__" = some (some (.builtin "getset_descriptor.__get__"))) (htBoat : PySem.W.takesIn K (.builtin "object.__class__") = some true) (hmBoat : PySem.W.mroIn K CBoat (.type "object") = some true) (nfBoat : PySem.W.notFirst K CBoat (.ref CBoat) = true)
    (nBoat_name : PySem.W.findIn K (.ref CBoat) "name" = some none)
    (nBoat_bears : PySem.W.findIn K (.ref CBoat) "bears" = some none)
    (aBoat___init__ : PySem.W.findIn K (.ref CBoat) "__init__" = some (some (.ref fBoat___init__))) (iBoat___init__ : PySem.W.isFn K (.ref fBoat___init__) = true) (lBoat___init__ : K.lookup fBoat___init__ = some ⟨ocBoat___init__, odBoat___init__, .func (PySem.W.fnOf "__init__" "Boat.__init__" (defArgs sBInit) (defBody sBInit) (defScope sBInit) .none kVBoat___init__ dcBoat___init__ pmBoat___init__ anBoat___init__ cdBoat___init__ ctBoat___init__), slBoat___init__⟩) (cBoat___init__ : PySem.W.codeIn K cdBoat___init__ "Boat.__init__" = true) (kBoat___init__ : PySem.W.keepIn K (.ref fBoat___init__) = true)
    (aBridge : PySem.W.nsIn K mainGlobals "Bridge" = some (some (.ref CBridge))) (pgBridge : PySem.W.plainGet K CBridge Str.empty = true) (hdBridge : PySem.W.hasDictIn K CBridge = true) (poBridge : PySem.W.plainOver K CBridge = true) (saBridge : PySem.W.findIn K (.ref CBridge) "__setattr__" = some (some (.builtin "object.__setattr__"))) (mkBridge : PySem.W.makesIn K CBridge = true) (kcBridge : PySem.W.keepIn K (.ref CBridge) = true)
    (haBridge : PySem.W.findIn K (.ref CBridge) "__class__" = some (some (.builtin "object.__class__"))) (hnBridge : PySem.W.specialIn K (.builtin "object.__class__") "__get__" = some (some (.builtin "getset_descriptor.__get__"))) (htBridge : PySem.W.takesIn K (.builtin "object.__class__") = some true) (hmBridge : PySem.W.mroIn K CBridge (.type "object") = some true) (nfBridge : PySem.W.notFirst K CBridge (.ref CBridge) = true)
    (nBridge__boats : PySem.W.findIn K (.ref CBridge) "_boats" = some none)
    (nBridge__spans : PySem.W.findIn K (.ref CBridge) "_spans" = some none)
    (blBridge : PySem.W.findIn K (.ref CBridge) "__bool__" = some none)
    (aBridge___init__ : PySem.W.findIn K (.ref CBridge) "__init__" = some (some (.ref fBridge___init__))) (iBridge___init__ : PySem.W.isFn K (.ref fBridge___init__) = true) (lBridge___init__ : K.lookup fBridge___init__ = some ⟨ocBridge___init__, odBridge___init__, .func (PySem.W.fnOf "__init__" "Bridge.__init__" (defArgs sBrInit) (defBody sBrInit) (defScope sBrInit) .none kVBridge___init__ dcBridge___init__ pmBridge___init__ anBridge___init__ cdBridge___init__ ctBridge___init__), slBridge___init__⟩) (cBridge___init__ : PySem.W.codeIn K cdBridge___init__ "Bridge.__init__" = true) (kBridge___init__ : PySem.W.keepIn K (.ref fBridge___init__) = true)
    (aBridge___len__ : PySem.W.findIn K (.ref CBridge) "__len__" = some (some (.ref fBridge___len__))) (iBridge___len__ : PySem.W.isFn K (.ref fBridge___len__) = true) (lBridge___len__ : K.lookup fBridge___len__ = some ⟨ocBridge___len__, odBridge___len__, .func (PySem.W.fnOf "__len__" "Bridge.__len__" (defArgs sBrLen) (defBody sBrLen) (defScope sBrLen) .none kVBridge___len__ dcBridge___len__ pmBridge___len__ anBridge___len__ cdBridge___len__ ctBridge___len__), slBridge___len__⟩) (cBridge___len__ : PySem.W.codeIn K cdBridge___len__ "Bridge.__len__" = true) (kBridge___len__ : PySem.W.keepIn K (.ref fBridge___len__) = true)
    (aBridge_boats : PySem.W.findIn K (.ref CBridge) "boats" = some (some (.ref fBridge_boats))) (iBridge_boats : PySem.W.isFn K (.ref fBridge_boats) = true) (lBridge_boats : K.lookup fBridge_boats = some ⟨ocBridge_boats, odBridge_boats, .func (PySem.W.fnOf "boats" "Bridge.boats" (defArgs sBrBoats) (defBody sBrBoats) (defScope sBrBoats) .none kVBridge_boats dcBridge_boats pmBridge_boats anBridge_boats cdBridge_boats ctBridge_boats), slBridge_boats⟩) (cBridge_boats : PySem.W.codeIn K cdBridge_boats "Bridge.boats" = true) (kBridge_boats : PySem.W.keepIn K (.ref fBridge_boats) = true)
    (aBridge_spans : PySem.W.findIn K (.ref CBridge) "spans" = some (some (.ref fBridge_spans))) (iBridge_spans : PySem.W.isFn K (.ref fBridge_spans) = true) (lBridge_spans : K.lookup fBridge_spans = some ⟨ocBridge_spans, odBridge_spans, .func (PySem.W.fnOf "spans" "Bridge.spans" (defArgs sBrSpans) (defBody sBrSpans) (defScope sBrSpans) .none kVBridge_spans dcBridge_spans pmBridge_spans anBridge_spans cdBridge_spans ctBridge_spans), slBridge_spans⟩) (cBridge_spans : PySem.W.codeIn K cdBridge_spans "Bridge.spans" = true) (kBridge_spans : PySem.W.keepIn K (.ref fBridge_spans) = true)
    (aOverload___init__ : PySem.W.findIn K (.ref COverload) "__init__" = some (some (.ref fOverload___init__))) (iOverload___init__ : PySem.W.isFn K (.ref fOverload___init__) = true) (lOverload___init__ : K.lookup fOverload___init__ = some ⟨ocOverload___init__, odOverload___init__, .func (PySem.W.fnOf "__init__" "Overload.__init__" (defArgs sOInit) (defBody sOInit) (defScope sOInit) .none kVOverload___init__ dcOverload___init__ pmOverload___init__ anOverload___init__ cdOverload___init__ ctOverload___init__), slOverload___init__⟩) (cOverload___init__ : PySem.W.codeIn K cdOverload___init__ "Overload.__init__" = true) (kOverload___init__ : PySem.W.keepIn K (.ref fOverload___init__) = true)
    (aNoSpan___init__ : PySem.W.findIn K (.ref CNoSpan) "__init__" = some (some (.ref fNoSpan___init__))) (iNoSpan___init__ : PySem.W.isFn K (.ref fNoSpan___init__) = true) (lNoSpan___init__ : K.lookup fNoSpan___init__ = some ⟨ocNoSpan___init__, odNoSpan___init__, .func (PySem.W.fnOf "__init__" "NoSpan.__init__" (defArgs sNSInit) (defBody sNSInit) (defScope sNSInit) .none kVNoSpan___init__ dcNoSpan___init__ pmNoSpan___init__ anNoSpan___init__ cdNoSpan___init__ ctNoSpan___init__), slNoSpan___init__⟩) (cNoSpan___init__ : PySem.W.codeIn K cdNoSpan___init__ "NoSpan.__init__" = true) (kNoSpan___init__ : PySem.W.keepIn K (.ref fNoSpan___init__) = true)
    (ais_whole : PySem.W.nsIn K mainGlobals "is_whole" = some (some (.ref fis_whole))) (lis_whole : K.lookup fis_whole = some ⟨ocis_whole, odis_whole, .func (PySem.W.fnOf "is_whole" "is_whole" (defArgs sIsW) (defBody sIsW) (defScope sIsW) .none kVis_whole dcis_whole pmis_whole anis_whole cdis_whole ctis_whole), slis_whole⟩) (cis_whole : PySem.W.codeIn K cdis_whole "is_whole" = true) (kis_whole : PySem.W.keepIn K (.ref fis_whole) = true)
    (ahalves : PySem.W.nsIn K mainGlobals "halves" = some (some (.ref fhalves))) (lhalves : K.lookup fhalves = some ⟨ochalves, odhalves, .func (PySem.W.fnOf "halves" "halves" (defArgs sHalves) (defBody sHalves) (defScope sHalves) .none kVhalves dchalves pmhalves anhalves cdhalves cthalves), slhalves⟩) (chalves : PySem.W.codeIn K cdhalves "halves" = true) (khalves : PySem.W.keepIn K (.ref fhalves) = true)
    (aspare : PySem.W.nsIn K mainGlobals "spare" = some (some (.ref fspare))) (lspare : K.lookup fspare = some ⟨ocspare, odspare, .func (PySem.W.fnOf "spare" "spare" (defArgs sSpare) (defBody sSpare) (defScope sSpare) .none kVspare dcspare pmspare anspare cdspare ctspare), slspare⟩) (cspare : PySem.W.codeIn K cdspare "spare" = true) (kspare : PySem.W.keepIn K (.ref fspare) = true)
    (aneed_borne : PySem.W.nsIn K mainGlobals "need_borne" = some (some (.ref fneed_borne))) (lneed_borne : K.lookup fneed_borne = some ⟨ocneed_borne, odneed_borne, .func (PySem.W.fnOf "need_borne" "need_borne" (defArgs sNeed) (defBody sNeed) (defScope sNeed) .none kVneed_borne dcneed_borne pmneed_borne anneed_borne cdneed_borne ctneed_borne), slneed_borne⟩) (cneed_borne : PySem.W.codeIn K cdneed_borne "need_borne" = true) (kneed_borne : PySem.W.keepIn K (.ref fneed_borne) = true)
    (ais_borne : PySem.W.nsIn K mainGlobals "is_borne" = some (some (.ref fis_borne))) (lis_borne : K.lookup fis_borne = some ⟨ocis_borne, odis_borne, .func (PySem.W.fnOf "is_borne" "is_borne" (defArgs sBorne) (defBody sBorne) (defScope sBorne) .none kVis_borne dcis_borne pmis_borne anis_borne cdis_borne ctis_borne), slis_borne⟩) (cis_borne : PySem.W.codeIn K cdis_borne "is_borne" = true) (kis_borne : PySem.W.keepIn K (.ref fis_borne) = true)
    (aroom_at : PySem.W.nsIn K mainGlobals "room_at" = some (some (.ref froom_at))) (lroom_at : K.lookup froom_at = some ⟨ocroom_at, odroom_at, .func (PySem.W.fnOf "room_at" "room_at" (defArgs sRoom) (defBody sRoom) (defScope sRoom) .none kVroom_at dcroom_at pmroom_at anroom_at cdroom_at ctroom_at), slroom_at⟩) (croom_at : PySem.W.codeIn K cdroom_at "room_at" = true) (kroom_at : PySem.W.keepIn K (.ref froom_at) = true)
    (a_are_boats : PySem.W.nsIn K mainGlobals "_are_boats" = some (some (.ref f_are_boats))) (l_are_boats : K.lookup f_are_boats = some ⟨oc_are_boats, od_are_boats, .func (PySem.W.fnOf "_are_boats" "_are_boats" (defArgs sAreB) (defBody sAreB) (defScope sAreB) .none kV_are_boats dc_are_boats pm_are_boats an_are_boats cd_are_boats ct_are_boats), sl_are_boats⟩) (c_are_boats : PySem.W.codeIn K cd_are_boats "_are_boats" = true) (k_are_boats : PySem.W.keepIn K (.ref f_are_boats) = true)
    (a_are_spans : PySem.W.nsIn K mainGlobals "_are_spans" = some (some (.ref f_are_spans))) (l_are_spans : K.lookup f_are_spans = some ⟨oc_are_spans, od_are_spans, .func (PySem.W.fnOf "_are_spans" "_are_spans" (defArgs sAreS) (defBody sAreS) (defScope sAreS) .none kV_are_spans dc_are_spans pm_are_spans an_are_spans cd_are_spans ct_are_spans), sl_are_spans⟩) (c_are_spans : PySem.W.codeIn K cd_are_spans "_are_spans" = true) (k_are_spans : PySem.W.keepIn K (.ref f_are_spans) = true)
    (a_law_tape : PySem.W.nsIn K mainGlobals "_law_tape" = some (some (.ref f_law_tape))) (l_law_tape : K.lookup f_law_tape = some ⟨oc_law_tape, od_law_tape, .func (PySem.W.fnOf "_law_tape" "_law_tape" (defArgs sTape) (defBody sTape) (defScope sTape) .none kV_law_tape dc_law_tape pm_law_tape an_law_tape cd_law_tape ct_law_tape), sl_law_tape⟩) (c_law_tape : PySem.W.codeIn K cd_law_tape "_law_tape" = true) (k_law_tape : PySem.W.keepIn K (.ref f_law_tape) = true)
    (a_law_draw : PySem.W.nsIn K mainGlobals "_law_draw" = some (some (.ref f_law_draw))) (l_law_draw : K.lookup f_law_draw = some ⟨oc_law_draw, od_law_draw, .func (PySem.W.fnOf "_law_draw" "_law_draw" (defArgs sDraw) (defBody sDraw) (defScope sDraw) .none kV_law_draw dc_law_draw pm_law_draw an_law_draw cd_law_draw ct_law_draw), sl_law_draw⟩) (c_law_draw : PySem.W.codeIn K cd_law_draw "_law_draw" = true) (k_law_draw : PySem.W.keepIn K (.ref f_law_draw) = true)
    (a_law_pick : PySem.W.nsIn K mainGlobals "_law_pick" = some (some (.ref f_law_pick))) (l_law_pick : K.lookup f_law_pick = some ⟨oc_law_pick, od_law_pick, .func (PySem.W.fnOf "_law_pick" "_law_pick" (defArgs sPick) (defBody sPick) (defScope sPick) .none kV_law_pick dc_law_pick pm_law_pick an_law_pick cd_law_pick ct_law_pick), sl_law_pick⟩) (c_law_pick : PySem.W.codeIn K cd_law_pick "_law_pick" = true) (k_law_pick : PySem.W.keepIn K (.ref f_law_pick) = true)
    (a_law_names : PySem.W.nsIn K mainGlobals "_law_names" = some (some (.ref f_law_names))) (l_law_names : K.lookup f_law_names = some ⟨oc_law_names, od_law_names, .func (PySem.W.fnOf "_law_names" "_law_names" (defArgs sNames) (defBody sNames) (defScope sNames) .none kV_law_names dc_law_names pm_law_names an_law_names cd_law_names ct_law_names), sl_law_names⟩) (c_law_names : PySem.W.codeIn K cd_law_names "_law_names" = true) (k_law_names : PySem.W.keepIn K (.ref f_law_names) = true)
    (a_law_is_whole : PySem.W.nsIn K mainGlobals "_law_is_whole" = some (some (.ref f_law_is_whole))) (l_law_is_whole : K.lookup f_law_is_whole = some ⟨oc_law_is_whole, od_law_is_whole, .func (PySem.W.fnOf "_law_is_whole" "_law_is_whole" (defArgs sLWhole) (defBody sLWhole) (defScope sLWhole) .none kV_law_is_whole dc_law_is_whole pm_law_is_whole an_law_is_whole cd_law_is_whole ct_law_is_whole), sl_law_is_whole⟩) (c_law_is_whole : PySem.W.codeIn K cd_law_is_whole "_law_is_whole" = true) (k_law_is_whole : PySem.W.keepIn K (.ref f_law_is_whole) = true)
    (a_law_odd : PySem.W.nsIn K mainGlobals "_law_odd" = some (some (.ref f_law_odd))) (l_law_odd : K.lookup f_law_odd = some ⟨oc_law_odd, od_law_odd, .func (PySem.W.fnOf "_law_odd" "_law_odd" (defArgs sOdd) (defBody sOdd) (defScope sOdd) .none kV_law_odd dc_law_odd pm_law_odd an_law_odd cd_law_odd ct_law_odd), sl_law_odd⟩) (c_law_odd : PySem.W.codeIn K cd_law_odd "_law_odd" = true) (k_law_odd : PySem.W.keepIn K (.ref f_law_odd) = true)
    (a_law_boat_rows : PySem.W.nsIn K mainGlobals "_law_boat_rows" = some (some (.ref f_law_boat_rows))) (l_law_boat_rows : K.lookup f_law_boat_rows = some ⟨oc_law_boat_rows, od_law_boat_rows, .func (PySem.W.fnOf "_law_boat_rows" "_law_boat_rows" (defArgs sBRows) (defBody sBRows) (defScope sBRows) .none kV_law_boat_rows dc_law_boat_rows pm_law_boat_rows an_law_boat_rows cd_law_boat_rows ct_law_boat_rows), sl_law_boat_rows⟩) (c_law_boat_rows : PySem.W.codeIn K cd_law_boat_rows "_law_boat_rows" = true) (k_law_boat_rows : PySem.W.keepIn K (.ref f_law_boat_rows) = true)
    (a_law_span_row : PySem.W.nsIn K mainGlobals "_law_span_row" = some (some (.ref f_law_span_row))) (l_law_span_row : K.lookup f_law_span_row = some ⟨oc_law_span_row, od_law_span_row, .func (PySem.W.fnOf "_law_span_row" "_law_span_row" (defArgs sSRow) (defBody sSRow) (defScope sSRow) .none kV_law_span_row dc_law_span_row pm_law_span_row an_law_span_row cd_law_span_row ct_law_span_row), sl_law_span_row⟩) (c_law_span_row : PySem.W.codeIn K cd_law_span_row "_law_span_row" = true) (k_law_span_row : PySem.W.keepIn K (.ref f_law_span_row) = true)
    (a_law_drawn_parts : PySem.W.nsIn K mainGlobals "_law_drawn_parts" = some (some (.ref f_law_drawn_parts))) (l_law_drawn_parts : K.lookup f_law_drawn_parts = some ⟨oc_law_drawn_parts, od_law_drawn_parts, .func (PySem.W.fnOf "_law_drawn_parts" "_law_drawn_parts" (defArgs sDParts) (defBody sDParts) (defScope sDParts) .none kV_law_drawn_parts dc_law_drawn_parts pm_law_drawn_parts an_law_drawn_parts cd_law_drawn_parts ct_law_drawn_parts), sl_law_drawn_parts⟩) (c_law_drawn_parts : PySem.W.codeIn K cd_law_drawn_parts "_law_drawn_parts" = true) (k_law_drawn_parts : PySem.W.keepIn K (.ref f_law_drawn_parts) = true)
    (a_law_made : PySem.W.nsIn K mainGlobals "_law_made" = some (some (.ref f_law_made))) (l_law_made : K.lookup f_law_made = some ⟨oc_law_made, od_law_made, .func (PySem.W.fnOf "_law_made" "_law_made" (defArgs sMade) (defBody sMade) (defScope sMade) .none kV_law_made dc_law_made pm_law_made an_law_made cd_law_made ct_law_made), sl_law_made⟩) (c_law_made : PySem.W.codeIn K cd_law_made "_law_made" = true) (k_law_made : PySem.W.keepIn K (.ref f_law_made) = true)
    (a_law_weights : PySem.W.nsIn K mainGlobals "_law_weights" = some (some (.ref f_law_weights))) (l_law_weights : K.lookup f_law_weights = some ⟨oc_law_weights, od_law_weights, .func (PySem.W.fnOf "_law_weights" "_law_weights" (defArgs sWeights) (defBody sWeights) (defScope sWeights) .none kV_law_weights dc_law_weights pm_law_weights an_law_weights cd_law_weights ct_law_weights), sl_law_weights⟩) (c_law_weights : PySem.W.codeIn K cd_law_weights "_law_weights" = true) (k_law_weights : PySem.W.keepIn K (.ref f_law_weights) = true)
    (a_law_eased : PySem.W.nsIn K mainGlobals "_law_eased" = some (some (.ref f_law_eased))) (l_law_eased : K.lookup f_law_eased = some ⟨oc_law_eased, od_law_eased, .func (PySem.W.fnOf "_law_eased" "_law_eased" (defArgs sEased) (defBody sEased) (defScope sEased) .none kV_law_eased dc_law_eased pm_law_eased an_law_eased cd_law_eased ct_law_eased), sl_law_eased⟩) (c_law_eased : PySem.W.codeIn K cd_law_eased "_law_eased" = true) (k_law_eased : PySem.W.keepIn K (.ref f_law_eased) = true)
    (a_law_room : PySem.W.nsIn K mainGlobals "_law_room" = some (some (.ref f_law_room))) (l_law_room : K.lookup f_law_room = some ⟨oc_law_room, od_law_room, .func (PySem.W.fnOf "_law_room" "_law_room" (defArgs sLRoom) (defBody sLRoom) (defScope sLRoom) .none kV_law_room dc_law_room pm_law_room an_law_room cd_law_room ct_law_room), sl_law_room⟩) (c_law_room : PySem.W.codeIn K cd_law_room "_law_room" = true) (k_law_room : PySem.W.keepIn K (.ref f_law_room) = true)
    (a_law_refused : PySem.W.nsIn K mainGlobals "_law_refused" = some (some (.ref f_law_refused))) (l_law_refused : K.lookup f_law_refused = some ⟨oc_law_refused, od_law_refused, .func (PySem.W.fnOf "_law_refused" "_law_refused" (defArgs sRefused) (defBody sRefused) (defScope sRefused) .none kV_law_refused dc_law_refused pm_law_refused an_law_refused cd_law_refused ct_law_refused), sl_law_refused⟩) (c_law_refused : PySem.W.codeIn K cd_law_refused "_law_refused" = true) (k_law_refused : PySem.W.keepIn K (.ref f_law_refused) = true)
    (alaw : PySem.W.nsIn K mainGlobals "law" = some (some (.ref flaw))) (llaw : K.lookup flaw = some ⟨oclaw, odlaw, .func (PySem.W.fnOf "law" "law" (defArgs sLaw) (defBody sLaw) (defScope sLaw) .none kVlaw dclaw pmlaw anlaw cdlaw ctlaw), sllaw⟩) (claw : PySem.W.codeIn K cdlaw "law" = true) (klaw : PySem.W.keepIn K (.ref flaw) = true)
    (aMOST_BOATS : PySem.W.nsIn K mainGlobals "MOST_BOATS" = some (some (.int 10 tMOST_BOATS)))
    (aMOST_BORNE : PySem.W.nsIn K mainGlobals "MOST_BORNE" = some (some (.int 1000000 tMOST_BORNE)))
    (zlen : PySem.W.nsIn K mainGlobals "len" = some none)
    (zmax : PySem.W.nsIn K mainGlobals "max" = some none)
    (zmin : PySem.W.nsIn K mainGlobals "min" = some none)
    (zrange : PySem.W.nsIn K mainGlobals "range" = some none)
    (zlist : PySem.W.nsIn K mainGlobals "list" = some none)
    (zrepr : PySem.W.nsIn K mainGlobals "repr" = some none)
    (zisinstance : PySem.W.nsIn K mainGlobals "isinstance" = some none)
    (zint : PySem.W.nsIn K mainGlobals "int" = some none)
    (zbool : PySem.W.nsIn K mainGlobals "bool" = some none)
    (zstr : PySem.W.nsIn K mainGlobals "str" = some none)
    (zall : PySem.W.nsIn K mainGlobals "all" = some none)
    (zenumerate : PySem.W.nsIn K mainGlobals "enumerate" = some none)
    (zzip : PySem.W.nsIn K mainGlobals "zip" = some none)
    (zIndexError : PySem.W.nsIn K mainGlobals "IndexError" = some none)
    : ∃ fd : FuncData, (∀ (s : Shared) (v : Value), BindsTo s fd ⟨[v], []⟩ [("_law_script", v)]) ∧ ∀ base : Heap, K.In base → base.Ns mainGlobals mg → FnOkG l.prog w K mg base CX0 8 fa fd ["_law_script"] (spLaw K) := by
  have e := hfa.symm.trans (PySem.W.mg_of X G alaw)
  cases e
  have Fis_whole := fun_mk (st := sIsW) lis_whole cis_whole kis_whole
  have gis_whole := PySem.W.mg_of X G ais_whole
  have bis_whole := Fis_whole.binds (ps := ["thing", "least", "most"]) fun _ _ _ _ _ _ us hl => match us, hl with | [_, _, _], _ => rfl
  have Fhalves := fun_mk (st := sHalves) lhalves chalves khalves
  have ghalves := PySem.W.mg_of X G ahalves
  have bhalves := Fhalves.binds (ps := ["bridge", "load"]) fun _ _ _ _ _ _ us hl => match us, hl with | [_, _], _ => rfl
  have Fspare := fun_mk (st := sSpare) lspare cspare kspare
  have gspare := PySem.W.mg_of X G aspare
  have bspare := Fspare.binds (ps := ["boat", "many"]) fun _ _ _ _ _ _ us hl => match us, hl with | [_, _], _ => rfl
  have Fneed_borne := fun_mk (st := sNeed) lneed_borne cneed_borne kneed_borne
  have gneed_borne := PySem.W.mg_of X G aneed_borne
  have bneed_borne := Fneed_borne.binds (ps := ["bridge", "load"]) fun _ _ _ _ _ _ us hl => match us, hl with | [_, _], _ => rfl
  have Fis_borne := fun_mk (st := sBorne) lis_borne cis_borne kis_borne
  have gis_borne := PySem.W.mg_of X G ais_borne
  have bis_borne := Fis_borne.binds (ps := ["bridge", "load"]) fun _ _ _ _ _ _ us hl => match us, hl with | [_, _], _ => rfl
  have Froom_at := fun_mk (st := sRoom) lroom_at croom_at kroom_at
  have groom_at := PySem.W.mg_of X G aroom_at
  have broom_at := Froom_at.binds (ps := ["bridge", "load", "at"]) fun _ _ _ _ _ _ us hl => match us, hl with | [_, _, _], _ => rfl
  have F_are_boats := fun_mk (st := sAreB) l_are_boats c_are_boats k_are_boats
  have g_are_boats := PySem.W.mg_of X G a_are_boats
  have b_are_boats := F_are_boats.binds (ps := ["thing"]) fun _ _ _ _ _ _ us hl => match us, hl with | [_], _ => rfl
  have F_are_spans := fun_mk (st := sAreS) l_are_spans c_are_spans k_are_spans
  have g_are_spans := PySem.W.mg_of X G a_are_spans
  have b_are_spans := F_are_spans.binds (ps := ["thing"]) fun _ _ _ _ _ _ us hl => match us, hl with | [_], _ => rfl
  have F_law_tape := fun_mk (st := sTape) l_law_tape c_law_tape k_law_tape
  have g_law_tape := PySem.W.mg_of X G a_law_tape
  have b_law_tape := F_law_tape.binds (ps := ["_law_script"]) fun _ _ _ _ _ _ us hl => match us, hl with | [_], _ => rfl
  have F_law_draw := fun_mk (st := sDraw) l_law_draw c_law_draw k_law_draw
  have g_law_draw := PySem.W.mg_of X G a_law_draw
  have b_law_draw := F_law_draw.binds (ps := ["_law_tape_here", "_law_many"]) fun _ _ _ _ _ _ us hl => match us, hl with | [_, _], _ => rfl
  have F_law_pick := fun_mk (st := sPick) l_law_pick c_law_pick k_law_pick
  have g_law_pick := PySem.W.mg_of X G a_law_pick
  have b_law_pick := F_law_pick.binds (ps := ["_law_tape_here", "_law_some"]) fun _ _ _ _ _ _ us hl => match us, hl with | [_, _], _ => rfl
  have F_law_names := fun_mk (st := sNames) l_law_names c_law_names k_law_names
  have g_law_names := PySem.W.mg_of X G a_law_names
  have b_law_names := F_law_names.binds (ps := ["_law_tape_here", "_law_many"]) fun _ _ _ _ _ _ us hl => match us, hl with | [_, _], _ => rfl
  have F_law_is_whole := fun_mk (st := sLWhole) l_law_is_whole c_law_is_whole k_law_is_whole
  have g_law_is_whole := PySem.W.mg_of X G a_law_is_whole
  have b_law_is_whole := F_law_is_whole.binds (ps := ["_law_thing"]) fun _ _ _ _ _ _ us hl => match us, hl with | [_], _ => rfl
  have F_law_odd := fun_mk (st := sOdd) l_law_odd c_law_odd k_law_odd
  have g_law_odd := PySem.W.mg_of X G a_law_odd
  have b_law_odd := F_law_odd.binds (ps := ["_law_tape_here"]) fun _ _ _ _ _ _ us hl => match us, hl with | [_], _ => rfl
  have F_law_boat_rows := fun_mk (st := sBRows) l_law_boat_rows c_law_boat_rows k_law_boat_rows
  have g_law_boat_rows := PySem.W.mg_of X G a_law_boat_rows
  have b_law_boat_rows := F_law_boat_rows.binds (ps := ["_law_tape_here", "_law_names_here"]) fun _ _ _ _ _ _ us hl => match us, hl with | [_, _], _ => rfl
  have F_law_span_row := fun_mk (st := sSRow) l_law_span_row c_law_span_row k_law_span_row
  have g_law_span_row := PySem.W.mg_of X G a_law_span_row
  have b_law_span_row := F_law_span_row.binds (ps := ["_law_tape_here", "_law_many"]) fun _ _ _ _ _ _ us hl => match us, hl with | [_, _], _ => rfl
  have F_law_drawn_parts := fun_mk (st := sDParts) l_law_drawn_parts c_law_drawn_parts k_law_drawn_parts
  have g_law_drawn_parts := PySem.W.mg_of X G a_law_drawn_parts
  have b_law_drawn_parts := F_law_drawn_parts.binds (ps := ["_law_tape_here"]) fun _ _ _ _ _ _ us hl => match us, hl with | [_], _ => rfl
  have F_law_made := fun_mk (st := sMade) l_law_made c_law_made k_law_made
  have g_law_made := PySem.W.mg_of X G a_law_made
  have b_law_made := F_law_made.binds (ps := ["_law_parts"]) fun _ _ _ _ _ _ us hl => match us, hl with | [_], _ => rfl
  have F_law_weights := fun_mk (st := sWeights) l_law_weights c_law_weights k_law_weights
  have g_law_weights := PySem.W.mg_of X G a_law_weights
  have b_law_weights := F_law_weights.binds (ps := ["_law_tape_here", "_law_parts"]) fun _ _ _ _ _ _ us hl => match us, hl with | [_, _], _ => rfl
  have F_law_eased := fun_mk (st := sEased) l_law_eased c_law_eased k_law_eased
  have g_law_eased := PySem.W.mg_of X G a_law_eased
  have b_law_eased := F_law_eased.binds (ps := ["_law_parts", "_law_cargo"]) fun _ _ _ _ _ _ us hl => match us, hl with | [_, _], _ => rfl
  have F_law_room := fun_mk (st := sLRoom) l_law_room c_law_room k_law_room
  have g_law_room := PySem.W.mg_of X G a_law_room
  have b_law_room := F_law_room.binds (ps := ["_law_parts", "_law_cargo", "_law_spot"]) fun _ _ _ _ _ _ us hl => match us, hl with | [_, _, _], _ => rfl
  have F_law_refused := fun_mk (st := sRefused) l_law_refused c_law_refused k_law_refused
  have g_law_refused := PySem.W.mg_of X G a_law_refused
  have b_law_refused := F_law_refused.binds (ps := ["_law_crossed", "_law_cargo", "_law_thing"]) fun _ _ _ _ _ _ us hl => match us, hl with | [_, _, _], _ => rfl
  have Flaw := fun_mk (st := sLaw) llaw claw klaw
  have glaw := PySem.W.mg_of X G alaw
  have blaw := Flaw.binds (ps := ["_law_script"]) fun _ _ _ _ _ _ us hl => match us, hl with | [_], _ => rfl
  have gCNoBoat := PySem.W.mg_of X G aNoBoat
  have gCNoBridge := PySem.W.mg_of X G aNoBridge
  have gCNoRule := PySem.W.mg_of X G aNoRule
  have oxOverload := oex_of PySem.F.excBase_OverflowError PySem.F.store_OverflowError xlOverload (by decide +kernel) hdOverload saOverload exOverload tyOverload kcOverload
  have oxNoSpan := oex_of PySem.F.excBase_IndexError PySem.F.store_IndexError xlNoSpan (by decide +kernel) hdNoSpan saNoSpan exNoSpan tyNoSpan kcNoSpan
  have gCBoat := PySem.W.mg_of X G aBoat
  have FBoat___init__ := fun_mk (st := sBInit) lBoat___init__ cBoat___init__ kBoat___init__
  have bBoat___init__ := FBoat___init__.binds (ps := ["self", "name", "bears"]) fun _ _ _ _ _ _ us hl => match us, hl with | [_, _, _], _ => rfl
  have gCBridge := PySem.W.mg_of X G aBridge
  have FBridge___init__ := fun_mk (st := sBrInit) lBridge___init__ cBridge___init__ kBridge___init__
  have bBridge___init__ := FBridge___init__.binds (ps := ["self", "boats", "spans"]) fun _ _ _ _ _ _ us hl => match us, hl with | [_, _, _], _ => rfl
  have FBridge___len__ := fun_mk (st := sBrLen) lBridge___len__ cBridge___len__ kBridge___len__
  have bBridge___len__ := FBridge___len__.binds (ps := ["self"]) fun _ _ _ _ _ _ us hl => match us, hl with | [_], _ => rfl
  have FBridge_boats := fun_mk (st := sBrBoats) lBridge_boats cBridge_boats kBridge_boats
  have bBridge_boats := FBridge_boats.binds (ps := ["self"]) fun _ _ _ _ _ _ us hl => match us, hl with | [_], _ => rfl
  have FBridge_spans := fun_mk (st := sBrSpans) lBridge_spans cBridge_spans kBridge_spans
  have bBridge_spans := FBridge_spans.binds (ps := ["self"]) fun _ _ _ _ _ _ us hl => match us, hl with | [_], _ => rfl
  have gCOverload := PySem.W.mg_of X G aOverload
  have FOverload___init__ := fun_mk (st := sOInit) lOverload___init__ cOverload___init__ kOverload___init__
  have bOverload___init__ := FOverload___init__.binds (ps := ["self", "part", "at", "over"]) fun _ _ _ _ _ _ us hl => match us, hl with | [_, _, _, _], _ => rfl
  have gCNoSpan := PySem.W.mg_of X G aNoSpan
  have FNoSpan___init__ := fun_mk (st := sNSInit) lNoSpan___init__ cNoSpan___init__ kNoSpan___init__
  have bNoSpan___init__ := FNoSpan___init__.binds (ps := ["self", "at"]) fun _ _ _ _ _ _ us hl => match us, hl with | [_, _], _ => rfl
  have mMOST_BOATS := PySem.W.mg_of X G aMOST_BOATS
  have mMOST_BORNE := PySem.W.mg_of X G aMOST_BORNE
  have mlen := PySem.W.mg_none_of X G zlen
  have mmax := PySem.W.mg_none_of X G zmax
  have mmin := PySem.W.mg_none_of X G zmin
  have mrange := PySem.W.mg_none_of X G zrange
  have mlist := PySem.W.mg_none_of X G zlist
  have mrepr := PySem.W.mg_none_of X G zrepr
  have misinstance := PySem.W.mg_none_of X G zisinstance
  have mint := PySem.W.mg_none_of X G zint
  have mbool := PySem.W.mg_none_of X G zbool
  have mstr := PySem.W.mg_none_of X G zstr
  have mall := PySem.W.mg_none_of X G zall
  have menumerate := PySem.W.mg_none_of X G zenumerate
  have mzip := PySem.W.mg_none_of X G zzip
  have mIndexError := PySem.W.mg_none_of X G zIndexError
  have kcroom_at := fun_kbindsR Froom_at (ps := ["bridge", "load", "at"]) (ks := ["at", "load", "bridge"]) (by intro z; cases z) fun _ _ _ _ _ _ ws hl => match ws, hl with | [_, _, _], _ => rfl
  exact ⟨_, fun s v => .of_eq rfl, fun base _ _ => ok_law Flaw ⟨mlen⟩ ⟨mlen, mrange⟩ ⟨mlen, mrange, mmax, mmin, mlist, mrepr⟩ ⟨misinstance, mlen, mall, mlist, mint, mbool, ⟨_, mMOST_BOATS⟩, ⟨_, mMOST_BORNE⟩⟩ ⟨mrange, menumerate⟩ ⟨⟨pgBoat, hdBoat, poBoat, saBoat⟩, nBoat_name, nBoat_bears, gCBoat, haBoat, hnBoat, htBoat, hmBoat⟩ ⟨⟨pgBridge, hdBridge, poBridge, saBridge⟩, nBridge__boats, nBridge__spans, gCBridge⟩ ⟨gCOverload, oxOverload, nOverload_part, nOverload_at, nOverload_over, exm_hit exOverload icOverload tyOverload seOverload⟩ ⟨mlen, mrange, mlist, misinstance, mint, mbool, mstr⟩ ⟨mlen, mrange, mmin⟩ ⟨mlen, mzip, mmin, mmax⟩ ⟨mlen, mrange, mmin, mlist⟩ ⟨gCNoSpan, oxNoSpan, nNoSpan_at, exm_hit exNoSpan icNoSpan tyNoSpan seNoSpan⟩ ⟨gCNoBoat, gCNoBridge, gCNoRule, gCOverload, ⟨gaNoSpan, ggNoSpan, exNoSpan, hdNoSpan⟩, ⟨gaNoSpan, ggNoSpan, exNoSpan, hdNoSpan, haNoSpan, hnNoSpan, htNoSpan, hmNoSpan⟩, kit_up (by decide +kernel) upNoSpan, any_no (kit_other seNoSpan icNoBoat tyNoBoat noNoSpan_NoBoat) (any_no (kit_other seNoSpan icNoBridge tyNoBridge noNoSpan_NoBridge) (any_no (kit_other seNoSpan icNoRule tyNoRule noNoSpan_NoRule) (any_no (kit_other seNoSpan icOverload tyOverload noNoSpan_Overload) (kitAny_nil)))), misinstance, mIndexError, mrepr⟩ ⟨mkBoat, aBoat___init__, iBoat___init__, kcBoat⟩ FBoat___init__ bBoat___init__ ⟨mkBridge, aBridge___init__, iBridge___init__, kcBridge⟩ FBridge___init__ bBridge___init__ F_are_boats g_are_boats b_are_boats F_are_spans g_are_spans b_are_spans Fis_whole gis_whole bis_whole aOverload___init__ (beq_iff_eq.mp iOverload___init__) FOverload___init__ bOverload___init__ aNoSpan___init__ (beq_iff_eq.mp iNoSpan___init__) FNoSpan___init__ bNoSpan___init__ ⟨aBridge_boats, iBridge_boats, kBridge_boats⟩ FBridge_boats bBridge_boats ⟨aBridge_spans, iBridge_spans, kBridge_spans⟩ FBridge_spans bBridge_spans ⟨aBridge___len__, iBridge___len__, kBridge___len__⟩ FBridge___len__ bBridge___len__ Fhalves ghalves bhalves Fspare gspare bspare Fneed_borne gneed_borne bneed_borne Fis_borne gis_borne bis_borne Froom_at groom_at broom_at kcroom_at F_law_made g_law_made b_law_made F_law_is_whole g_law_is_whole b_law_is_whole F_law_eased g_law_eased b_law_eased F_law_room g_law_room b_law_room F_law_odd g_law_odd b_law_odd F_law_refused g_law_refused b_law_refused F_law_tape g_law_tape b_law_tape F_law_draw g_law_draw b_law_draw F_law_pick g_law_pick b_law_pick F_law_names g_law_names b_law_names F_law_boat_rows g_law_boat_rows b_law_boat_rows F_law_span_row g_law_span_row b_law_span_row F_law_drawn_parts g_law_drawn_parts b_law_drawn_parts F_law_weights g_law_weights b_law_weights⟩
end Bb
open PySem PySem.W PyProof.Rows
set_option maxHeartbeats 0 in
theorem PySem.Challenge.cw_boatbridge_k14_room_beside_a_load_holds : PySem.Challenge.rw_boatbridge_k14_room_beside_a_load.Holds := by
  w_on; o_law; k_head; (case hw => w_witness2)
  k_fill
  refine Bb.walkG (l := PySem.Challenge.rw_boatbridge_k14_room_beside_a_load) (n := 63) (k := 8) (x := "_law_script") (sp := fun w => Bb.spLaw _) rfl (by decide) rfl ⟨rfl, by decide, by decide⟩ (fun w h Y => PySem.W.kIn_of Y) ?F (fun _ _ a ns hl _ hS => ⟨a, ns, rfl, hS, hl, fun _ => rfl⟩)
  case F =>
    intro w mg fa h KX G hmg
    refine' Bb.all_mk KX G hmg ?aNoBoat ?tyNoBoat ?icNoBoat ?aNoBridge ?tyNoBridge ?icNoBridge ?aNoRule ?tyNoRule ?icNoRule ?aOverload ?xlOverload ?hdOverload ?saOverload ?exOverload ?tyOverload ?kcOverload ?icOverload ?seOverload ?upOverload ?gaOverload ?ggOverload ?haOverload ?hnOverload ?htOverload ?hmOverload ?nOverload_part ?nOverload_at ?nOverload_over ?noOverload_NoBoat ?noOverload_NoBridge ?noOverload_NoRule ?aNoSpan ?xlNoSpan ?hdNoSpan ?saNoSpan ?exNoSpan ?tyNoSpan ?kcNoSpan ?icNoSpan ?seNoSpan ?upNoSpan ?gaNoSpan ?ggNoSpan ?haNoSpan ?hnNoSpan ?htNoSpan ?hmNoSpan ?nNoSpan_at ?noNoSpan_NoBoat ?noNoSpan_NoBridge ?noNoSpan_NoRule ?noNoSpan_Overload ?aBoat ?pgBoat ?hdBoat ?poBoat ?saBoat ?mkBoat ?kcBoat ?haBoat ?hnBoat ?htBoat ?hmBoat ?nfBoat ?nBoat_name ?nBoat_bears ?aBoat___init__ ?iBoat___init__ ?lBoat___init__ ?cBoat___init__ ?kBoat___init__ ?aBridge ?pgBridge ?hdBridge ?poBridge ?saBridge ?mkBridge ?kcBridge ?haBridge ?hnBridge ?htBridge ?hmBridge ?nfBridge ?nBridge__boats ?nBridge__spans ?blBridge ?aBridge___init__ ?iBridge___init__ ?lBridge___init__ ?cBridge___init__ ?kBridge___init__ ?aBridge___len__ ?iBridge___len__ ?lBridge___len__ ?cBridge___len__ ?kBridge___len__ ?aBridge_boats ?iBridge_boats ?lBridge_boats ?cBridge_boats ?kBridge_boats ?aBridge_spans ?iBridge_spans ?lBridge_spans ?cBridge_spans ?kBridge_spans ?aOverload___init__ ?iOverload___init__ ?lOverload___init__ ?cOverload___init__ ?kOverload___init__ ?aNoSpan___init__ ?iNoSpan___init__ ?lNoSpan___init__ ?cNoSpan___init__ ?kNoSpan___init__ ?ais_whole ?lis_whole ?cis_whole ?kis_whole ?ahalves ?lhalves ?chalves ?khalves ?aspare ?lspare ?cspare ?kspare ?aneed_borne ?lneed_borne ?cneed_borne ?kneed_borne ?ais_borne ?lis_borne ?cis_borne ?kis_borne ?aroom_at ?lroom_at ?croom_at ?kroom_at ?a_are_boats ?l_are_boats ?c_are_boats ?k_are_boats ?a_are_spans ?l_are_spans ?c_are_spans ?k_are_spans ?a_law_tape ?l_law_tape ?c_law_tape ?k_law_tape ?a_law_draw ?l_law_draw ?c_law_draw ?k_law_draw ?a_law_pick ?l_law_pick ?c_law_pick ?k_law_pick ?a_law_names ?l_law_names ?c_law_names ?k_law_names ?a_law_is_whole ?l_law_is_whole ?c_law_is_whole ?k_law_is_whole ?a_law_odd ?l_law_odd ?c_law_odd ?k_law_odd ?a_law_boat_rows ?l_law_boat_rows ?c_law_boat_rows ?k_law_boat_rows ?a_law_span_row ?l_law_span_row ?c_law_span_row ?k_law_span_row ?a_law_drawn_parts ?l_law_drawn_parts ?c_law_drawn_parts ?k_law_drawn_parts ?a_law_made ?l_law_made ?c_law_made ?k_law_made ?a_law_weights ?l_law_weights ?c_law_weights ?k_law_weights ?a_law_eased ?l_law_eased ?c_law_eased ?k_law_eased ?a_law_room ?l_law_room ?c_law_room ?k_law_room ?a_law_refused ?l_law_refused ?c_law_refused ?k_law_refused ?alaw ?llaw ?claw ?klaw ?aMOST_BOATS ?aMOST_BORNE ?zlen ?zmax ?zmin ?zrange ?zlist ?zrepr ?zisinstance ?zint ?zbool ?zstr ?zall ?zenumerate ?zzip ?zIndexError
    (case aNoBoat => k_is)
    (case tyNoBoat => k_is)
    (case icNoBoat => k_is)
    (case aNoBridge => k_is)
    (case tyNoBridge => k_is)
    (case icNoBridge => k_is)
    (case aNoRule => k_is)
    (case tyNoRule => k_is)
    (case icNoRule => k_is)
    (case aOverload => k_is)
    (case xlOverload => k_is)
    (case hdOverload => k_is)
    (case saOverload => k_is)
    (case exOverload => k_is)
    (case tyOverload => k_is)
    (case kcOverload => k_is)
    (case icOverload => k_is)
    (case seOverload => k_is)
    (case upOverload => k_is)
    (case gaOverload => k_is)
    (case ggOverload => k_is)
    (case haOverload => k_is)
    (case hnOverload => k_is)
    (case htOverload => k_is)
    (case hmOverload => k_is)
    (case nOverload_part => k_is)
    (case nOverload_at => k_is)
    (case nOverload_over => k_is)
    (case noOverload_NoBoat => k_is)
    (case noOverload_NoBridge => k_is)
    (case noOverload_NoRule => k_is)
    (case aNoSpan => k_is)
    (case xlNoSpan => k_is)
    (case hdNoSpan => k_is)
    (case saNoSpan => k_is)
    (case exNoSpan => k_is)
    (case tyNoSpan => k_is)
    (case kcNoSpan => k_is)
    (case icNoSpan => k_is)
    (case seNoSpan => k_is)
    (case upNoSpan => k_is)
    (case gaNoSpan => k_is)
    (case ggNoSpan => k_is)
    (case haNoSpan => k_is)
    (case hnNoSpan => k_is)
    (case htNoSpan => k_is)
    (case hmNoSpan => k_is)
    (case nNoSpan_at => k_is)
    (case noNoSpan_NoBoat => k_is)
    (case noNoSpan_NoBridge => k_is)
    (case noNoSpan_NoRule => k_is)
    (case noNoSpan_Overload => k_is)
    (case aBoat => k_is)
    (case pgBoat => k_is)
    (case hdBoat => k_is)
    (case poBoat => k_is)
    (case saBoat => k_is)
    (case mkBoat => k_is)
    (case kcBoat => k_is)
    (case haBoat => k_is)
    (case hnBoat => k_is)
    (case htBoat => k_is)
    (case hmBoat => k_is)
    (case nfBoat => k_is)
    (case nBoat_name => k_is)
    (case nBoat_bears => k_is)
    (case aBoat___init__ => k_is)
    (case iBoat___init__ => k_is)
    (case lBoat___init__ => k_is)
    (case cBoat___init__ => k_is)
    (case kBoat___init__ => k_is)
    (case aBridge => k_is)
    (case pgBridge => k_is)
    (case hdBridge => k_is)
    (case poBridge => k_is)
    (case saBridge => k_is)
    (case mkBridge => k_is)
    (case kcBridge => k_is)
    (case haBridge => k_is)
    (case hnBridge => k_is)
    (case htBridge => k_is)
    (case hmBridge => k_is)
    (case nfBridge => k_is)
    (case nBridge__boats => k_is)
    (case nBridge__spans => k_is)
    (case blBridge => k_is)
    (case aBridge___init__ => k_is)
    (case iBridge___init__ => k_is)
    (case lBridge___init__ => k_is)
    (case cBridge___init__ => k_is)
    (case kBridge___init__ => k_is)
    (case aBridge___len__ => k_is)
    (case iBridge___len__ => k_is)
    (case lBridge___len__ => k_is)
    (case cBridge___len__ => k_is)
    (case kBridge___len__ => k_is)
    (case aBridge_boats => k_is)
    (case iBridge_boats => k_is)
    (case lBridge_boats => k_is)
    (case cBridge_boats => k_is)
    (case kBridge_boats => k_is)
    (case aBridge_spans => k_is)
    (case iBridge_spans => k_is)
    (case lBridge_spans => k_is)
    (case cBridge_spans => k_is)
    (case kBridge_spans => k_is)
    (case aOverload___init__ => k_is)
    (case iOverload___init__ => k_is)
    (case lOverload___init__ => k_is)
    (case cOverload___init__ => k_is)
    (case kOverload___init__ => k_is)
    (case aNoSpan___init__ => k_is)
    (case iNoSpan___init__ => k_is)
    (case lNoSpan___init__ => k_is)
    (case cNoSpan___init__ => k_is)
    (case kNoSpan___init__ => k_is)
    (case ais_whole => k_is)
    (case lis_whole => k_is)
    (case cis_whole => k_is)
    (case kis_whole => k_is)
    (case ahalves => k_is)
    (case lhalves => k_is)
    (case chalves => k_is)
    (case khalves => k_is)
    (case aspare => k_is)
    (case lspare => k_is)
    (case cspare => k_is)
    (case kspare => k_is)
    (case aneed_borne => k_is)
    (case lneed_borne => k_is)
    (case cneed_borne => k_is)
    (case kneed_borne => k_is)
    (case ais_borne => k_is)
    (case lis_borne => k_is)
    (case cis_borne => k_is)
    (case kis_borne => k_is)
    (case aroom_at => k_is)
    (case lroom_at => k_is)
    (case croom_at => k_is)
    (case kroom_at => k_is)
    (case a_are_boats => k_is)
    (case l_are_boats => k_is)
    (case c_are_boats => k_is)
    (case k_are_boats => k_is)
    (case a_are_spans => k_is)
    (case l_are_spans => k_is)
    (case c_are_spans => k_is)
    (case k_are_spans => k_is)
    (case a_law_tape => k_is)
    (case l_law_tape => k_is)
    (case c_law_tape => k_is)
    (case k_law_tape => k_is)
    (case a_law_draw => k_is)
    (case l_law_draw => k_is)
    (case c_law_draw => k_is)
    (case k_law_draw => k_is)
    (case a_law_pick => k_is)
    (case l_law_pick => k_is)
    (case c_law_pick => k_is)
    (case k_law_pick => k_is)
    (case a_law_names => k_is)
    (case l_law_names => k_is)
    (case c_law_names => k_is)
    (case k_law_names => k_is)
    (case a_law_is_whole => k_is)
    (case l_law_is_whole => k_is)
    (case c_law_is_whole => k_is)
    (case k_law_is_whole => k_is)
    (case a_law_odd => k_is)
    (case l_law_odd => k_is)
    (case c_law_odd => k_is)
    (case k_law_odd => k_is)
    (case a_law_boat_rows => k_is)
    (case l_law_boat_rows => k_is)
    (case c_law_boat_rows => k_is)
    (case k_law_boat_rows => k_is)
    (case a_law_span_row => k_is)
    (case l_law_span_row => k_is)
    (case c_law_span_row => k_is)
    (case k_law_span_row => k_is)
    (case a_law_drawn_parts => k_is)
    (case l_law_drawn_parts => k_is)
    (case c_law_drawn_parts => k_is)
    (case k_law_drawn_parts => k_is)
    (case a_law_made => k_is)
    (case l_law_made => k_is)
    (case c_law_made => k_is)
    (case k_law_made => k_is)
    (case a_law_weights => k_is)
    (case l_law_weights => k_is)
    (case c_law_weights => k_is)
    (case k_law_weights => k_is)
    (case a_law_eased => k_is)
    (case l_law_eased => k_is)
    (case c_law_eased => k_is)
    (case k_law_eased => k_is)
    (case a_law_room => k_is)
    (case l_law_room => k_is)
    (case c_law_room => k_is)
    (case k_law_room => k_is)
    (case a_law_refused => k_is)
    (case l_law_refused => k_is)
    (case c_law_refused => k_is)
    (case k_law_refused => k_is)
    (case alaw => k_is)
    (case llaw => k_is)
    (case claw => k_is)
    (case klaw => k_is)
    (case aMOST_BOATS => k_is)
    (case aMOST_BORNE => k_is)
    (case zlen => k_is)
    (case zmax => k_is)
    (case zmin => k_is)
    (case zrange => k_is)
    (case zlist => k_is)
    (case zrepr => k_is)
    (case zisinstance => k_is)
    (case zint => k_is)
    (case zbool => k_is)
    (case zstr => k_is)
    (case zall => k_is)
    (case zenumerate => k_is)
    (case zzip => k_is)
    (case zIndexError => k_is)
