import PyProof.Rows.All
import Wide.All
import OpenK.AllK
import Wide.FinOn
import HandS.ForMost
import HandS.ForExc
import HandS.Wide
import HandS.Evl
import HandS.Gcd
import HandS.Style
import HandS.NoneIn
import HandS.IsInst
import HandS.TryOnly
import HandS.Star
import HandS.Defaults
import HandS.Conv
import HandS.ForSpec
import KE.KMathG
import HandS.Steps
import HandS.More
import HandS.RaiseMore
import HandS.ExcOwn
import HandS.WordsExc
import HandS.TryMany
import HandS.TupLe
import PyProof.MinMaxWalk
import PySem.Challenge.RW_wherebase_k02_whole_turns_and_lines
set_option Elab.async false
set_option linter.all false
set_option maxRecDepth 100000
set_option maxHeartbeats 2000000
namespace Q
open PySem L2
def top (i : Nat) : Stmt := PySem.Challenge.pw_wherebase_k02_whole_turns_and_lines.main.body.getD i (.Pass ⟨0, 0, 0, 0⟩)
abbrev sBag : Stmt := top 33
abbrev sDraw : Stmt := top 34
abbrev sOne : Stmt := top 35
/-! ### powers of any size that fits -/
def CPowW (i j : Int) : Prop := 0 ≤ j ∧ (Builtin.Int.intBits i : Int) * j ≤ 2 ^ 27
theorem op_powW {X : Cx} : OpR X (binaryOp .Pow) (rI CPowW fun i j => .int (i ^ j.toNat)) := opI fun _ _ _ _ _ _ _ hc q => PyProof.Rows.pow_int hc.1 hc.2 q
/-! ### what a draw changes -/
structure Bgd (p : Addr) (H H' : Hp) : Prop where
  bag : ∃ a b c : Int, H' p = some (.lst [.int a, .int b, .int c])
  keep : ∀ l o, l ≠ p → H l = some o → H' l = some o
theorem Bgd.rfl' {p : Addr} {H : Hp} {a b c : Int} (h : H p = some (.lst [.int a, .int b, .int c])) : Bgd p H H := ⟨⟨a, b, c, h⟩, fun _ _ _ e => e⟩
theorem Bgd.trans {p : Addr} {H H1 H2 : Hp} (x : Bgd p H H1) (y : Bgd p H1 H2) : Bgd p H H2 := ⟨y.bag, fun l o n e => y.keep l o n (x.keep l o n e)⟩
theorem Bgd.free {p l : Addr} {H H1 : Hp} (x : Bgd p H H1) (h : H1 l = none) : H l = none := by
  obtain ⟨a, b, c, e⟩ := x.bag
  by_cases z : l = p
  · rw [z, e] at h
    cases h
  · cases q : H l with
    | none => rfl
    | some o =>
      rw [x.keep l o z q] at h
      cases h
theorem Bgd.new {p l : Addr} {H H1 : Hp} {o : HO} (x : Bgd p H H1) (h : H1 l = none) : Bgd p H (upd H1 l o) := by
  obtain ⟨a, b, c, e⟩ := x.bag
  refine ⟨⟨a, b, c, ?_⟩, fun m u n q => ?_⟩
  · rw [upd_ne (ne_of_none e h)]
    exact e
  · have q1 := x.keep m u n q
    rw [upd_ne (ne_of_none q1 h)]
    exact q1
theorem Bgd.put {p : Addr} {H H1 : Hp} (x : Bgd p H H1) (a b c : Int) : Bgd p H (upd H1 p (.lst [.int a, .int b, .int c])) := by
  refine ⟨⟨a, b, c, upd_same⟩, fun m u n q => ?_⟩
  rw [upd_ne n]
  exact x.keep m u n q
theorem Bgd.same {p : Addr} {H0 H H1 : Hp} (s : Same H0 H) (n : H0 p = none) (x : Bgd p H H1) : Same H0 H1 := fun l o e => x.keep l o (ne_of_none e n) (s l o e)
theorem atI_in {xs : List V} {r : Int} (h0 : 0 ≤ r) (h : r < xs.length) : ∃ v, atI xs r = some v ∧ xs[r.toNat]? = some v := by
  obtain ⟨n, rfl⟩ := Int.eq_ofNat_of_zero_le h0
  have hn : n < xs.length := by omega
  refine ⟨xs[n], ?_, ?_⟩
  · rw [atI_nat]
    simp [hn]
  · simp [hn]
theorem cut_ints (ns : List Int) (lo hi : Option Int) : ∃ ms : List Int, cutV (ns.map V.int) lo hi = ms.map V.int := by
  have cut : ∀ i j : Nat, ((ns.map V.int).drop i).take j = ((ns.drop i).take j).map V.int := fun i j => by rw [← List.map_drop, ← List.map_take]
  exact ⟨_, cut _ _⟩
theorem log_len {n : Nat} (h : n ≤ 1000) : ((n : Nat) : Int).natAbs.log2 < 9000 := by
  rw [Int.natAbs_natCast]
  exact Nat.lt_of_le_of_lt (Nat.le_trans (Nat.log2_le_self n) h) (by decide)
/-! ### the promises -/
def spBag (K : PySem.W.Frag) : Sp := fun vs H Q _ => ∃ (a : Addr) (ns : List Int) (i : Nat), vs = [.ref a, .int i] ∧ SqL K H a (ns.map V.int) ∧ i < 1000 ∧
  ∀ (p : Addr) (H' : Hp), H p = none → Same H H' → (∃ a b c : Int, H' p = some (.lst [.int a, .int b, .int c])) → Q (.ref p) H'
def spDraw : Sp := fun vs H Q _ => ∃ (p : Addr) (a b c n : Int), vs = [.ref p, .int n] ∧ H p = some (.lst [.int a, .int b, .int c]) ∧ 0 < n ∧ n.natAbs.log2 < 9000 ∧
  ∀ (r : Int) (H' : Hp), 0 ≤ r → r < n → Bgd p H H' → Q (.int r) H'
def spOne : Sp := fun vs H Q _ => ∃ (p q : Addr) (a b c : Int) (xs : List V), vs = [.ref p, .ref q] ∧ H p = some (.lst [.int a, .int b, .int c]) ∧ q ≠ p ∧ H q = some (.lst xs) ∧ 0 < xs.length ∧ xs.length ≤ 1000 ∧
  ∀ (i : Nat) (v : V) (H' : Hp), xs[i]? = some v → Bgd p H H' → Q v H'
def spShuf : Sp := fun vs H Q _ => ∃ (p q : Addr) (a b c : Int) (xs : List V), vs = [.ref p, .ref q] ∧ H p = some (.lst [.int a, .int b, .int c]) ∧ q ≠ p ∧ H q = some (.lst xs) ∧ xs.length ≤ 1000 ∧
  ∀ (l : Addr) (ys : List V) (H' : Hp), ys.Perm xs → H' l = some (.lst ys) → H l = none → Bgd p H H' → Q (.ref l) H'
structure TB (mg : Str → Option Value) : Prop where
  len : mg "len" = none
  sum : mg "sum" = none
  int : mg "int" = none
  abs : mg "abs" = none
  max : mg "max" = none
  range : mg "range" = none
  list : mg "list" = none
section
variable {P : Program} {w : World} {K : PySem.W.Frag} {mg : Str → Option Value} {base : Heap}
theorem scBag : FnScope ["script", "at", "cell", "great", "mixed"] ["script", "at"] (defScope sBag) := ⟨rfl, rfl, rfl, by decide +kernel, rfl, by decide +kernel, by decide +kernel⟩
theorem bigM : ((((10 : Int) ^ (Int.toNat 47)) ^ (Int.toNat 13))) ≠ 0 := by decide +kernel
theorem ok_bag {f : Addr} {fd : FuncData} (F : Fun K "_law_bag" "_law_bag" sBag f fd) (T : TB mg) : FnOk P w K mg base CX0 1 f fd ["script", "at"] (spBag K) := by
  refine F.ok scBag (fun vs H Q E h => ?_) (fun cdv A outer s H vs Q E hr h => ?_)
  · obtain ⟨a, ns, i, rfl, _⟩ := h
    rfl
  · obtain ⟨a, ns, i, rfl, hS, hi, k⟩ := h
    refine ⟨_, Evl.pss_cut (ps_set (i := 2) scBag.nd rfl (Or.inl rfl) (pe_ifExp (pt_cmpR op_lt (pv 1) (pe_callB call_len_seq (by rfl) T.len PySem.boot_len (pa_cons (pv 0) pa_nil)) (nomark _))
        (pe_ix ix_list (pv 0) (pv 1) (fun _ _ => rfl))
        (pe_op op_add (pe_op op_add (pe_callB (cr_sum rfl) (by rfl) T.sum (by decide +kernel) (pa_cons (pe_slice sl_list (pv 0) po_none (po_some pe_int)) pa_nil)) (pe_op op_mul pe_int (pv 1))) pe_int)))
      (pss_cons (ps_set (i := 3) scBag.nd rfl (Or.inl rfl) (pe_op op_modN (pe_callTy call_int1 (by rfl) T.int (by decide +kernel) (pa_cons (pe_callB call_abs (by rfl) T.abs (by decide +kernel) (pa_cons (pv 2) pa_nil)) pa_nil)) (pe_op op_powW (pe_op op_powW pe_int pe_int) pe_int)))
      (pss_cons (ps_set (i := 4) scBag.nd rfl (Or.inl rfl) (pe_op op_add (pe_op op_add (pe_op op_add (pe_op op_mul (pe_op op_mod (pe_callTy call_int1 (by rfl) T.int (by decide +kernel) (pa_cons (pv 3) pa_nil)) pe_int) pe_int) (pe_op op_mul pe_int (pv 1))) (pe_op op_mul pe_int (pe_callTy call_int1 (by rfl) T.int (by decide +kernel) (pa_cons (pe_cmpR op_lt (pv 2) pe_int (nomark _)) pa_nil)))) pe_int))
      (pss_one (ps_ret (pe_lst (pa_cons (pe_callB (call_max2 rfl) (by rfl) T.max (by decide +kernel) (pa_cons pe_int (pa_cons (pe_op op_sub (pv 3) (pe_op op_powW pe_int pe_int)) pa_nil))) (pa_cons (pe_op op_mod (pe_callTy call_int1 (by rfl) T.int (by decide +kernel) (pa_cons (pv 4) pa_nil)) pe_int) (pa_cons pe_int pa_nil)))))))), ?_⟩
    refine ⟨fun σ' H' => Same H H' ∧ ∃ c : Int, σ' = [some (.ref a), some (.int i), some (.int c), none, none], ?_, ?_⟩
    · refine ⟨_, rfl, _, rfl, a, _, rfl, .inl hS, _, _, rfl, rfl, _, rfl, ?_⟩
      refine ite2 (fun hlt => ?_) (fun _ => ?_)
      · have hlt := of_decide_eq_true hlt
        rw [List.length_map] at hlt
        have hl : i < ns.length := by omega
        refine ⟨_, rfl, _, rfl, a, _, _, V.int ns[i], rfl, rfl, hS, ?_, ?_⟩
        · rw [atI_nat]
          simp [hl]
        · exact ⟨Same.refl H, _, rfl⟩
      · refine ⟨_, rfl, _, rfl, a, ns.map V.int, rfl, hS, fun l hl => ?_⟩
        obtain ⟨ms, em⟩ := cut_ints ns none (some 1)
        rw [em]
        refine ⟨l, ms, rfl, SqL.of upd_same, _, rfl, _, _, rfl, rfl, .inl ?_, _, _, rfl, rfl, _, _, rfl, rfl, ?_⟩
        · show -(2 ^ 64) < (103 : Int) ∧ (103 : Int) < 2 ^ 64
          decide
        · exact ⟨fun b o e => by rw [upd_ne (ne_of_none e hl)]; exact e, _, rfl⟩
    · rintro σ' H1 ⟨s1, cell, rfl⟩
      refine ⟨_, rfl, cell, rfl, .inl ⟨_, rfl, ?_⟩⟩
      refine ⟨_, _, rfl, rfl, ⟨by decide, by decide +kernel⟩, _, _, rfl, rfl, ⟨by decide, by decide +kernel⟩, _, _, rfl, rfl, bigM, ?_⟩
      refine ⟨_, rfl, .inl ⟨_, rfl, _, _, rfl, rfl, (by show (0 : Int) < 2305843009213693723; decide), _, _, rfl, rfl, .inr ?_, _, rfl, _, _, rfl, rfl, .inl ?_, _, _, rfl, rfl, ?_⟩⟩
      · show -(2 ^ 64) < (1000231 : Int) ∧ (1000231 : Int) < 2 ^ 64
        decide
      · show -(2 ^ 64) < (9011 : Int) ∧ (9011 : Int) < 2 ^ 64
        decide
      · refine ⟨_, rfl, _, _, rfl, rfl, .inr ⟨_, rfl, _, _, rfl, rfl, .inl ?_, _, _, rfl, rfl, _, _, rfl, rfl, ?_⟩⟩
        · show -(2 ^ 64) < (41 : Int) ∧ (41 : Int) < 2 ^ 64
          decide
        · refine ⟨_, rfl, _, _, rfl, rfl, ⟨by decide, by decide +kernel⟩, _, _, rfl, rfl, _, _, rfl, ?_⟩
          refine ⟨_, rfl, .inl ⟨_, rfl, _, _, rfl, rfl, ?_, (by show 3 ≤ sizeLine; decide), fun p hp => ?_⟩⟩
          · show (0 : Int) < 2305843009213693951
            decide
          · exact k p _ (s1.free hp) (fun b o e => by rw [upd_ne (ne_of_none (s1 b o e) hp)]; exact s1 b o e) ⟨_, _, _, upd_same⟩
theorem scDraw : FnScope ["bag", "total", "found", "one", "two"] ["bag", "total"] (defScope sDraw) := ⟨rfl, rfl, rfl, by decide +kernel, rfl, by decide +kernel, by decide +kernel⟩
theorem ok_draw {f : Addr} {fd : FuncData} (F : Fun K "_law_draw" "_law_draw" sDraw f fd) (T : TB mg) : FnOk P w K mg base CX0 1 f fd ["bag", "total"] spDraw := by
  refine F.ok scDraw (fun vs H Q E h => ?_) (fun cdv A outer s H vs Q E hr h => ?_)
  · obtain ⟨p, a, b, c, n, rfl, _⟩ := h
    rfl
  · obtain ⟨p, a, b, c, n, rfl, hp, hn, hw, k⟩ := h
    have B0 : Bgd p H H := Bgd.rfl' hp
    refine ⟨_, pss_cons (ps_if (pt_cmpR op_gt (pe_ix ix_list (pv 0) pe_int (fun _ _ => rfl)) pe_int (nomark _))
        (pss_cons (ps_set (i := 2) scDraw.nd rfl (Or.inl rfl) (pe_op op_mod (pe_callTy call_int1 (by rfl) T.int (by decide +kernel) (pa_cons (pe_ix ix_list (pv 0) pe_int (fun _ _ => rfl)) pa_nil)) (pv 1)))
        (pss_cons (ps_asg (pe_op op_fdivW (pe_ix ix_list (pv 0) pe_int (fun _ _ => rfl)) (pv 1)) (pg_sub (pv 0) pe_int set_list))
        (pss_one (ps_ret (pv 2))))) pss_nil)
      (pss_cons (ps_asg (pe_op op_add (pe_ix ix_list (pv 0) pe_int (fun _ _ => rfl)) pe_int) (pg_sub (pv 0) pe_int set_list))
      (pss_cons (ps_set (i := 3) scDraw.nd rfl (Or.inl rfl) (pe_op op_mod (pe_callTy call_int1 (by rfl) T.int (by decide +kernel) (pa_cons (pe_op op_add (pe_ix ix_list (pv 0) pe_int (fun _ _ => rfl)) (pe_op op_mul pe_int (pe_ix ix_list (pv 0) pe_int (fun _ _ => rfl)))) pa_nil)) pe_int))
      (pss_cons (ps_set (i := 4) scDraw.nd rfl (Or.inl rfl) (pe_op op_add (pe_op op_mul (pe_op op_mod (pe_callTy call_int1 (by rfl) T.int (by decide +kernel) (pa_cons (pe_op op_mul (pv 3) (pv 3)) pa_nil)) pe_int) (pv 3)) (pe_op op_mul pe_int (pe_ix ix_list (pv 0) pe_int (fun _ _ => rfl)))))
      (pss_one (ps_ret (pe_op op_mod (pe_callTy call_int1 (by rfl) T.int (by decide +kernel) (pa_cons (pe_op op_fdiv (pe_op op_mod (pe_callTy call_int1 (by rfl) T.int (by decide +kernel) (pa_cons (pv 4) pa_nil)) pe_int) pe_int) pa_nil)) (pv 1))))))), ?_⟩
    refine ⟨_, rfl, p, _, _, V.int a, rfl, rfl, SqL.of hp, rfl, _, _, rfl, rfl, _, rfl, ?_⟩
    refine ite2 (fun _ => ?_) (fun _ => ?_)
    · refine ⟨_, rfl, p, _, _, V.int a, rfl, rfl, SqL.of hp, rfl, .inl ⟨_, rfl, _, rfl, _, _, rfl, rfl, hn, ?_⟩⟩
      refine ⟨_, rfl, p, _, _, V.int a, rfl, rfl, SqL.of hp, rfl, _, rfl, _, _, rfl, rfl, ⟨hn, hw⟩, ?_⟩
      refine ⟨_, rfl, p, _, _, 0, rfl, rfl, hp, rfl, _, rfl, ?_⟩
      exact k _ _ (Int.emod_nonneg _ (by omega)) (Int.emod_lt_of_pos _ hn) (B0.put _ _ _)
    · refine ⟨_, rfl, p, _, _, V.int c, rfl, rfl, SqL.of hp, rfl, _, _, rfl, rfl, ?_⟩
      refine ⟨_, rfl, p, _, _, 2, rfl, rfl, hp, rfl, ?_⟩
      refine ⟨_, rfl, p, _, _, V.int b, rfl, rfl, SqL.of upd_same, rfl, _, rfl, p, _, _, V.int (c + 1), rfl, rfl, SqL.of upd_same, rfl, _, _, rfl, rfl, .inl ?_, _, _, rfl, rfl, .inl ⟨_, rfl, _, _, rfl, rfl, ?_, ?_⟩⟩
      · show -(2 ^ 64) < (1048609 : Int) ∧ (1048609 : Int) < 2 ^ 64
        decide
      · show (0 : Int) < 2305843009213693951
        decide
      have o1 : 0 ≤ (b + 1048609 * (c + 1)) % 2305843009213693951 := Int.emod_nonneg _ (by decide)
      have o2 : (b + 1048609 * (c + 1)) % 2305843009213693951 < 2305843009213693951 := Int.emod_lt_of_pos _ (by decide)
      generalize (b + 1048609 * (c + 1)) % 2305843009213693951 = one at o1 o2 ⊢
      refine ⟨_, rfl, _, rfl, _, _, rfl, rfl, .inl ⟨by omega, by omega⟩, .inl ⟨_, rfl, _, _, rfl, rfl, ?_, ?_⟩⟩
      · show (0 : Int) < 2305843009213693723
        decide
      have t1 : 0 ≤ one * one % 2305843009213693723 := Int.emod_nonneg _ (by decide)
      have t2 : one * one % 2305843009213693723 < 2305843009213693723 := Int.emod_lt_of_pos _ (by decide)
      generalize one * one % 2305843009213693723 = sq at t1 t2 ⊢
      refine ⟨_, rfl, _, _, rfl, rfl, .inl ⟨by omega, by omega⟩, _, rfl, p, _, _, V.int (c + 1), rfl, rfl, SqL.of upd_same, rfl, _, _, rfl, rfl, .inl ?_, _, _, rfl, rfl, ?_⟩
      · show -(2 ^ 64) < (8117 : Int) ∧ (8117 : Int) < 2 ^ 64
        decide
      generalize sq * one + 8117 * (c + 1) = two
      refine ⟨_, rfl, .inl ⟨_, rfl, _, _, rfl, rfl, ?_, _, _, rfl, rfl, ?_, .inl ⟨_, rfl, _, rfl, _, _, rfl, rfl, hn, ?_⟩⟩⟩
      · show (0 : Int) < 2305843009213693921
        decide
      · exact ⟨by decide, by decide⟩
      exact k _ _ (Int.emod_nonneg _ (by omega)) (Int.emod_lt_of_pos _ hn) (B0.put _ _ _)
theorem scOne : FnScope ["bag", "items"] ["bag", "items"] (defScope sOne) := ⟨rfl, rfl, rfl, by decide +kernel, rfl, by decide +kernel, by decide +kernel⟩
theorem ok_one {f fD : Addr} {fd fdD : FuncData} (F : Fun K "_law_one_of" "_law_one_of" sOne f fd) (T : TB mg) (FD : FnOk P w K mg base CX0 1 fD fdD ["bag", "total"] spDraw) (bD : Binds K fdD ["bag", "total"] []) (gD : mg "_law_draw" = some (.ref fD)) (kD : PySem.W.keepIn K (.ref fD) = true) :
    FnOk P w K mg base CX0 2 f fd ["bag", "items"] spOne := by
  refine F.ok scOne (fun vs H Q E h => ?_) (fun cdv A outer s H vs Q E hr h => ?_)
  · obtain ⟨p, q, a, b, c, xs, rfl, _⟩ := h
    rfl
  · obtain ⟨p, q, a, b, c, xs, rfl, hp, hne, hq, h0, h1, k⟩ := h
    refine ⟨_, pss_one (ps_ret (pe_ix ix_list (pv 1) (pe_call FD hr (by rfl) gD kD bD .nil pass0 (pa_cons (pv 0) (pa_cons (pe_callB call_len_seq (by rfl) T.len PySem.boot_len (pa_cons (pv 1) pa_nil)) pa_nil))) (fun _ _ => rfl))), ?_⟩
    refine ⟨_, rfl, _, rfl, _, rfl, q, _, rfl, .inl (SqL.of hq), p, a, b, c, _, rfl, hp, by omega, log_len h1, ?_⟩
    · intro r H' r0 r1 B
      obtain ⟨v, e1, e2⟩ := atI_in r0 r1
      exact ⟨q, xs, _, v, rfl, rfl, SqL.of (B.keep _ _ hne hq), e1, k r.toNat _ _ e2 B⟩
end
end Q
set_option Elab.async false
set_option linter.all false
set_option maxRecDepth 100000
set_option maxHeartbeats 2000000
namespace PM
def gc (x y w : Int) : Int := ((Nat.gcd (Nat.gcd x.natAbs y.natAbs) w.natAbs : Nat) : Int)
end PM
namespace Q
open PySem L2 PySem.Spec PyProof.Rows PySem.Calls
theorem args_gcd3 (a b c : Value) : argsOk "math.gcd" ⟨[a, b, c], []⟩ := by unfold argsOk; kernel_rfl
theorem run_gcd3 (a : Int) (t : Tok) (b : Int) (u : Tok) (c : Int) (v : Tok) :
    Gives (Builtin.«math.gcd» ⟨[.int a t, .int b u, .int c v], []⟩) (.int ((((Nat.gcd 0 a.natAbs).gcd b.natAbs).gcd c.natAbs : Nat) : Int)) :=
  .of_wp fun M A E s Q h => by obtain ⟨hp, g, d, tk, os⟩ := s; wp_walk; exact ⟨_, rfl, h⟩
section
variable {X : Cx}
def rGcd3 : List V → Hp → VK → Prop := fun vs H Q => ∃ a b c : Int, vs = [.int a, .int b, .int c] ∧ Q (.int (PM.gc a b c)) H
theorem cr_gcd3 : CallR X (.builtin "math.gcd") rGcd3 := by
  intro pins s σ H vs us Q I r h
  obtain ⟨a, b, c, rfl, q⟩ := h
  cases r with
  | cons r1 r =>
    cases r with
    | cons r2 r =>
      cases r with
      | cons r3 r =>
        cases r
        obtain ⟨t1, rfl⟩ := r1
        obtain ⟨t2, rfl⟩ := r2
        obtain ⟨t3, rfl⟩ := r3
        have g := run_gcd3 a t1 b t2 c t3
        rw [Nat.gcd_zero_left] at g
        exact call_function_meets PySem.W.MGF.kind_gcd PySem.W.MGF.plain_gcd PySem.W.MGF.entry_gcd (args_gcd3 _ _ _) g.meets ⟨.int _, H, I.tok _, ⟨_, rfl⟩, q⟩
/-- // by any divisor but 0, below 2 ^ 9000 -/
def CDv (_ j : Int) : Prop := j ≠ 0 ∧ j.natAbs.log2 < 9000
theorem op_dv : OpR X (binaryOp .FloorDiv) (rI CDv fun i j => .int (i.fdiv j)) := opI fun i j _ _ _ _ _ hc q => floordiv_int hc.1 q (.inl (PyProof.noPylong_of_log2 hc.2))
end
/-! ### how wide numbers are -/
structure Bd (k : Nat) (i : Int) : Prop where
  lt : i.natAbs < 2 ^ k
theorem Bd.le {a b : Nat} {i : Int} (x : Bd a i) (h : a ≤ b) : Bd b i := ⟨Nat.lt_of_lt_of_le x.lt (Nat.pow_le_pow_right (by decide) h)⟩
theorem Bd.neg {a : Nat} {i : Int} (x : Bd a i) : Bd a (-i) := ⟨by rw [Int.natAbs_neg]; exact x.lt⟩
theorem Bd.mul {a b : Nat} {i j : Int} (x : Bd a i) (y : Bd b j) : Bd (a + b) (i * j) := ⟨wide_lt x.lt y.lt⟩
theorem Bd.add {a : Nat} {i j : Int} (x : Bd a i) (y : Bd a j) : Bd (a + 1) (i + j) := ⟨by
  have h1 := x.lt
  have h2 := y.lt
  have h3 := Int.natAbs_add_le i j
  rw [Nat.pow_succ]
  omega⟩
theorem Bd.sub {a : Nat} {i j : Int} (x : Bd a i) (y : Bd a j) : Bd (a + 1) (i - j) := by
  rw [Int.sub_eq_add_neg]
  exact x.add y.neg
theorem Bd.pos {a : Nat} {i : Int} (x : Bd a i) : Bd (a + 1) i := x.le (Nat.le_succ a)
theorem Bd.mw {a b : Nat} {i j : Int} (x : Bd a i) (y : Bd b j) (h : a + b + 2 ≤ 1000000) : CMulW i j := wide_mul x.pos.lt y.pos.lt (Nat.succ_pos _) (Nat.succ_pos _) (by omega)
theorem Bd.log {a : Nat} {i : Int} (x : Bd a i) (h : a + 1 ≤ 9000) : i.natAbs.log2 < 9000 := Nat.lt_of_lt_of_le (PySem.Flt.log2_lt_of (Nat.succ_pos _) x.pos.lt) h
theorem Bd.of_le {a : Nat} {i j : Int} (x : Bd a j) (h : i.natAbs ≤ j.natAbs) : Bd a i := ⟨Nat.lt_of_le_of_lt h x.lt⟩
theorem gc_le {x y w : Int} (h : w ≠ 0) : (PM.gc x y w).natAbs ≤ w.natAbs := by
  unfold PM.gc
  rw [Int.natAbs_natCast]
  exact Nat.le_of_dvd (Int.natAbs_pos.mpr h) (Nat.gcd_dvd_right _ _)
end Q
set_option Elab.async false
set_option linter.all false
set_option maxRecDepth 100000
set_option maxHeartbeats 2000000
namespace PM
structure P3 where
  x : Int
  y : Int
  w : Int
def low (x y w : Int) : P3 := ⟨x / gc x y w, y / gc x y w, w / gc x y w⟩
theorem gc_dvd (x y w : Int) : gc x y w ∣ x ∧ gc x y w ∣ y ∧ gc x y w ∣ w := by
  unfold gc
  refine ⟨?_, ?_, ?_⟩
  · exact Int.ofNat_dvd_left.mpr (Nat.dvd_trans (Nat.gcd_dvd_left _ _) (Nat.gcd_dvd_left _ _))
  · exact Int.ofNat_dvd_left.mpr (Nat.dvd_trans (Nat.gcd_dvd_left _ _) (Nat.gcd_dvd_right _ _))
  · exact Int.ofNat_dvd_left.mpr (Nat.gcd_dvd_right _ _)
theorem gc_pos {x y w : Int} (h : w ≠ 0) : 0 < gc x y w := by
  unfold gc
  have : 0 < Nat.gcd (Nat.gcd x.natAbs y.natAbs) w.natAbs := Nat.gcd_pos_of_pos_right _ (Int.natAbs_pos.mpr h)
  omega
theorem gc_neg (x y w : Int) : gc (-x) (-y) (-w) = gc x y w := by
  unfold gc
  rw [Int.natAbs_neg, Int.natAbs_neg, Int.natAbs_neg]
def lowS (x y w : Int) : P3 := if w < 0 then low (-x) (-y) (-w) else low x y w
theorem fd_low {x y w : Int} (h : ¬ w < 0) : lowS x y w = ⟨x.fdiv (gc x y w), y.fdiv (gc x y w), w.fdiv (gc x y w)⟩ := by
  obtain ⟨d1, d2, d3⟩ := gc_dvd x y w
  unfold lowS
  rw [if_neg h, Int.fdiv_eq_ediv_of_dvd d1, Int.fdiv_eq_ediv_of_dvd d2, Int.fdiv_eq_ediv_of_dvd d3]
  rfl
theorem fd_lowN {x y w : Int} (h : w < 0) : lowS x y w = ⟨x.fdiv (-gc x y w), y.fdiv (-gc x y w), w.fdiv (-gc x y w)⟩ := by
  obtain ⟨d1, d2, d3⟩ := gc_dvd x y w
  have e : ∀ z, gc x y w ∣ z → z.fdiv (-gc x y w) = (-z) / gc x y w := fun z d => by
    rw [Int.fdiv_eq_ediv_of_dvd (Int.neg_dvd.mpr d), Int.ediv_neg, Int.neg_ediv_of_dvd d]
  unfold lowS
  rw [if_pos h, e x d1, e y d2, e w d3]
  unfold low
  rw [gc_neg]
end PM
namespace Q
open PySem L2 PySem.Spec PyProof.Rows PySem.Calls
abbrev sLow : Stmt := top 7
abbrev sCrd : Stmt := top 8
abbrev sVal : Stmt := top 10
abbrev sLine : Stmt := top 9
abbrev sCross : Stmt := top 11
abbrev sSign : Stmt := top 12
abbrev sTurn : Stmt := top 13
abbrev sWay : Stmt := top 14
abbrev sLies : Stmt := top 15
abbrev sHalf : Stmt := top 16
def _root_.PM.P3.vs (p : PM.P3) : List V := [.int p.x, .int p.y, .int p.w]
theorem no_dec {p : Prop} [Decidable p] (h : ¬ decide p = true) : ¬ p := fun hp => h (decide_eq_true hp)
theorem same_new {H : Hp} {p : Addr} {o : HO} (hp : H p = none) : Same H (upd H p o) := fun b u e => by rw [upd_ne (ne_of_none e hp)]; exact e
/-- a def that may be called by its name -/
structure Cl (P : Program) (w : World) (K : PySem.W.Frag) (mg : Str → Option Value) (base : Heap) (k : Nat) (x : Str) (sp : Sp) : Prop where
  ex : ∃ (f : Addr) (fd : FuncData) (ps : List Str), FnOk P w K mg base CX0 k f fd ps sp ∧ mg x = some (.ref f) ∧ PySem.W.keepIn K (.ref f) = true ∧ Binds K fd ps []
section
variable {X : Cx} {k j : Nat} {x : Str} {sp : Sp} {p pos : Pos} {e : Expr} {es : List Expr} {t : TA}
theorem pe_cl (c : Cl X.prog X.w X.K X.mg X.base k x sp) (hr : Room j X.A) (hk : k ≤ j) (hg : Gl X x) (ha : PA X (e :: es) t)
    (hdb : (x == ("__debug__" : Str)) = false := by decide) (he : starEach (e :: es) X.env = (false, eval e X.env) :: starEach es X.env := by rfl) (hpl : (backTo pos (starEach es X.env)).any (·.1) = false := by rfl) :
    PE X (.Call (.Name x p) (e :: es) [] pos) (tCall sp [] E0 t) := by
  obtain ⟨f, fd, ps, F, hm, kp, b⟩ := c.ex
  exact pe_call F (hr.mono hk) hg hm kp b .nil pass0 ha hdb he hpl
end
structure TM (mg : Str → Option Value) : Prop where
  gcd : mg "gcd" = some (.builtin "math.gcd")
/-! ### numbers of bounded width -/
structure VI (k : Nat) (te : TE) (σ : L2.St) (H : Hp) (n : Int) : Prop where
  v : Val te σ H (.int n)
  b : Bd k n
section
variable {K : PySem.W.Frag} {σ : L2.St} {H : Hp} {ta tb : TE} {a b : Nat} {m n : Int}
theorem VI.mul (x : VI a ta σ H m) (y : VI b tb σ H n) (h : a + b + 2 ≤ 1000000 := by decide) : VI (a + b) (tOp (rI CMulW fun i j => .int (i * j)) ta tb) σ H (m * n) :=
  ⟨val_op x.v y.v fun _ q => ⟨_, _, rfl, rfl, x.b.mw y.b h, q⟩, x.b.mul y.b⟩
theorem VI.sub (x : VI a ta σ H m) (y : VI a tb σ H n) : VI (a + 1) (tOp (rI0 fun i j => .int (i - j)) ta tb) σ H (m - n) :=
  ⟨val_op x.v y.v fun _ q => ⟨_, _, rfl, rfl, q⟩, x.b.sub y.b⟩
theorem VI.add (x : VI a ta σ H m) (y : VI a tb σ H n) : VI (a + 1) (tOp (rI0 fun i j => .int (i + j)) ta tb) σ H (m + n) :=
  ⟨val_op x.v y.v fun _ q => ⟨_, _, rfl, rfl, q⟩, x.b.add y.b⟩
theorem VI.le (x : VI a ta σ H m) (h : a ≤ b) : VI b ta σ H m := ⟨x.v, x.b.le h⟩
theorem vi_var {i : Nat} (h : σ[i]? = some (some (.int n))) (hb : Bd a n) : VI a (tVar i) σ H n := ⟨val_var h, hb⟩
theorem vi_ix {i : Nat} {p : Addr} {xs : List V} {j : Int} (h : σ[i]? = some (some (.ref p))) (hq : SqT K H p xs) (he : atI xs j = some (.int n)) (hb : Bd a n) : VI a (tOp (rIxT K) (tVar i) (tC (.int j))) σ H n :=
  ⟨val_op (val_var h) val_c fun _ q => ⟨_, _, _, _, rfl, rfl, hq, he, q⟩, hb⟩
end
/-- three numbers that are not too wide -/
structure B3 (k : Nat) (p : PM.P3) : Prop where
  x : Bd k p.x
  y : Bd k p.y
  w : Bd k p.w
section
variable {K : PySem.W.Frag} {σ : L2.St} {H : Hp} {k i : Nat} {a : Addr} {p : PM.P3}
theorem vx (h : σ[i]? = some (some (.ref a)) := by rfl) (hH : H a = some (.tup p.vs)) (b : B3 k p) : VI k (tOp (rIxT K) (tVar i) (tC (.int 0))) σ H p.x := vi_ix h (SqT.of hH) rfl b.x
theorem vy (h : σ[i]? = some (some (.ref a)) := by rfl) (hH : H a = some (.tup p.vs)) (b : B3 k p) : VI k (tOp (rIxT K) (tVar i) (tC (.int 1))) σ H p.y := vi_ix h (SqT.of hH) rfl b.y
theorem vw (h : σ[i]? = some (some (.ref a)) := by rfl) (hH : H a = some (.tup p.vs)) (b : B3 k p) : VI k (tOp (rIxT K) (tVar i) (tC (.int 2))) σ H p.w := vi_ix h (SqT.of hH) rfl b.w
end
/-! ### the promises -/
def spLow : Sp := fun vs H Q _ => ∃ x y w : Int, vs = [.int x, .int y, .int w] ∧ w ≠ 0 ∧ Bd 6000 w ∧ ∀ p H', H p = none → Same H H' → H' p = some (.tup (PM.lowS x y w).vs) → Q (.ref p) H'
def spSign : Sp := fun vs H Q _ => ∃ n : Int, vs = [.int n] ∧ Q (.int (if n > 0 then 1 else if n < 0 then -1 else 0)) H
section
variable {P : Program} {w : World} {K : PySem.W.Frag} {mg : Str → Option Value} {base : Heap}
theorem scLow : FnScope ["x", "y", "w", "shared"] ["x", "y", "w"] (defScope sLow) := ⟨rfl, rfl, rfl, by decide +kernel, rfl, by decide +kernel, by decide +kernel⟩
theorem ok_low {f : Addr} {fd : FuncData} (F : Fun K "lowest_point" "lowest_point" sLow f fd) (T : TM mg) : FnOk P w K mg base CX0 1 f fd ["x", "y", "w"] spLow := by
  refine F.ok scLow (fun vs H Q E h => ?_) (fun cdv A outer s H vs Q E hr h => ?_)
  · obtain ⟨x, y, w, rfl, _⟩ := h
    rfl
  · obtain ⟨x, y, w, rfl, hw, bw, k⟩ := h
    refine ⟨_, (pss_cons (ps_set (i := 3) scLow.nd rfl (Or.inl rfl) (pe_callBfun cr_gcd3 (by rfl) T.gcd (pa_cons (pv 0) (pa_cons (pv 1) (pa_cons (pv 2) pa_nil)))))
      (pss_cons (ps_if (pt_cmpR op_lt (pv 2) pe_int (nomark _)) (pss_one (ps_set (i := 3) scLow.nd rfl (Or.inl rfl) (pe_un un_neg (pv 3)))) pss_nil)
      (pss_one (ps_ret (pe_tup (pa_cons (pe_op op_dv (pv 0) (pv 3)) (pa_cons (pe_op op_dv (pv 1) (pv 3)) (pa_cons (pe_op op_dv (pv 2) (pv 3)) pa_nil)))))))), ?_⟩
    refine ⟨_, rfl, _, rfl, _, rfl, _, _, _, rfl, ?_⟩
    have g0 : PM.gc x y w ≠ 0 := by
      have := PM.gc_pos (x := x) (y := y) hw
      omega
    have gl : (PM.gc x y w).natAbs.log2 < 9000 := (bw.of_le (gc_le hw)).log (by decide)
    refine ⟨_, rfl, _, _, rfl, rfl, _, rfl, ?_⟩
    refine ite2 (fun c => ?_) (fun c => ?_)
    · have c := of_decide_eq_true c
      have g1 : (-PM.gc x y w) ≠ 0 := by omega
      have gl1 : (-PM.gc x y w).natAbs.log2 < 9000 := by rw [Int.natAbs_neg]; exact gl
      refine ⟨_, rfl, _, rfl, ?_⟩
      refine ⟨_, rfl, _, rfl, _, _, rfl, rfl, ⟨g1, gl1⟩, _, rfl, _, rfl, _, _, rfl, rfl, ⟨g1, gl1⟩, _, rfl, _, rfl, _, _, rfl, rfl, ⟨g1, gl1⟩, (by show 3 ≤ sizeLine; decide), fun p hp => ?_⟩
      refine k p _ hp (same_new hp) ?_
      rw [upd_same, PM.fd_lowN c]
      rfl
    · have c := no_dec c
      refine ⟨_, rfl, _, rfl, _, _, rfl, rfl, ⟨g0, gl⟩, _, rfl, _, rfl, _, _, rfl, rfl, ⟨g0, gl⟩, _, rfl, _, rfl, _, _, rfl, rfl, ⟨g0, gl⟩, (by show 3 ≤ sizeLine; decide), fun p hp => ?_⟩
      refine k p _ hp (same_new hp) ?_
      rw [upd_same, PM.fd_low c]
      rfl
theorem scSign : FnScope ["number"] ["number"] (defScope sSign) := ⟨rfl, rfl, rfl, by decide +kernel, rfl, by decide +kernel, by decide +kernel⟩
theorem ok_sign {f : Addr} {fd : FuncData} (F : Fun K "sign_of" "sign_of" sSign f fd) : FnOk P w K mg base CX0 1 f fd ["number"] spSign := by
  refine F.ok scSign (fun vs H Q E h => ?_) (fun cdv A outer s H vs Q E hr h => ?_)
  · obtain ⟨n, rfl, _⟩ := h
    rfl
  · obtain ⟨n, rfl, k⟩ := h
    refine ⟨_, (pss_cons (ps_if (pt_cmpR op_gt (pv 0) pe_int (nomark _)) (pss_one (ps_ret pe_int)) pss_nil)
      (pss_cons (ps_if (pt_cmpR op_lt (pv 0) pe_int (nomark _)) (pss_one (ps_ret (pe_un un_neg pe_int))) pss_nil)
      (pss_one (ps_ret pe_int)))), ?_⟩
    refine ⟨_, rfl, _, _, rfl, rfl, _, rfl, ?_⟩
    refine ite2 (fun c => ?_) (fun c => ?_)
    · have c := of_decide_eq_true c
      rw [if_pos c] at k
      exact k
    · have c := no_dec c
      rw [if_neg c] at k
      refine ⟨_, rfl, _, _, rfl, rfl, _, rfl, ?_⟩
      refine ite2 (fun c => ?_) (fun c => ?_)
      · have c := of_decide_eq_true c
        rw [if_pos c] at k
        exact ⟨_, rfl, k⟩
      · have c := no_dec c
        rw [if_neg c] at k
        exact k
end
end Q
set_option Elab.async false
set_option linter.all false
set_option maxRecDepth 100000
set_option maxHeartbeats 2000000
namespace PM
/-- the cross product -/
def cr (p q : P3) : P3 := ⟨p.y * q.w - p.w * q.y, p.w * q.x - p.x * q.w, p.x * q.y - p.y * q.x⟩
def dot (l p : P3) : Int := l.x * p.x + l.y * p.y + l.w * p.w
def det (p q r : P3) : Int := dot (cr p q) r
def sgn (n : Int) : Int := if n > 0 then 1 else if n < 0 then -1 else 0
def dx (s e : P3) : Int := e.x * s.w - s.x * e.w
def dy (s e : P3) : Int := e.y * s.w - s.y * e.w
def lineOf (p q : P3) : P3 := low (cr p q).x (cr p q).y (cr p q).w
def between (p q r : P3) : Bool := if sgn (det q r p) ≠ 0 then false else decide (dx p q * dx p r + dy p q * dy p r ≤ 0)
def half (p q : P3) : P3 := lowS (p.x * q.w + q.x * p.w) (p.y * q.w + q.y * p.w) (2 * p.w * q.w)
theorem gc_pos' {x y w : Int} (h : x ≠ 0 ∨ y ≠ 0 ∨ w ≠ 0) : 0 < gc x y w := by
  unfold gc
  have : 0 < Nat.gcd (Nat.gcd x.natAbs y.natAbs) w.natAbs := by
    rcases h with h | h | h
    · exact Nat.gcd_pos_of_pos_left _ (Nat.gcd_pos_of_pos_left _ (Int.natAbs_pos.mpr h))
    · exact Nat.gcd_pos_of_pos_left _ (Nat.gcd_pos_of_pos_right _ (Int.natAbs_pos.mpr h))
    · exact Nat.gcd_pos_of_pos_right _ (Int.natAbs_pos.mpr h)
  omega
theorem low_fd (x y w : Int) : low x y w = ⟨x.fdiv (gc x y w), y.fdiv (gc x y w), w.fdiv (gc x y w)⟩ := by
  obtain ⟨d1, d2, d3⟩ := gc_dvd x y w
  rw [Int.fdiv_eq_ediv_of_dvd d1, Int.fdiv_eq_ediv_of_dvd d2, Int.fdiv_eq_ediv_of_dvd d3]
  rfl
end PM
namespace Q
open PySem L2 PySem.Spec PyProof.Rows PySem.Calls
open PM
def ValA (ta : TA) (σ : L2.St) (H : Hp) (vs : List V) : Prop := ∀ Q : List V → Hp → Prop, Q vs H → ta σ H Q
section
variable {σ : L2.St} {H : Hp} {te : TE} {t : TA} {v : V} {vs : List V} {sp : Sp} {PV : V → Hp → Prop} {E : XK} {r : List V → Hp → VK → Prop}
theorem va_nil : ValA tNil σ H [] := fun _ q => q
theorem va_cons (h : Val te σ H v) (ht : ValA t σ H vs) : ValA (tCons te t) σ H (v :: vs) := by
  intro Q q
  refine h _ ?_
  exact ht _ q
theorem vh_call (ha : ValA t σ H vs) (hs : ∀ Q : VK, (∀ v H', PV v H' → Q v H') → sp vs H Q E) : ValH (tCall sp [] E t) σ H PV := by
  intro Q q
  refine ha _ ?_
  rw [List.append_nil]
  exact hs Q q
theorem val_call (ha : ValA t σ H vs) (hs : ∀ Q : VK, Q v H → sp vs H Q E) : Val (tCall sp [] E t) σ H v := by
  intro Q q
  refine ha _ ?_
  rw [List.append_nil]
  exact hs Q q
theorem val_cb (ha : ValA t σ H vs) (hs : ∀ Q : VK, Q v H → r vs H Q) : Val (tCB r t) σ H v := by
  intro Q q
  refine ha _ ?_
  exact hs Q q
theorem vh_tup (ha : ValA t σ H vs) (hl : vs.length ≤ sizeLine) (k : ∀ p, H p = none → PV (.ref p) (upd H p (.tup vs))) : ValH (tTup t) σ H PV := by
  intro Q q
  refine ha _ ⟨hl, fun p hp => q _ _ (k p hp)⟩
theorem val_dv {ta tb : TE} {m g : Int} (ha : Val ta σ H (.int m)) (hb : Val tb σ H (.int g)) (h0 : g ≠ 0) (hl : g.natAbs.log2 < 9000) : Val (tOp (rI CDv fun i j => .int (i.fdiv j)) ta tb) σ H (.int (m.fdiv g)) :=
  val_op ha hb fun _ q => ⟨_, _, rfl, rfl, ⟨h0, hl⟩, q⟩
theorem st_unpH3 {K : PySem.W.Frag} {i j k : Nat} {D : Ends} {m n o : V} (h : ValH te σ H (fun v H' => ∃ l, v = .ref l ∧ H l = none ∧ Same H H' ∧ H' l = some (.tup [m, n, o]))) (q : ∀ l H', H l = none → Same H H' → D.nx (((σ.set i (some m)).set j (some n)).set k (some o)) H') :
    tAsg te (gTup K 3 (gCons (gName i) (gCons (gName j) (gCons (gName k) gNil)))) D σ H := by
  refine h _ ?_
  rintro v H' ⟨l, rfl, hn, e, hl⟩
  exact ⟨l, _, rfl, SqT.of hl, rfl, _, _, rfl, _, _, rfl, _, _, rfl, rfl, q l H' hn e⟩
theorem ret_h {D : Ends} (h : ValH te σ H PV) (q : ∀ v H', PV v H' → D.rt v H') : tRet te D σ H := h _ q
end
theorem B3.of_gc {k : Nat} {x y w : Int} (h : x ≠ 0 ∨ y ≠ 0 ∨ w ≠ 0) (bx : Bd k x) (by_ : Bd k y) (bw : Bd k w) : Bd k (gc x y w) := by
  have e : ∀ {a b : Int}, b ≠ 0 → a ∣ b → a.natAbs ≤ b.natAbs := fun hb hd => Nat.le_of_dvd (Int.natAbs_pos.mpr hb) (Int.natAbs_dvd_natAbs.mpr hd)
  obtain ⟨d1, d2, d3⟩ := gc_dvd x y w
  rcases h with h | h | h
  · exact bx.of_le (e h d1)
  · exact by_.of_le (e h d2)
  · exact bw.of_le (e h d3)
theorem bd_div {k : Nat} {x g : Int} (b : Bd k x) : Bd k (x / g) := b.of_le (Int.natAbs_ediv_le_natAbs x g)
theorem B3.low {k : Nat} {x y w : Int} (bx : Bd k x) (by_ : Bd k y) (bw : Bd k w) : B3 k (low x y w) := ⟨bd_div bx, bd_div by_, bd_div bw⟩
theorem B3.lowS {k : Nat} {x y w : Int} (bx : Bd k x) (by_ : Bd k y) (bw : Bd k w) : B3 k (lowS x y w) := by
  unfold PM.lowS
  split
  · exact B3.low bx.neg by_.neg bw.neg
  · exact B3.low bx by_ bw
theorem B3.cr {k : Nat} {p q : P3} (b : B3 k p) (c : B3 k q) : B3 (k + k + 1) (cr p q) := ⟨(b.y.mul c.w).sub (b.w.mul c.y), (b.w.mul c.x).sub (b.x.mul c.w), (b.x.mul c.y).sub (b.y.mul c.x)⟩
def Nz (p : P3) : Prop := p.x ≠ 0 ∨ p.y ≠ 0 ∨ p.w ≠ 0
/-! ### the promises -/
def spCrd : Sp := fun vs H Q _ => ∃ (a b : Addr) (p q : P3), vs = [.ref a, .ref b] ∧ H a = some (.tup p.vs) ∧ H b = some (.tup q.vs) ∧ B3 1000 p ∧ B3 1000 q ∧
  ∀ l H', H l = none → Same H H' → H' l = some (.tup (cr p q).vs) → Q (.ref l) H'
def spVal : Sp := fun vs H Q _ => ∃ (a b : Addr) (p q : P3), vs = [.ref a, .ref b] ∧ H a = some (.tup p.vs) ∧ H b = some (.tup q.vs) ∧ B3 2001 p ∧ B3 1000 q ∧ Q (.int (dot p q)) H
def spLine : Sp := fun vs H Q _ => ∃ (a b : Addr) (p q : P3), vs = [.ref a, .ref b] ∧ H a = some (.tup p.vs) ∧ H b = some (.tup q.vs) ∧ B3 1000 p ∧ B3 1000 q ∧ Nz (cr p q) ∧
  ∀ l H', H l = none → Same H H' → H' l = some (.tup (lineOf p q).vs) → Q (.ref l) H'
def spCross : Sp := fun vs H Q _ => ∃ (a b : Addr) (p q : P3), vs = [.ref a, .ref b] ∧ H a = some (.tup p.vs) ∧ H b = some (.tup q.vs) ∧ B3 2001 p ∧ B3 2001 q ∧
  (((cr p q).w = 0 ∧ Q .non H) ∨ ((cr p q).w ≠ 0 ∧ ∀ l H', H l = none → Same H H' → H' l = some (.tup (lowS (cr p q).x (cr p q).y (cr p q).w).vs) → Q (.ref l) H'))
def spTurn : Sp := fun vs H Q _ => ∃ (a b c : Addr) (p q r : P3), vs = [.ref a, .ref b, .ref c] ∧ H a = some (.tup p.vs) ∧ H b = some (.tup q.vs) ∧ H c = some (.tup r.vs) ∧ B3 1000 p ∧ B3 1000 q ∧ B3 1000 r ∧ ∀ H', Same H H' → Q (.int (sgn (det p q r))) H'
def spWay : Sp := fun vs H Q _ => ∃ (a b : Addr) (p q : P3), vs = [.ref a, .ref b] ∧ H a = some (.tup p.vs) ∧ H b = some (.tup q.vs) ∧ B3 1000 p ∧ B3 1000 q ∧
  ∀ l H', H l = none → Same H H' → H' l = some (.tup [.int (dx p q), .int (dy p q)]) → Q (.ref l) H'
def spLies : Sp := fun vs H Q _ => ∃ (a b c : Addr) (p q r : P3), vs = [.ref a, .ref b, .ref c] ∧ H a = some (.tup p.vs) ∧ H b = some (.tup q.vs) ∧ H c = some (.tup r.vs) ∧ B3 1000 p ∧ B3 1000 q ∧ B3 1000 r ∧
  ∀ H', Same H H' → Q (.bl (between p q r)) H'
def spHalf : Sp := fun vs H Q _ => ∃ (a b : Addr) (p q : P3), vs = [.ref a, .ref b] ∧ H a = some (.tup p.vs) ∧ H b = some (.tup q.vs) ∧ B3 1000 p ∧ B3 1000 q ∧ p.w ≠ 0 ∧ q.w ≠ 0 ∧
  ∀ l H', H l = none → Same H H' → H' l = some (.tup (half p q).vs) → Q (.ref l) H'
section
variable {P : Program} {w : World} {K : PySem.W.Frag} {mg : Str → Option Value} {base : Heap}
theorem scCrd : FnScope ["one", "two"] ["one", "two"] (defScope sCrd) := ⟨rfl, rfl, rfl, by decide +kernel, rfl, by decide +kernel, by decide +kernel⟩
theorem ok_crd {f : Addr} {fd : FuncData} (F : Fun K "crossed" "crossed" sCrd f fd) : FnOk P w K mg base CX0 1 f fd ["one", "two"] spCrd := by
  refine F.ok scCrd (fun vs H Q E h => ?_) (fun cdv A outer s H vs Q E hr h => ?_)
  · obtain ⟨a, b, p, q, rfl, _⟩ := h
    rfl
  · obtain ⟨a, b, p, q, rfl, ha, hb, bp, bq, k⟩ := h
    refine ⟨_, pss_one (ps_ret (pe_tup (pa_cons (pe_op op_sub (pe_op op_mulW (pe_ix ix_tup (pv 0) pe_int (fun _ _ => rfl)) (pe_ix ix_tup (pv 1) pe_int (fun _ _ => rfl))) (pe_op op_mulW (pe_ix ix_tup (pv 0) pe_int (fun _ _ => rfl)) (pe_ix ix_tup (pv 1) pe_int (fun _ _ => rfl)))) (pa_cons (pe_op op_sub (pe_op op_mulW (pe_ix ix_tup (pv 0) pe_int (fun _ _ => rfl)) (pe_ix ix_tup (pv 1) pe_int (fun _ _ => rfl))) (pe_op op_mulW (pe_ix ix_tup (pv 0) pe_int (fun _ _ => rfl)) (pe_ix ix_tup (pv 1) pe_int (fun _ _ => rfl)))) (pa_cons (pe_op op_sub (pe_op op_mulW (pe_ix ix_tup (pv 0) pe_int (fun _ _ => rfl)) (pe_ix ix_tup (pv 1) pe_int (fun _ _ => rfl))) (pe_op op_mulW (pe_ix ix_tup (pv 0) pe_int (fun _ _ => rfl)) (pe_ix ix_tup (pv 1) pe_int (fun _ _ => rfl)))) pa_nil))))), ?_⟩
    refine ret_h (vh_tup (va_cons (VI.sub (VI.mul (vy rfl ha bp) (vw rfl hb bq)) (VI.mul (vw rfl ha bp) (vy rfl hb bq))).v
      (va_cons (VI.sub (VI.mul (vw rfl ha bp) (vx rfl hb bq)) (VI.mul (vx rfl ha bp) (vw rfl hb bq))).v
      (va_cons (VI.sub (VI.mul (vx rfl ha bp) (vy rfl hb bq)) (VI.mul (vy rfl ha bp) (vx rfl hb bq))).v va_nil))) (by show 3 ≤ sizeLine; decide)
      (PV := fun v H' => ∃ l, v = .ref l ∧ H l = none ∧ H' = upd H l (.tup (cr p q).vs)) fun l hl => ⟨l, rfl, hl, rfl⟩) ?_
    rintro v H' ⟨l, rfl, hl, rfl⟩
    exact k l _ hl (same_new hl) upd_same
theorem scVal : FnScope ["ruler", "point"] ["ruler", "point"] (defScope sVal) := ⟨rfl, rfl, rfl, by decide +kernel, rfl, by decide +kernel, by decide +kernel⟩
theorem ok_val {f : Addr} {fd : FuncData} (F : Fun K "value_at" "value_at" sVal f fd) : FnOk P w K mg base CX0 1 f fd ["ruler", "point"] spVal := by
  refine F.ok scVal (fun vs H Q E h => ?_) (fun cdv A outer s H vs Q E hr h => ?_)
  · obtain ⟨a, b, p, q, rfl, _⟩ := h
    rfl
  · obtain ⟨a, b, p, q, rfl, ha, hb, bp, bq, k⟩ := h
    refine ⟨_, pss_one (ps_ret (pe_op op_add (pe_op op_add (pe_op op_mulW (pe_ix ix_tup (pv 0) pe_int (fun _ _ => rfl)) (pe_ix ix_tup (pv 1) pe_int (fun _ _ => rfl))) (pe_op op_mulW (pe_ix ix_tup (pv 0) pe_int (fun _ _ => rfl)) (pe_ix ix_tup (pv 1) pe_int (fun _ _ => rfl)))) (pe_op op_mulW (pe_ix ix_tup (pv 0) pe_int (fun _ _ => rfl)) (pe_ix ix_tup (pv 1) pe_int (fun _ _ => rfl))))), ?_⟩
    exact st_ret (VI.add (VI.add (VI.mul (vx rfl ha bp) (vx rfl hb bq)) (VI.mul (vy rfl ha bp) (vy rfl hb bq))) ((VI.mul (vw rfl ha bp) (vw rfl hb bq)).le (Nat.le_succ _))).v k
theorem scLine : FnScope ["one", "two", "a", "b", "c", "shared"] ["one", "two"] (defScope sLine) := ⟨rfl, rfl, rfl, by decide +kernel, rfl, by decide +kernel, by decide +kernel⟩
theorem ok_line {f : Addr} {fd : FuncData} (F : Fun K "line_through" "line_through" sLine f fd) (T : TM mg) (CD : Cl P w K mg base 1 "crossed" spCrd) : FnOk P w K mg base CX0 2 f fd ["one", "two"] spLine := by
  refine F.ok scLine (fun vs H Q E h => ?_) (fun cdv A outer s H vs Q E hr h => ?_)
  · obtain ⟨a, b, p, q, rfl, _⟩ := h
    rfl
  · obtain ⟨a, b, p, q, rfl, ha, hb, bp, bq, nz, k⟩ := h
    refine ⟨_, (pss_cons (ps_asg (pe_cl CD hr (by decide) (by rfl) (pa_cons (pv 0) (pa_cons (pv 1) pa_nil))) (pg_tup (by rfl) (pgs_cons (pg_name (i := 2) scLine.nd rfl (.inl rfl)) (pgs_cons (pg_name (i := 3) scLine.nd rfl (.inl rfl)) (pgs_cons (pg_name (i := 4) scLine.nd rfl (.inl rfl)) pgs_nil)))))
      (pss_cons (ps_set (i := 5) scLine.nd rfl (Or.inl rfl) (pe_callBfun cr_gcd3 (by rfl) T.gcd (pa_cons (pv 2) (pa_cons (pv 3) (pa_cons (pv 4) pa_nil)))))
      (pss_one (ps_ret (pe_tup (pa_cons (pe_op op_dv (pv 2) (pv 5)) (pa_cons (pe_op op_dv (pv 3) (pv 5)) (pa_cons (pe_op op_dv (pv 4) (pv 5)) pa_nil)))))))), ?_⟩
    refine st_seq (st_unpH3 (m := .int (cr p q).x) (n := .int (cr p q).y) (o := .int (cr p q).w) (vh_call (va_cons (val_var rfl) (va_cons (val_var rfl) va_nil)) fun Q q' => ⟨_, _, _, _, rfl, ha, hb, bp, bq, fun l H' h1 h2 h3 => q' _ _ ⟨l, rfl, h1, h2, h3⟩⟩) fun l0 H1 f1 e1 => ?_)
    refine st_seq (st_set (val_cb (va_cons (val_var rfl) (va_cons (val_var rfl) (va_cons (val_var rfl) va_nil))) fun Q q => ⟨_, _, _, rfl, q⟩) ?_)
    have b2 := B3.cr bp bq
    have g0 : gc (cr p q).x (cr p q).y (cr p q).w ≠ 0 := by
      have := gc_pos' nz
      omega
    have gl : (gc (cr p q).x (cr p q).y (cr p q).w).natAbs.log2 < 9000 := (B3.of_gc nz b2.x b2.y b2.w).log (by decide)
    refine ret_h (vh_tup (va_cons (val_dv (val_var rfl) (val_var rfl) g0 gl) (va_cons (val_dv (val_var rfl) (val_var rfl) g0 gl) (va_cons (val_dv (val_var rfl) (val_var rfl) g0 gl) va_nil))) (by show 3 ≤ sizeLine; decide)
      (PV := fun v H' => ∃ l, v = .ref l ∧ H1 l = none ∧ H' = upd H1 l (.tup (lineOf p q).vs)) fun l hl => ⟨l, rfl, hl, ?_⟩) ?_
    · unfold lineOf
      rw [low_fd]
      rfl
    · rintro v H' ⟨l, rfl, hl, rfl⟩
      exact k l _ (e1.free hl) (e1.trans (same_new hl)) upd_same
end
end Q
set_option Elab.async false
set_option linter.all false
set_option maxRecDepth 100000
set_option maxHeartbeats 2000000
namespace Q
open PySem L2 PySem.Spec PyProof.Rows PySem.Calls
open PM
theorem scal_int {i j : Int} : scal (.int i) (.int j) = true := rfl
section
variable {P : Program} {w : World} {K : PySem.W.Frag} {mg : Str → Option Value} {base : Heap}
theorem scCross : FnScope ["ruler", "other", "w", "x", "y"] ["ruler", "other"] (defScope sCross) := ⟨rfl, rfl, rfl, by decide +kernel, rfl, by decide +kernel, by decide +kernel⟩
theorem ok_cross {f : Addr} {fd : FuncData} (F : Fun K "cross_point" "cross_point" sCross f fd) (CL : Cl P w K mg base 1 "lowest_point" spLow) : FnOk P w K mg base CX0 2 f fd ["ruler", "other"] spCross := by
  refine F.ok scCross (fun vs H Q E h => ?_) (fun cdv A outer s H vs Q E hr h => ?_)
  · obtain ⟨a, b, p, q, rfl, _⟩ := h
    rfl
  · obtain ⟨a, b, p, q, rfl, ha, hb, bp, bq, k⟩ := h
    refine ⟨_, (pss_cons (ps_set (i := 2) scCross.nd rfl (Or.inl rfl) (pe_op op_sub (pe_op op_mulW (pe_ix ix_tup (pv 0) pe_int (fun _ _ => rfl)) (pe_ix ix_tup (pv 1) pe_int (fun _ _ => rfl))) (pe_op op_mulW (pe_ix ix_tup (pv 0) pe_int (fun _ _ => rfl)) (pe_ix ix_tup (pv 1) pe_int (fun _ _ => rfl)))))
      (pss_cons (ps_if (pt_cmpR op_eq (pv 2) pe_int (nomark _)) (pss_one (ps_ret pe_non)) pss_nil)
      (pss_cons (ps_set (i := 3) scCross.nd rfl (Or.inl rfl) (pe_op op_sub (pe_op op_mulW (pe_ix ix_tup (pv 0) pe_int (fun _ _ => rfl)) (pe_ix ix_tup (pv 1) pe_int (fun _ _ => rfl))) (pe_op op_mulW (pe_ix ix_tup (pv 0) pe_int (fun _ _ => rfl)) (pe_ix ix_tup (pv 1) pe_int (fun _ _ => rfl)))))
      (pss_cons (ps_set (i := 4) scCross.nd rfl (Or.inl rfl) (pe_op op_sub (pe_op op_mulW (pe_ix ix_tup (pv 0) pe_int (fun _ _ => rfl)) (pe_ix ix_tup (pv 1) pe_int (fun _ _ => rfl))) (pe_op op_mulW (pe_ix ix_tup (pv 0) pe_int (fun _ _ => rfl)) (pe_ix ix_tup (pv 1) pe_int (fun _ _ => rfl)))))
      (pss_one (ps_ret (pe_cl CL hr (Nat.le_refl _) (by rfl) (pa_cons (pv 3) (pa_cons (pv 4) (pa_cons (pv 2) pa_nil)))))))))), ?_⟩
    have b2 := B3.cr bp bq
    refine st_seq (st_set (VI.sub (VI.mul (vx rfl ha bp) (vy rfl hb bq)) (VI.mul (vy rfl ha bp) (vx rfl hb bq))).v ?_)
    rcases k with ⟨e, k⟩ | ⟨e, k⟩
    · refine st_seq (st_yes (ans_eq (val_var rfl) val_c scal_int (b := true) ?_) ?_)
      · rw [show (p.x * q.y - p.y * q.x) = 0 from e]
        rfl
      · exact k
    · refine st_seq (st_no (ans_eq (val_var rfl) val_c scal_int (b := false) ?_) ?_)
      · refine decide_eq_false fun h => e ?_
        injection h
      refine st_next ?_
      refine st_seq (st_set (VI.sub (VI.mul (vy rfl ha bp) (vw rfl hb bq)) (VI.mul (vw rfl ha bp) (vy rfl hb bq))).v ?_)
      refine st_seq (st_set (VI.sub (VI.mul (vw rfl ha bp) (vx rfl hb bq)) (VI.mul (vx rfl ha bp) (vw rfl hb bq))).v ?_)
      refine ret_h (vh_call (va_cons (val_var rfl) (va_cons (val_var rfl) (va_cons (val_var rfl) va_nil))) (PV := fun v H' => ∃ l, v = .ref l ∧ H l = none ∧ Same H H' ∧ H' l = some (.tup (lowS (cr p q).x (cr p q).y (cr p q).w).vs)) fun Q q => ?_) ?_
      · exact ⟨_, _, _, rfl, e, b2.w.le (by decide), fun l H' h1 h2 h3 => q _ _ ⟨l, rfl, h1, h2, h3⟩⟩
      · rintro v H' ⟨l, rfl, h1, h2, h3⟩
        exact k l H' h1 h2 h3
theorem scTurn : FnScope ["one", "two", "three"] ["one", "two", "three"] (defScope sTurn) := ⟨rfl, rfl, rfl, by decide +kernel, rfl, by decide +kernel, by decide +kernel⟩
theorem ok_turn {f : Addr} {fd : FuncData} (F : Fun K "turn" "turn" sTurn f fd) (CS : Cl P w K mg base 1 "sign_of" spSign) (CV : Cl P w K mg base 1 "value_at" spVal) (CD : Cl P w K mg base 1 "crossed" spCrd) : FnOk P w K mg base CX0 2 f fd ["one", "two", "three"] spTurn := by
  refine F.ok scTurn (fun vs H Q E h => ?_) (fun cdv A outer s H vs Q E hr h => ?_)
  · obtain ⟨a, b, c, p, q, r, rfl, _⟩ := h
    rfl
  · obtain ⟨a, b, c, p, q, r, rfl, ha, hb, hc, bp, bq, br, k⟩ := h
    refine ⟨_, pss_one (ps_ret (pe_cl CS hr (Nat.le_refl _) (by rfl) (pa_cons (pe_cl CV hr (Nat.le_refl _) (by rfl) (pa_cons (pe_cl CD hr (Nat.le_refl _) (by rfl) (pa_cons (pv 0) (pa_cons (pv 1) pa_nil))) (pa_cons (pv 2) pa_nil))) pa_nil))), ?_⟩
    have b2 := B3.cr bp bq
    refine ⟨_, rfl, _, rfl, a, b, p, q, rfl, ha, hb, bp, bq, fun l H1 f1 e1 t1 => ?_⟩
    refine ⟨_, rfl, l, c, cr p q, r, rfl, t1, e1 _ _ hc, b2, br, ?_⟩
    exact ⟨_, rfl, k H1 e1⟩
theorem scWay : FnScope ["start", "end"] ["start", "end"] (defScope sWay) := ⟨rfl, rfl, rfl, by decide +kernel, rfl, by decide +kernel, by decide +kernel⟩
theorem ok_way {f : Addr} {fd : FuncData} (F : Fun K "way" "way" sWay f fd) : FnOk P w K mg base CX0 1 f fd ["start", "end"] spWay := by
  refine F.ok scWay (fun vs H Q E h => ?_) (fun cdv A outer s H vs Q E hr h => ?_)
  · obtain ⟨a, b, p, q, rfl, _⟩ := h
    rfl
  · obtain ⟨a, b, p, q, rfl, ha, hb, bp, bq, k⟩ := h
    refine ⟨_, pss_one (ps_ret (pe_tup (pa_cons (pe_op op_sub (pe_op op_mulW (pe_ix ix_tup (pv 1) pe_int (fun _ _ => rfl)) (pe_ix ix_tup (pv 0) pe_int (fun _ _ => rfl))) (pe_op op_mulW (pe_ix ix_tup (pv 0) pe_int (fun _ _ => rfl)) (pe_ix ix_tup (pv 1) pe_int (fun _ _ => rfl)))) (pa_cons (pe_op op_sub (pe_op op_mulW (pe_ix ix_tup (pv 1) pe_int (fun _ _ => rfl)) (pe_ix ix_tup (pv 0) pe_int (fun _ _ => rfl))) (pe_op op_mulW (pe_ix ix_tup (pv 0) pe_int (fun _ _ => rfl)) (pe_ix ix_tup (pv 1) pe_int (fun _ _ => rfl)))) pa_nil)))), ?_⟩
    refine ret_h (vh_tup (va_cons (VI.sub (VI.mul (vx rfl hb bq) (vw rfl ha bp)) (VI.mul (vx rfl ha bp) (vw rfl hb bq))).v (va_cons (VI.sub (VI.mul (vy rfl hb bq) (vw rfl ha bp)) (VI.mul (vy rfl ha bp) (vw rfl hb bq))).v va_nil)) (by show 2 ≤ sizeLine; decide)
      (PV := fun v H' => ∃ l, v = .ref l ∧ H l = none ∧ H' = upd H l (.tup [.int (dx p q), .int (dy p q)])) fun l hl => ⟨l, rfl, hl, rfl⟩) ?_
    rintro v H' ⟨l, rfl, hl, rfl⟩
    exact k l _ hl (same_new hl) upd_same
theorem scHalf : FnScope ["one", "two", "x", "y"] ["one", "two"] (defScope sHalf) := ⟨rfl, rfl, rfl, by decide +kernel, rfl, by decide +kernel, by decide +kernel⟩
theorem bd2 : Bd 2 2 := ⟨by decide⟩
theorem ok_half {f : Addr} {fd : FuncData} (F : Fun K "half_way" "half_way" sHalf f fd) (CL : Cl P w K mg base 1 "lowest_point" spLow) : FnOk P w K mg base CX0 2 f fd ["one", "two"] spHalf := by
  refine F.ok scHalf (fun vs H Q E h => ?_) (fun cdv A outer s H vs Q E hr h => ?_)
  · obtain ⟨a, b, p, q, rfl, _⟩ := h
    rfl
  · obtain ⟨a, b, p, q, rfl, ha, hb, bp, bq, hp, hq, k⟩ := h
    refine ⟨_, (pss_cons (ps_set (i := 2) scHalf.nd rfl (Or.inl rfl) (pe_op op_add (pe_op op_mulW (pe_ix ix_tup (pv 0) pe_int (fun _ _ => rfl)) (pe_ix ix_tup (pv 1) pe_int (fun _ _ => rfl))) (pe_op op_mulW (pe_ix ix_tup (pv 1) pe_int (fun _ _ => rfl)) (pe_ix ix_tup (pv 0) pe_int (fun _ _ => rfl)))))
      (pss_cons (ps_set (i := 3) scHalf.nd rfl (Or.inl rfl) (pe_op op_add (pe_op op_mulW (pe_ix ix_tup (pv 0) pe_int (fun _ _ => rfl)) (pe_ix ix_tup (pv 1) pe_int (fun _ _ => rfl))) (pe_op op_mulW (pe_ix ix_tup (pv 1) pe_int (fun _ _ => rfl)) (pe_ix ix_tup (pv 0) pe_int (fun _ _ => rfl)))))
      (pss_one (ps_ret (pe_cl CL hr (Nat.le_refl _) (by rfl) (pa_cons (pv 2) (pa_cons (pv 3) (pa_cons (pe_op op_mulW (pe_op op_mulW pe_int (pe_ix ix_tup (pv 0) pe_int (fun _ _ => rfl))) (pe_ix ix_tup (pv 1) pe_int (fun _ _ => rfl))) pa_nil)))))))), ?_⟩
    refine st_seq (st_set (VI.add (VI.mul (vx rfl ha bp) (vw rfl hb bq)) (VI.mul (vx rfl hb bq) (vw rfl ha bp))).v ?_)
    refine st_seq (st_set (VI.add (VI.mul (vy rfl ha bp) (vw rfl hb bq)) (VI.mul (vy rfl hb bq) (vw rfl ha bp))).v ?_)
    have z := (VI.mul (VI.mul (σ := (((L2.start ["one", "two", "x", "y"] [.ref a, .ref b]).set 2 (some (.int (p.x * q.w + q.x * p.w)))).set 3 (some (.int (p.y * q.w + q.y * p.w))))) (H := H) (⟨val_c, bd2⟩ : VI 2 (tC (.int 2)) _ _ 2) (vw (i := 0) (K := K) rfl ha bp)) (vw (i := 1) (K := K) rfl hb bq))
    refine ret_h (vh_call (va_cons (val_var rfl) (va_cons (val_var rfl) (va_cons z.v va_nil))) (PV := fun v H' => ∃ l, v = .ref l ∧ H l = none ∧ Same H H' ∧ H' l = some (.tup (half p q).vs)) fun Q q' => ?_) ?_
    · exact ⟨_, _, _, rfl, Int.mul_ne_zero (Int.mul_ne_zero (by decide) hp) hq, z.b.le (by decide), fun l H' h1 h2 h3 => q' _ _ ⟨l, rfl, h1, h2, h3⟩⟩
    · rintro v H' ⟨l, rfl, h1, h2, h3⟩
      exact k l H' h1 h2 h3
end
end Q
set_option Elab.async false
set_option linter.all false
set_option maxRecDepth 100000
set_option maxHeartbeats 2000000
namespace Q
open PySem L2 PySem.Spec PyProof.Rows PySem.Calls
open PM
abbrev sIsInt : Stmt := top 18
abbrev sLowOf : Stmt := top 19
abbrev sLow2 : Stmt := top 20
abbrev sSquare : Stmt := top 31
section
variable {K : PySem.W.Frag} {σ : L2.St} {H : Hp} {ta tb : TE} {i j : Nat} {D : Ends} {m n : V} {c d : Bool}
theorem st_unp2 (h : ValH ta σ H (fun v H' => ∃ l, v = .ref l ∧ Same H H' ∧ H' l = some (.tup [m, n]))) (q : ∀ H', Same H H' → D.nx ((σ.set i (some m)).set j (some n)) H') :
    tAsg ta (gTup K 2 (gCons (gName i) (gCons (gName j) gNil))) D σ H := by
  refine h _ ?_
  rintro v H' ⟨l, rfl, e, hl⟩
  exact ⟨l, _, rfl, SqT.of hl, rfl, _, _, rfl, _, _, rfl, rfl, q H' e⟩
theorem ansH_cmp {r : R2} {PV : V → Hp → Prop} {P : Hp → Prop} {b : Bool} {y : V} (ha : ValH ta σ H PV) (hr : ∀ x H', PV x H' → Val tb σ H' y ∧ P H' ∧ ∀ Q : VK, Q (.bl b) H' → r x y H' Q) : AnsH (tTest (tOp r ta tb)) σ H b P := by
  intro Q q
  refine ha _ fun x H' hx => ?_
  obtain ⟨h1, h2, h3⟩ := hr x H' hx
  refine h1 _ ?_
  exact h3 _ ⟨b, rfl, q _ h2⟩
theorem val_and (h1 : Val ta σ H (.bl c)) (h2 : c = true → Val tb σ H (.bl d)) : Val (tAndV ta tb) σ H (.bl (c && d)) := by
  intro Q q
  refine h1 _ ⟨c, rfl, ?_⟩
  cases c with
  | true => exact h2 rfl _ q
  | false => exact q
theorem val_not (h1 : Val ta σ H (.bl c)) : Val (tNotV ta) σ H (.bl (!c)) := by
  intro Q q
  exact h1 _ ⟨c, rfl, q⟩
theorem ans_i {g : Int → Int → V} {i j : Int} {b : Bool} (ha : Val ta σ H (.int i)) (hb : Val tb σ H (.int j)) (hg : g i j = .bl b) : Ans (tTest (tOp (rI0 g) ta tb)) σ H b :=
  ans_cmp ha hb fun Q q => ⟨_, _, rfl, rfl, by rw [hg]; exact q⟩
theorem Bd.pw {k : Nat} {i : Int} (b : Bd k i) (h : k + 1 ≤ 9000) : CPowW i 2 := by
  refine ⟨by decide, ?_⟩
  have x := b.log h
  have e : Builtin.Int.intBits i ≤ i.natAbs.log2 + 1 := by
    unfold Builtin.Int.intBits
    split <;> omega
  have e2 : (2 : Int) ^ 27 = 134217728 := by decide
  rw [e2]
  omega
theorem Bd.sq {k : Nat} {i : Int} (b : Bd k i) : Bd (k + k) (i ^ 2) := by
  have e : i ^ 2 = i * i := by rw [Int.pow_succ, Int.pow_succ, Int.pow_zero, Int.one_mul]
  rw [e]
  exact b.mul b
theorem sq_pos {i : Int} (h : i ≠ 0) : 0 < i ^ 2 := by
  have e : i ^ 2 = i * i := by rw [Int.pow_succ, Int.pow_succ, Int.pow_zero, Int.one_mul]
  rw [e]
  rcases Int.lt_or_gt_of_ne h with c | c
  · exact Int.mul_pos_of_neg_of_neg c c
  · exact Int.mul_pos c c
theorem val_pair (h1 : Val ta σ H m) (h2 : Val tb σ H n) : ValA (tCons ta (tCons tb tNil)) σ H [m, n] := va_cons h1 (va_cons h2 va_nil)
end
structure TI (mg : Str → Option Value) : Prop where
  isi : mg "isinstance" = none
  int : mg "int" = none
  bool : mg "bool" = none
  tuple : mg "tuple" = none
  len : mg "len" = none
/-- a plain value that is asked whether it is an integer -/
inductive Sc : V → Bool → Prop where
  | int (i : Int) : Sc (.int i) true
  | bl (b : Bool) : Sc (.bl b) false
  | non : Sc .non false
def spIsInt : Sp := fun vs H Q _ => ∃ (v : V) (b : Bool), vs = [v] ∧ Sc v b ∧ Q (.bl b) H
def low2 (t b : Int) : Int × Int := (t / ((Nat.gcd t.natAbs b.natAbs : Nat) : Int), b / ((Nat.gcd t.natAbs b.natAbs : Nat) : Int))
def spLow2 : Sp := fun vs H Q _ => ∃ t b : Int, vs = [.int t, .int b] ∧ 0 < b ∧ Bd 6000 b ∧ ∀ l H', H l = none → Same H H' → H' l = some (.tup [.int (low2 t b).1, .int (low2 t b).2]) → Q (.ref l) H'
def sq (p q : P3) : Int × Int := low2 (dx p q * dx p q + dy p q * dy p q) ((p.w * q.w) ^ 2)
def spSquare : Sp := fun vs H Q _ => ∃ (a b : Addr) (p q : P3), vs = [.ref a, .ref b] ∧ H a = some (.tup p.vs) ∧ H b = some (.tup q.vs) ∧ B3 1000 p ∧ B3 1000 q ∧ p.w ≠ 0 ∧ q.w ≠ 0 ∧
  ∀ l H', H l = none → Same H H' → H' l = some (.tup [.int (sq p q).1, .int (sq p q).2]) → Q (.ref l) H'
theorem B3.dx {p q : P3} (b : B3 1000 p) (c : B3 1000 q) : Bd 2001 (PM.dx p q) := (c.x.mul b.w).sub (b.x.mul c.w)
theorem B3.dy {p q : P3} (b : B3 1000 p) (c : B3 1000 q) : Bd 2001 (PM.dy p q) := (c.y.mul b.w).sub (b.y.mul c.w)
section
variable {P : Program} {w : World} {K : PySem.W.Frag} {mg : Str → Option Value} {base : Heap}
theorem scLies : FnScope ["point", "one", "two", "dx", "dy", "other_dx", "other_dy"] ["point", "one", "two"] (defScope sLies) := ⟨rfl, rfl, rfl, by decide +kernel, rfl, by decide +kernel, by decide +kernel⟩
theorem ok_lies {f : Addr} {fd : FuncData} (F : Fun K "lies_between" "lies_between" sLies f fd) (CT : Cl P w K mg base 2 "turn" spTurn) (CW : Cl P w K mg base 1 "way" spWay) : FnOk P w K mg base CX0 3 f fd ["point", "one", "two"] spLies := by
  refine F.ok scLies (fun vs H Q E h => ?_) (fun cdv A outer s H vs Q E hr h => ?_)
  · obtain ⟨a, b, c, p, q, r, rfl, _⟩ := h
    rfl
  · obtain ⟨a, b, c, p, q, r, rfl, ha, hb, hc, bp, bq, br, k⟩ := h
    refine ⟨_, (pss_cons (ps_if (pt_cmpR op_ne (pe_cl CT hr (Nat.le_refl _) (by rfl) (pa_cons (pv 1) (pa_cons (pv 2) (pa_cons (pv 0) pa_nil)))) pe_int (nomark _)) (pss_one (ps_ret pe_bl)) pss_nil)
      (pss_cons (ps_asg (pe_cl CW hr (by decide) (by rfl) (pa_cons (pv 0) (pa_cons (pv 1) pa_nil))) (pg_tup (by rfl) (pgs_cons (pg_name (i := 3) scLies.nd rfl (.inl rfl)) (pgs_cons (pg_name (i := 4) scLies.nd rfl (.inl rfl)) pgs_nil))))
      (pss_cons (ps_asg (pe_cl CW hr (by decide) (by rfl) (pa_cons (pv 0) (pa_cons (pv 2) pa_nil))) (pg_tup (by rfl) (pgs_cons (pg_name (i := 5) scLies.nd rfl (.inl rfl)) (pgs_cons (pg_name (i := 6) scLies.nd rfl (.inl rfl)) pgs_nil))))
      (pss_one (ps_ret (pe_cmpR op_le (pe_op op_add (pe_op op_mulW (pv 3) (pv 5)) (pe_op op_mulW (pv 4) (pv 6))) pe_int (nomark _))))))), ?_⟩
    have vt : ValH (tCall spTurn [] E0 (tCons (tVar 1) (tCons (tVar 2) (tCons (tVar 0) tNil)))) (L2.start ["point", "one", "two", "dx", "dy", "other_dx", "other_dy"] [.ref a, .ref b, .ref c]) H (fun v H' => v = .int (sgn (det q r p)) ∧ Same H H') :=
      vh_call (va_cons (val_var rfl) (va_cons (val_var rfl) (va_cons (val_var rfl) va_nil))) fun Q q' => ⟨_, _, _, _, _, _, rfl, hb, hc, ha, bq, br, bp, fun H' e => q' _ _ ⟨rfl, e⟩⟩
    have at_ : ∀ t : Bool, (!decide ((.int (sgn (det q r p)) : V) = .int 0)) = t → AnsH (tTest (tOp rNe (tCall spTurn [] E0 (tCons (tVar 1) (tCons (tVar 2) (tCons (tVar 0) tNil)))) (tC (.int 0)))) (L2.start ["point", "one", "two", "dx", "dy", "other_dx", "other_dy"] [.ref a, .ref b, .ref c]) H t (Same H) := fun t ht =>
      ansH_cmp vt fun x H' ⟨e1, e2⟩ => ⟨val_c, e2, fun Q q' => by subst e1; exact ⟨scal_int, by rw [ht]; exact q'⟩⟩
    by_cases e : sgn (det q r p) = 0
    · refine st_seq (st_noH (at_ false ?_) fun H0 e0 => st_next ?_)
      · rw [e]
        rfl
      refine st_seq (st_unp2 (vh_call (val_pair (val_var rfl) (val_var rfl)) fun Q q' => ⟨_, _, _, _, rfl, e0 _ _ ha, e0 _ _ hb, bp, bq, fun l H' _ h2 h3 => q' _ _ ⟨l, rfl, h2, h3⟩⟩) fun H1 e1 => ?_)
      have e1 := e0.trans e1
      refine st_seq (st_unp2 (vh_call (val_pair (val_var rfl) (val_var rfl)) fun Q q' => ⟨_, _, _, _, rfl, e1 _ _ ha, e1 _ _ hc, bp, br, fun l H' _ h2 h3 => q' _ _ ⟨l, rfl, h2, h3⟩⟩) fun H2 e2 => ?_)
      refine st_ret (val_op (VI.add (VI.mul (vi_var rfl (bp.dx bq)) (vi_var rfl (bp.dx br))) (VI.mul (vi_var rfl (bp.dy bq)) (vi_var rfl (bp.dy br)))).v val_c fun Q q' => ⟨_, _, rfl, rfl, q'⟩) ?_
      have z := k H2 (e1.trans e2)
      unfold between at z
      rw [if_neg (by simp [e])] at z
      exact z
    · refine st_seq (st_yesH (at_ true ?_) fun H0 e0 => st_ret val_c ?_)
      · rw [decide_eq_false fun h => e (by injection h)]
        rfl
      have z := k H0 e0
      unfold between at z
      rw [if_pos e] at z
      exact z
theorem scIsInt : FnScope ["value"] ["value"] (defScope sIsInt) := ⟨rfl, rfl, rfl, by decide +kernel, rfl, by decide +kernel, by decide +kernel⟩
theorem val_isi {σ : L2.St} {H : Hp} {ta : TE} {v : V} {T U : String} {b : Bool} (h : Val ta σ H v) (t : TyX K H v (.type U)) (e : PySem.W.kitOne K (.type U) (.type T) = some b) : Val (tCB (rIsi K) (tCons ta (tCons (tC (.ty T)) tNil))) σ H (.bl b) :=
  val_cb (val_pair h val_c) fun Q q => ⟨_, _, _, _, _, rfl, .ty _, t, e, q⟩
theorem ok_isint {f : Addr} {fd : FuncData} (F : Fun K "is_integer" "is_integer" sIsInt f fd) (T : TI mg) : FnOk P w K mg base CX0 1 f fd ["value"] spIsInt := by
  refine F.ok scIsInt (fun vs H Q E h => ?_) (fun cdv A outer s H vs Q E hr h => ?_)
  · obtain ⟨v, b, rfl, _⟩ := h
    rfl
  · obtain ⟨v, b, rfl, hv, k⟩ := h
    refine ⟨_, pss_one (ps_ret (pe_and (pe_callB call_isi (by rfl) T.isi PyProof.Rows.boot_isinstance (pa_cons (pv 0) (pa_cons (pe_bltn (v := .ty "int") (by rfl) T.int (by decide +kernel) rfl) pa_nil)))
      (pe_one (pe_not (pe_callB call_isi (by rfl) T.isi PyProof.Rows.boot_isinstance (pa_cons (pv 0) (pa_cons (pe_bltn (v := .ty "bool") (by rfl) T.bool (by decide +kernel) rfl) pa_nil))))))), ?_⟩
    cases hv with
    | int i => exact st_ret (val_and (val_isi (b := true) (val_var rfl) (.base (.int i)) (kit_ty (by decide +kernel))) fun _ => val_not (val_isi (b := false) (val_var rfl) (.base (.int i)) (kit_ty (by decide +kernel)))) k
    | bl c => exact st_ret (val_and (val_isi (b := true) (val_var rfl) (.base (.bl c)) (kit_ty (by decide +kernel))) fun _ => val_not (val_isi (b := true) (val_var rfl) (.base (.bl c)) (kit_ty (by decide +kernel)))) k
    | non => exact st_ret (val_and (c := false) (d := false) (val_isi (b := false) (val_var rfl) (.base .non) (kit_ty (by decide +kernel))) fun h => absurd h (by decide)) k
theorem scLow2 : FnScope ["top", "bottom", "shared"] ["top", "bottom"] (defScope sLow2) := ⟨rfl, rfl, rfl, by decide +kernel, rfl, by decide +kernel, by decide +kernel⟩
theorem ok_low2 {f : Addr} {fd : FuncData} (F : Fun K "_lowest" "_lowest" sLow2 f fd) (T : TM mg) : FnOk P w K mg base CX0 1 f fd ["top", "bottom"] spLow2 := by
  refine F.ok scLow2 (fun vs H Q E h => ?_) (fun cdv A outer s H vs Q E hr h => ?_)
  · obtain ⟨t, b, rfl, _⟩ := h
    rfl
  · obtain ⟨t, b, rfl, hb, bb, k⟩ := h
    refine ⟨_, (pss_cons (ps_if (pt_cmpR op_lt (pv 1) pe_int (nomark _)) pss_never pss_nil)
      (pss_cons (ps_set (i := 2) scLow2.nd rfl (Or.inl rfl) (pe_callBfun cr_gcd (by rfl) T.gcd (pa_cons (pv 0) (pa_cons (pv 1) pa_nil))))
      (pss_one (ps_ret (pe_tup (pa_cons (pe_op op_dv (pv 0) (pv 2)) (pa_cons (pe_op op_dv (pv 1) (pv 2)) pa_nil))))))), ?_⟩
    refine st_seq (st_no (ans_i (b := false) (val_var rfl) val_c (congrArg V.bl (decide_eq_false (show ¬ b < 0 by omega)))) (st_next ?_))
    refine st_seq (st_set (val_cb (val_pair (val_var rfl) (val_var rfl)) fun Q q => ⟨_, _, rfl, q⟩) ?_)
    have g0 : ((Nat.gcd t.natAbs b.natAbs : Nat) : Int) ≠ 0 := by
      have : 0 < Nat.gcd t.natAbs b.natAbs := Nat.gcd_pos_of_pos_right _ (by omega)
      omega
    have gl : ((Nat.gcd t.natAbs b.natAbs : Nat) : Int).natAbs.log2 < 9000 := (bb.of_le (by
      rw [Int.natAbs_natCast]
      exact Nat.le_of_dvd (by omega) (Nat.gcd_dvd_right _ _))).log (by decide)
    refine ret_h (vh_tup (val_pair (val_dv (val_var rfl) (val_var rfl) g0 gl) (val_dv (val_var rfl) (val_var rfl) g0 gl)) (by show 2 ≤ sizeLine; decide)
      (PV := fun v H' => ∃ l, v = .ref l ∧ H l = none ∧ H' = upd H l (.tup [.int (low2 t b).1, .int (low2 t b).2])) fun l hl => ⟨l, rfl, hl, ?_⟩) ?_
    · unfold low2
      rw [Int.fdiv_eq_ediv_of_dvd (PySem.W.mg_dvd_left t b), Int.fdiv_eq_ediv_of_dvd (PySem.W.mg_dvd_right t b)]
    · rintro v H' ⟨l, rfl, hl, rfl⟩
      exact k l _ hl (same_new hl) upd_same
theorem scLowOf : FnScope ["top", "bottom"] ["top", "bottom"] (defScope sLowOf) := ⟨rfl, rfl, rfl, by decide +kernel, rfl, by decide +kernel, by decide +kernel⟩
theorem ok_lowof {f : Addr} {fd : FuncData} (F : Fun K "lowest_of" "lowest_of" sLowOf f fd) (CI : Cl P w K mg base 1 "is_integer" spIsInt) (CL : Cl P w K mg base 1 "_lowest" spLow2) : FnOk P w K mg base CX0 2 f fd ["top", "bottom"] spLow2 := by
  refine F.ok scLowOf (fun vs H Q E h => ?_) (fun cdv A outer s H vs Q E hr h => ?_)
  · obtain ⟨t, b, rfl, _⟩ := h
    rfl
  · obtain ⟨t, b, rfl, hb, bb, k⟩ := h
    refine ⟨_, (pss_cons (ps_if (pt_not (pt_val (pe_cl CI hr (by decide) (by rfl) (pa_cons (pv 0) pa_nil)))) pss_never pss_nil)
      (pss_cons (ps_if (pw_or (pt_not (pt_val (pe_cl CI hr (by decide) (by rfl) (pa_cons (pv 1) pa_nil)))) (pw_or1 (pt_cmpR op_eq (pv 1) pe_int (nomark _)))).pt pss_never pss_nil)
      (pss_one (ps_ret (pe_cl CL hr (by decide) (by rfl) (pa_cons (pv 0) (pa_cons (pv 1) pa_nil))))))), ?_⟩
    refine st_seq (st_no (ans_not (b := true) (ans_val (val_call (va_cons (val_var rfl) va_nil) fun Q q => ⟨_, _, rfl, .int _, q⟩))) (st_next ?_))
    refine st_seq (st_no (ans_or (ans_not (b := true) (ans_val (val_call (va_cons (val_var rfl) va_nil) fun Q q => ⟨_, _, rfl, .int _, q⟩))) (ans_eq (b := false) (val_var rfl) val_c scal_int (decide_eq_false fun h => by
      injection h with h
      omega))) (st_next ?_))
    refine ret_h (vh_call (val_pair (val_var rfl) (val_var rfl)) (PV := fun v H' => ∃ l, v = .ref l ∧ H l = none ∧ Same H H' ∧ H' l = some (.tup [.int (low2 t b).1, .int (low2 t b).2])) fun Q q => ⟨_, _, rfl, hb, bb, fun l H' h1 h2 h3 => q _ _ ⟨l, rfl, h1, h2, h3⟩⟩) ?_
    rintro v H' ⟨l, rfl, h1, h2, h3⟩
    exact k l H' h1 h2 h3
theorem scSquare : FnScope ["one", "two", "dx", "dy"] ["one", "two"] (defScope sSquare) := ⟨rfl, rfl, rfl, by decide +kernel, rfl, by decide +kernel, by decide +kernel⟩
theorem ok_square {f : Addr} {fd : FuncData} (F : Fun K "_square" "_square" sSquare f fd) (CW : Cl P w K mg base 1 "way" spWay) (CL : Cl P w K mg base 2 "lowest_of" spLow2) : FnOk P w K mg base CX0 3 f fd ["one", "two"] spSquare := by
  refine F.ok scSquare (fun vs H Q E h => ?_) (fun cdv A outer s H vs Q E hr h => ?_)
  · obtain ⟨a, b, p, q, rfl, _⟩ := h
    rfl
  · obtain ⟨a, b, p, q, rfl, ha, hb, bp, bq, hp, hq, k⟩ := h
    refine ⟨_, (pss_cons (ps_asg (pe_cl CW hr (by decide) (by rfl) (pa_cons (pv 0) (pa_cons (pv 1) pa_nil))) (pg_tup (by rfl) (pgs_cons (pg_name (i := 2) scSquare.nd rfl (.inl rfl)) (pgs_cons (pg_name (i := 3) scSquare.nd rfl (.inl rfl)) pgs_nil))))
      (pss_one (ps_ret (pe_cl CL hr (by decide) (by rfl) (pa_cons (pe_op op_add (pe_op op_mulW (pv 2) (pv 2)) (pe_op op_mulW (pv 3) (pv 3))) (pa_cons (pe_op op_powW (pe_op op_mulW (pe_ix ix_tup (pv 0) pe_int (fun _ _ => rfl)) (pe_ix ix_tup (pv 1) pe_int (fun _ _ => rfl))) pe_int) pa_nil)))))), ?_⟩
    refine st_seq (st_unp2 (vh_call (val_pair (val_var rfl) (val_var rfl)) fun Q q' => ⟨_, _, _, _, rfl, ha, hb, bp, bq, fun l H' _ h2 h3 => q' _ _ ⟨l, rfl, h2, h3⟩⟩) fun H1 e1 => ?_)
    have z := VI.mul (vw (i := 0) (K := K) (σ := (((L2.start ["one", "two", "dx", "dy"] [.ref a, .ref b]).set 2 (some (.int (dx p q)))).set 3 (some (.int (dy p q))))) rfl (e1 _ _ ha) bp) (vw (i := 1) (K := K) rfl (e1 _ _ hb) bq)
    have hw : p.w * q.w ≠ 0 := Int.mul_ne_zero hp hq
    refine ret_h (vh_call (val_pair (VI.add (VI.mul (vi_var rfl (bp.dx bq)) (vi_var rfl (bp.dx bq))) (VI.mul (vi_var rfl (bp.dy bq)) (vi_var rfl (bp.dy bq)))).v (val_op (z := .int ((p.w * q.w) ^ 2)) z.v val_c fun Q q' => ⟨_, _, rfl, rfl, z.b.pw (by decide), q'⟩))
      (PV := fun v H' => ∃ l, v = .ref l ∧ H l = none ∧ Same H H' ∧ H' l = some (.tup [.int (sq p q).1, .int (sq p q).2])) fun Q q' => ?_) ?_
    · refine ⟨_, _, rfl, ?_, ?_, fun l H' h1 h2 h3 => q' _ _ ⟨l, rfl, e1.free h1, e1.trans h2, h3⟩⟩
      · exact sq_pos hw
      · exact z.b.sq.le (by decide)
    · rintro v H' ⟨l, rfl, h1, h2, h3⟩
      exact k l H' h1 h2 h3
end
end Q
set_option Elab.async false
set_option linter.all false
set_option maxRecDepth 100000
set_option maxHeartbeats 2000000
namespace PM
/-- in lowest terms: a point as told -/
structure Pt (p : P3) : Prop where
  w : 1 ≤ p.w
  g : gc p.x p.y p.w = 1
end PM
namespace Q
open PySem L2 PySem.Spec PyProof.Rows PySem.Calls
open PM
abbrev sIsPt : Stmt := top 22
abbrev sChk : Stmt := top 24
section
variable {X : Cx} {CX : CXT} {k : Nat} {f : Addr} {sp : Sp} {E : XK} {x : Str} {e : Expr} {es : List Expr} {t : TA} {p pos : Pos}
/-- f(e, ..), f a def told by what it asks of the values written -/
theorem pe_callR (F : FnR X.prog X.w X.K X.mg X.base CX k f sp) (hr : Room k X.A) (hk : PySem.W.keepIn X.K (.ref f) = true) (hg : Gl X x) (hm : X.mg x = some (.ref f)) (hx : Passes CX X E) (ha : PA X (e :: es) t) (hd : (x == ("__debug__" : Str)) = false := by decide)
    (he : starEach (e :: es) X.env = (false, eval e X.env) :: starEach es X.env := by rfl) (hpl : (backTo pos (starEach es X.env)).any (·.1) = false := by rfl) :
    PE X (.Call (.Name x p) (e :: es) [] pos) (fun σ H Q => t σ H fun vs H1 => sp vs H1 Q E) := by
  refine ⟨fun pins s σ H Q I h => ?_⟩
  refine wpAny_Call_Name_kw (ld_glob I hg hm ?_ hd)
  refine PySem.W.callWith_K (h₀ := X.base) I.ok.mod.kin hk (thn (ha.run pos pins s σ H _ I h) fun us s1 ⟨vs, H1, I1, r, q⟩ => ⟨I1.kIn, ?_⟩) he hpl
  exact wpAny_call (run_fnR F hr hx I1 r q)
end
/-- what is asked whether it is a point -/
inductive Pv (H : Hp) : V → Bool → Prop where
  | int3 {a : Addr} {p : P3} (h : H a = some (.tup p.vs)) : Pv H (.ref a) (decide (1 ≤ p.w) && decide (gc p.x p.y p.w = 1))
  | odd3 {a : Addr} {u v w : V} {b c d : Bool} (h : H a = some (.tup [u, v, w])) (hu : Sc u b) (hv : Sc v c) (hw : Sc w d) (hn : (b && c && d) = false) : Pv H (.ref a) false
  | tup {a : Addr} {xs : List V} (h : H a = some (.tup xs)) (hl : xs.length ≠ 3) : Pv H (.ref a) false
  | lst {a : Addr} {xs : List V} (h : H a = some (.lst xs)) : Pv H (.ref a) false
  | non : Pv H .non false
theorem Pv.pt {H : Hp} {a : Addr} {p : P3} (h : H a = some (.tup p.vs)) (hp : Pt p) : Pv H (.ref a) true := by
  have z := Pv.int3 h
  rw [decide_eq_true hp.w, decide_eq_true hp.g] at z
  exact z
def spIsPt : Sp := fun vs H Q _ => ∃ (v : V) (b : Bool), vs = [v] ∧ Pv H v b ∧ Q (.bl b) H
def spChk : Sp := fun vs H Q _ => vs.length ≤ 9 ∧ (∀ v ∈ vs, Pv H v true) ∧ ∀ H', Same H H' → Q .non H'
section
variable {P : Program} {w : World} {K : PySem.W.Frag} {mg : Str → Option Value} {base : Heap}
theorem scIsPt : FnScope ["value", "x", "y", "w"] ["value"] (defScope sIsPt) := ⟨rfl, rfl, rfl, by decide +kernel, rfl, by decide +kernel, by decide +kernel⟩
theorem ok_ispt {f : Addr} {fd : FuncData} (F : Fun K "is_point" "is_point" sIsPt f fd) (T : TI mg) (M : TM mg) (CI : Cl P w K mg base 1 "is_integer" spIsInt) : FnOk P w K mg base CX0 2 f fd ["value"] spIsPt := by
  refine F.ok scIsPt (fun vs H Q E h => ?_) (fun cdv A outer s H vs Q E hr h => ?_)
  · obtain ⟨v, b, rfl, _⟩ := h
    rfl
  · obtain ⟨v, b, rfl, hv, k⟩ := h
    refine ⟨_, (pss_cons (ps_if (pw_or (pt_not (pt_val (pe_callB call_isi (by rfl) T.isi PyProof.Rows.boot_isinstance (pa_cons (pv 0) (pa_cons (pe_bltn (v := .ty "tuple") (by rfl) T.tuple (by decide +kernel) rfl) pa_nil)))))
        (pw_or1 (pt_cmpR op_ne (pe_callB call_len_seq (by rfl) T.len PySem.boot_len (pa_cons (pv 0) pa_nil)) pe_int (nomark _)))).pt (pss_one (ps_ret pe_bl)) pss_nil)
      (pss_cons (ps_asg (pv 0) (pg_tup (by rfl) (pgs_cons (pg_name (i := 1) scIsPt.nd rfl (.inl rfl)) (pgs_cons (pg_name (i := 2) scIsPt.nd rfl (.inl rfl)) (pgs_cons (pg_name (i := 3) scIsPt.nd rfl (.inl rfl)) pgs_nil)))))
      (pss_cons (ps_if (pw_or (pt_not (pt_val (pe_cl CI hr (by decide) (by rfl) (pa_cons (pv 1) pa_nil)))) (pw_or (pt_not (pt_val (pe_cl CI hr (by decide) (by rfl) (pa_cons (pv 2) pa_nil)))) (pw_or1 (pt_not (pt_val (pe_cl CI hr (by decide) (by rfl) (pa_cons (pv 3) pa_nil))))))).pt (pss_one (ps_ret pe_bl)) pss_nil)
      (pss_one (ps_ret (pe_and (pe_cmpR op_ge (pv 3) pe_int (nomark _)) (pe_one (pe_cmpR op_eq (pe_callBfun cr_gcd3 (by rfl) M.gcd (pa_cons (pv 1) (pa_cons (pv 2) (pa_cons (pv 3) pa_nil)))) pe_int (nomark _))))))))), ?_⟩
    have vi : ∀ {σ : L2.St} {i : Nat} {u : V} {b : Bool}, σ[i]? = some (some u) → Sc u b → Ans (tNot (tB (tCall spIsInt [] E0 (tCons (tVar i) tNil)))) σ H (!b) := fun hs hu =>
      ans_not (ans_val (val_call (va_cons (val_var hs) va_nil) fun Q q => ⟨_, _, rfl, hu, q⟩))
    have vl : ∀ {a : Addr} {xs : List V}, H a = some (.tup xs) → Val (tCB (fun xs H Q => ∃ p ys, xs = [.ref p] ∧ (SqL K H p ys ∨ SqT K H p ys) ∧ Q (.int ys.length) H) (tCons (tVar 0) tNil)) (L2.start ["value", "x", "y", "w"] [.ref a]) H (.int xs.length) := fun ha =>
      val_cb (va_cons (val_var rfl) va_nil) fun Q q => ⟨_, _, rfl, .inr (SqT.of ha), q⟩
    cases hv with
    | non => exact st_seq (st_yes (ans_or1 (ans_not (b := false) (ans_val (val_isi (val_var rfl) (.base .non) (kit_ty (by decide +kernel)))))) (st_ret val_c k))
    | lst ha => exact st_seq (st_yes (ans_or1 (ans_not (b := false) (ans_val (val_isi (val_var rfl) (.base (.lst ha)) (kit_ty (by decide +kernel)))))) (st_ret val_c k))
    | tup ha hl =>
      refine st_seq (st_yes (ans_or (ans_not (b := true) (ans_val (val_isi (val_var rfl) (.base (.tup ha)) (kit_ty (by decide +kernel))))) (ans_ne (b := true) (vl ha) val_c scal_int ?_)) (st_ret val_c k))
      rw [decide_eq_false fun h => hl (by
        injection h with h
        omega)]
      rfl
    | @odd3 a u v w b c d ha hu hv hw hn =>
      refine st_seq (st_no (ans_or (ans_not (b := true) (ans_val (val_isi (val_var rfl) (.base (.tup ha)) (kit_ty (by decide +kernel))))) (ans_ne (b := false) (vl ha) val_c scal_int rfl)) (st_next ?_))
      refine ⟨_, rfl, a, _, rfl, SqT.of ha, rfl, _, _, rfl, _, _, rfl, _, _, rfl, rfl, ?_⟩
      have z1 := vi (σ := [some (.ref a), some u, some v, some w]) (i := 1) rfl hu
      have z2 := vi (σ := [some (.ref a), some u, some v, some w]) (i := 2) rfl hv
      have z3 := vi (σ := [some (.ref a), some u, some v, some w]) (i := 3) rfl hw
      have za : Ans (tOr (tNot (tB (tCall spIsInt [] E0 (tCons (tVar 1) tNil)))) (tOr (tNot (tB (tCall spIsInt [] E0 (tCons (tVar 2) tNil)))) (tNot (tB (tCall spIsInt [] E0 (tCons (tVar 3) tNil)))))) [some (.ref a), some u, some v, some w] H true := by
        cases b with
        | false => exact ans_or1 z1
        | true =>
          cases c with
          | false => exact ans_or z1 (ans_or1 z2)
          | true =>
            cases d with
            | false => exact ans_or z1 (ans_or z2 z3)
            | true => cases hn
      exact st_seq (st_yes za (st_ret val_c k))
    | @int3 a p ha =>
      refine st_seq (st_no (ans_or (ans_not (b := true) (ans_val (val_isi (val_var rfl) (.base (.tup ha)) (kit_ty (by decide +kernel))))) (ans_ne (b := false) (vl ha) val_c scal_int rfl)) (st_next ?_))
      refine ⟨_, rfl, a, _, rfl, SqT.of ha, rfl, _, _, rfl, _, _, rfl, _, _, rfl, rfl, ?_⟩
      refine st_seq (st_no (ans_or (vi rfl (.int _)) (ans_or (vi rfl (.int _)) (vi rfl (.int _)))) (st_next ?_))
      refine st_ret (val_and (val_op (z := .bl (decide (1 ≤ p.w))) (val_var rfl) val_c fun Q q => ⟨_, _, rfl, rfl, q⟩) fun _ => val_op (z := .bl (decide (gc p.x p.y p.w = 1))) (val_cb (va_cons (val_var rfl) (va_cons (val_var rfl) (va_cons (val_var rfl) va_nil))) fun Q q => ⟨_, _, _, rfl, q⟩) val_c fun Q q => ⟨rfl, ?_⟩) k
      have e : decide (V.int (gc p.x p.y p.w) = V.int 1) = decide (gc p.x p.y p.w = 1) := by
        by_cases h : gc p.x p.y p.w = 1
        · rw [decide_eq_true h, h]
          rfl
        · rw [decide_eq_false h]
          exact decide_eq_false fun z => h (by injection z)
      rw [e]
      exact q
end
end Q
set_option Elab.async false
set_option linter.all false
set_option maxRecDepth 100000
set_option maxHeartbeats 2000000
namespace Q
open PySem L2 PySem.Spec PyProof.Rows PySem.Calls
open PM
abbrev sSide : Stmt := top 23
abbrev sPtOf : Stmt := top 25
abbrev sTurnOf : Stmt := top 26
abbrev sBetw : Stmt := top 27
abbrev sMid : Stmt := top 29
abbrev sSqB : Stmt := top 30
theorem Pv.mono {H H' : Hp} {v : V} {b : Bool} (e : Same H H') (h : Pv H v b) : Pv H' v b := by
  cases h with
  | int3 h => exact .int3 (e _ _ h)
  | odd3 h hu hv hw hn => exact .odd3 (e _ _ h) hu hv hw hn
  | tup h hl => exact .tup (e _ _ h) hl
  | lst h => exact .lst (e _ _ h)
  | non => exact .non
theorem bind_star0 {B : List Value → Sem (List (Str × Value))} {pv : Str} (h0 : B [] = (newTuple [] >>= fun t => pure [(pv, t)])) (h1 : ∀ r rs, B (r :: rs) = (newTuple (r :: rs) >>= fun t => pure [(pv, t)])) :
    ∀ us rest : List Value, us.length = ([] : List Str).length → B (us ++ rest) = (newTuple rest >>= fun t => pure (([] : List Str).zip us ++ [(pv, t)]))
  | [], [], _ => h0
  | [], r :: rs, _ => h1 r rs
def spVals : Sp := fun vs H Q _ => ∃ (p : Addr) (rest : List V), vs = [.ref p] ∧ H p = some (.tup rest) ∧ (∀ v ∈ rest, Pv H v true) ∧ Q .non H
def spPtOf : Sp := fun vs H Q _ => ∃ x y w : Int, vs = [.int x, .int y, .int w] ∧ w ≠ 0 ∧ Bd 6000 w ∧ ∀ p H', H p = none → Same H H' → H' p = some (.tup (PM.lowS x y w).vs) → Q (.ref p) H'
section
variable {P : Program} {w : World} {K : PySem.W.Frag} {mg : Str → Option Value} {base : Heap}
theorem scChk : FnScope ["values", "value"] ["values"] (defScope sChk) := ⟨rfl, rfl, rfl, by decide +kernel, rfl, by decide +kernel, by decide +kernel⟩
theorem ok_chk {f : Addr} {fd : FuncData} (F : Fun K "check_points" "check_points" sChk f fd) (CP : Cl P w K mg base 2 "is_point" spIsPt) : FnR P w K mg base CX0 3 f spChk := by
  obtain ⟨oc, od, kV, doc, pm, an, cdv, ct, osl, rfl, lk, hcd⟩ := F.ex
  have z := StX.fn_star (P := P) (w := w) (mg := mg) (base := base) (CX := CX0) (k := 2) (N := ["values", "value"]) (ps := []) (pv := "values") (sp := spVals) lk hcd scChk StX.cxUp_none (fun us rest h => bind_star0 (B := fun us => bindArgs (PySem.W.fnOf "check_points" "check_points" (defArgs sChk) (defBody sChk) (defScope sChk) .none kV doc pm an cdv ct) ⟨us, []⟩) rfl (fun _ _ => rfl) us rest h) (fun A outer s H vs Q E hr h => ?_)
  · refine z.imp fun vs H Q E h => ?_
    obtain ⟨h1, h2, h3⟩ := h
    exact ⟨[], vs, rfl, rfl, Nat.le_trans h1 (by decide), fun p hp => ⟨p, vs, rfl, upd_same, fun v hv => (h2 v hv).mono (same_new hp), h3 _ (same_new hp)⟩⟩
  · obtain ⟨p, rest, rfl, hp, hv, k⟩ := h
    refine ⟨_, PSs.nox (pss_one (ps_for PassesOwn.never rfl (pi_tup (pv 0)) (pg_name (i := 1) scChk.nd rfl (Or.inl rfl)) (pss_one (ps_if (pt_not (pt_val (pe_cl CP hr (Nat.le_refl _) (by rfl) (pa_cons (pv 1) pa_nil)))) pss_never pss_nil)))), ?_⟩
    refine ⟨_, rfl, p, rfl, ⟨_, SqT.of hp⟩, ?_⟩
    refine for_tup (xs := rest) (fun i σ H' => H' = H ∧ ∃ u, σ = [some (.ref p), u]) ⟨rfl, _, rfl⟩ (fun i σ H' _ h => by obtain ⟨rfl, _⟩ := h; exact SqT.of hp) (fun i x σ H' hx h => ?_) (fun σ H' h => by obtain ⟨rfl, _⟩ := h; exact k)
    obtain ⟨rfl, u, rfl⟩ := h
    refine st_no (ans_not (b := true) (ans_val (val_call (va_cons (val_var rfl) va_nil) fun Q q => ⟨_, _, rfl, hv x (List.mem_of_getElem? hx), q⟩))) (st_next ⟨rfl, _, rfl⟩)
theorem scSide : FnScope ["value"] ["value"] (defScope sSide) := ⟨rfl, rfl, rfl, by decide +kernel, rfl, by decide +kernel, by decide +kernel⟩
theorem scPtOf : FnScope ["x", "y", "w", "value"] ["x", "y", "w"] (defScope sPtOf) := ⟨rfl, rfl, rfl, by decide +kernel, rfl, by decide +kernel, by decide +kernel⟩
theorem ok_ptof {f : Addr} {fd : FuncData} {dvs : List V} {kws : List (Str × V)} (F : FunD K "point_of" "point_of" (defArgs sPtOf) (defBody sPtOf) (defScope sPtOf) dvs kws f fd) (CI : Cl P w K mg base 1 "is_integer" spIsInt) (CL : Cl P w K mg base 1 "lowest_point" spLow) : FnOk P w K mg base CX0 2 f fd ["x", "y", "w"] spPtOf := by
  refine F.ok scPtOf (fun vs H Q E h => ?_) (fun cdv A outer s H vs Q E hr h => ?_)
  · obtain ⟨x, y, w, rfl, _⟩ := h
    rfl
  · obtain ⟨x, y, w, rfl, hw, bw, k⟩ := h
    refine ⟨_, PSs.nox (pss_cons (ps_for PassesOwn.never rfl (pi_tup (pe_tup (pa_cons (pv 0) (pa_cons (pv 1) (pa_cons (pv 2) pa_nil))))) (pg_name (i := 3) scPtOf.nd rfl (Or.inl rfl)) (pss_one (ps_if (pt_not (pt_val (pe_cl CI hr (by decide) (by rfl) (pa_cons (pv 3) pa_nil)))) pss_never pss_nil)))
      (pss_cons (ps_if (pt_cmpR op_eq (pv 2) pe_int (nomark _)) pss_never pss_nil)
      (pss_one (ps_ret (pe_cl CL hr (by decide) (by rfl) (pa_cons (pv 0) (pa_cons (pv 1) (pa_cons (pv 2) pa_nil)))))))), ?_⟩
    refine ⟨_, rfl, _, rfl, _, rfl, (by show 3 ≤ sizeLine; decide), fun l hl => ?_⟩
    refine ⟨l, rfl, ⟨_, SqT.of upd_same⟩, ?_⟩
    refine for_tup (xs := [.int x, .int y, .int w]) (fun i σ H' => H' = upd H l (.tup [.int x, .int y, .int w]) ∧ ∃ u, σ = [some (.int x), some (.int y), some (.int w), u]) ⟨rfl, _, rfl⟩ (fun i σ H' _ h => by obtain ⟨rfl, _⟩ := h; exact SqT.of upd_same) (fun i v σ H' hx h => ?_) (fun σ H' h => ?_)
    · obtain ⟨rfl, u, rfl⟩ := h
      have hi : ∃ n, v = .int n := by
        have := List.mem_of_getElem? hx
        simp only [List.mem_cons, List.not_mem_nil, or_false] at this
        rcases this with rfl | rfl | rfl <;> exact ⟨_, rfl⟩
      obtain ⟨n, rfl⟩ := hi
      exact st_no (ans_not (b := true) (ans_val (val_call (va_cons (val_var rfl) va_nil) fun Q q => ⟨_, _, rfl, .int _, q⟩))) (st_next ⟨rfl, _, rfl⟩)
    · obtain ⟨rfl, u, rfl⟩ := h
      refine st_seq (st_no (ans_eq (b := false) (val_var rfl) val_c scal_int (decide_eq_false fun h => hw (by injection h))) (st_next ?_))
      refine ret_h (vh_call (va_cons (val_var rfl) (va_cons (val_var rfl) (va_cons (val_var rfl) va_nil))) (PV := fun v H' => ∃ a, v = .ref a ∧ H a = none ∧ Same H H' ∧ H' a = some (.tup (lowS x y w).vs)) fun Q q => ⟨_, _, _, rfl, hw, bw, fun a H' h1 h2 h3 => q _ _ ⟨a, rfl, (same_new hl).free h1, (same_new hl).trans h2, h3⟩⟩) ?_
      rintro v H' ⟨a, rfl, h1, h2, h3⟩
      exact k a H' h1 h2 h3
end
end Q
set_option Elab.async false
set_option linter.all false
set_option maxRecDepth 100000
set_option maxHeartbeats 2000000
namespace Q
open PySem L2 PySem.Spec PyProof.Rows PySem.Calls
open PM
/-- a def told by what it asks of the values written -/
structure ClR (P : Program) (w : World) (K : PySem.W.Frag) (mg : Str → Option Value) (base : Heap) (k : Nat) (x : Str) (sp : Sp) : Prop where
  ex : ∃ f : Addr, FnR P w K mg base CX0 k f sp ∧ mg x = some (.ref f) ∧ PySem.W.keepIn K (.ref f) = true
section
variable {X : Cx} {k j : Nat} {x : Str} {sp : Sp} {p pos : Pos} {e : Expr} {es : List Expr} {t : TA}
def tCallR (sp : Sp) (E : XK) (t : TA) : TE := fun σ H Q => t σ H fun vs H1 => sp vs H1 Q E
theorem pe_clR (c : ClR X.prog X.w X.K X.mg X.base k x sp) (hr : Room j X.A) (hk : k ≤ j) (hg : Gl X x) (ha : PA X (e :: es) t)
    (hdb : (x == ("__debug__" : Str)) = false := by decide) (he : starEach (e :: es) X.env = (false, eval e X.env) :: starEach es X.env := by rfl) (hpl : (backTo pos (starEach es X.env)).any (·.1) = false := by rfl) :
    PE X (.Call (.Name x p) (e :: es) [] pos) (tCallR sp E0 t) := by
  obtain ⟨f, F, hm, kp⟩ := c.ex
  exact pe_callR F (hr.mono hk) kp hg hm pass0 ha hdb he hpl
end
/-- a point of the program's: a tracked tuple in lowest terms, not too wide -/
structure PtA (H : Hp) (a : Addr) (p : P3) : Prop where
  h : H a = some (.tup p.vs)
  pt : Pt p
  b : B3 1000 p
theorem PtA.mono {H H' : Hp} {a : Addr} {p : P3} (e : Same H H') (x : PtA H a p) : PtA H' a p := ⟨e _ _ x.h, x.pt, x.b⟩
theorem PtA.w0 {H : Hp} {a : Addr} {p : P3} (x : PtA H a p) : p.w ≠ 0 := by
  have := x.pt.w
  omega
section
variable {σ : L2.St} {H : Hp} {t : TA} {vs : List V} {D : Ends}
theorem st_chk (ha : ValA t σ H vs) (hl : vs.length ≤ 9) (hv : ∀ v ∈ vs, Pv H v true) (q : ∀ H', Same H H' → D.nx σ H') : tDrop (tCallR spChk E0 t) D σ H := by
  refine st_dropH (PV := fun v H' => Same H H') (fun Q q' => ?_) fun v H' e => q H' e
  refine ha _ ?_
  exact ⟨hl, hv, fun H' e => q' _ _ e⟩
end
def spTurnOf : Sp := fun vs H Q _ => ∃ (a b c : Addr) (p q r : P3), vs = [.ref a, .ref b, .ref c] ∧ PtA H a p ∧ PtA H b q ∧ PtA H c r ∧ ∀ H', Same H H' → Q (.int (sgn (det p q r))) H'
def spBetw : Sp := fun vs H Q _ => ∃ (a b c : Addr) (p q r : P3), vs = [.ref a, .ref b, .ref c] ∧ PtA H a p ∧ PtA H b q ∧ PtA H c r ∧ ∀ H', Same H H' → Q (.bl (between p q r)) H'
def spMid : Sp := fun vs H Q _ => ∃ (a b : Addr) (p q : P3), vs = [.ref a, .ref b] ∧ PtA H a p ∧ PtA H b q ∧ ∀ l H', H l = none → Same H H' → H' l = some (.tup (half p q).vs) → Q (.ref l) H'
def spSqB : Sp := fun vs H Q _ => ∃ (a b : Addr) (p q : P3), vs = [.ref a, .ref b] ∧ PtA H a p ∧ PtA H b q ∧ ∀ l H', H l = none → Same H H' → H' l = some (.tup [.int (sq p q).1, .int (sq p q).2]) → Q (.ref l) H'
section
variable {P : Program} {w : World} {K : PySem.W.Frag} {mg : Str → Option Value} {base : Heap}
theorem scTurnOf : FnScope ["one", "two", "three"] ["one", "two", "three"] (defScope sTurnOf) := ⟨rfl, rfl, rfl, by decide +kernel, rfl, by decide +kernel, by decide +kernel⟩
theorem ok_turnof {f : Addr} {fd : FuncData} (F : Fun K "turn_of" "turn_of" sTurnOf f fd) (CK : ClR P w K mg base 3 "check_points" spChk) (CT : Cl P w K mg base 2 "turn" spTurn) : FnOk P w K mg base CX0 4 f fd ["one", "two", "three"] spTurnOf := by
  refine F.ok scTurnOf (fun vs H Q E h => ?_) (fun cdv A outer s H vs Q E hr h => ?_)
  · obtain ⟨a, b, c, p, q, r, rfl, _⟩ := h
    rfl
  · obtain ⟨a, b, c, p, q, r, rfl, ha, hb, hc, k⟩ := h
    refine ⟨_, (pss_cons (ps_expr (pe_clR CK hr (by decide) (by rfl) (pa_cons (pv 0) (pa_cons (pv 1) (pa_cons (pv 2) pa_nil)))))
      (pss_one (ps_ret (pe_cl CT hr (by decide) (by rfl) (pa_cons (pv 0) (pa_cons (pv 1) (pa_cons (pv 2) pa_nil))))))), ?_⟩
    refine st_seq (st_chk (va_cons (val_var rfl) (va_cons (val_var rfl) (va_cons (val_var rfl) va_nil))) (by show 3 ≤ 9; decide) (fun v hv => ?_) fun H1 e1 => ?_)
    · simp only [List.mem_cons, List.not_mem_nil, or_false] at hv
      rcases hv with rfl | rfl | rfl
      · exact Pv.pt ha.h ha.pt
      · exact Pv.pt hb.h hb.pt
      · exact Pv.pt hc.h hc.pt
    · refine ret_h (vh_call (va_cons (val_var rfl) (va_cons (val_var rfl) (va_cons (val_var rfl) va_nil))) (PV := fun v H' => v = .int (sgn (det p q r)) ∧ Same H H') fun Q q' => ⟨_, _, _, _, _, _, rfl, e1 _ _ ha.h, e1 _ _ hb.h, e1 _ _ hc.h, ha.b, hb.b, hc.b, fun H' e => q' _ _ ⟨rfl, e1.trans e⟩⟩) ?_
      rintro v H' ⟨rfl, e⟩
      exact k H' e
theorem scBetw : FnScope ["point", "one", "two"] ["point", "one", "two"] (defScope sBetw) := ⟨rfl, rfl, rfl, by decide +kernel, rfl, by decide +kernel, by decide +kernel⟩
theorem ok_betw {f : Addr} {fd : FuncData} (F : Fun K "is_between" "is_between" sBetw f fd) (CK : ClR P w K mg base 3 "check_points" spChk) (CL : Cl P w K mg base 3 "lies_between" spLies) : FnOk P w K mg base CX0 4 f fd ["point", "one", "two"] spBetw := by
  refine F.ok scBetw (fun vs H Q E h => ?_) (fun cdv A outer s H vs Q E hr h => ?_)
  · obtain ⟨a, b, c, p, q, r, rfl, _⟩ := h
    rfl
  · obtain ⟨a, b, c, p, q, r, rfl, ha, hb, hc, k⟩ := h
    refine ⟨_, (pss_cons (ps_expr (pe_clR CK hr (by decide) (by rfl) (pa_cons (pv 0) (pa_cons (pv 1) (pa_cons (pv 2) pa_nil)))))
      (pss_one (ps_ret (pe_cl CL hr (by decide) (by rfl) (pa_cons (pv 0) (pa_cons (pv 1) (pa_cons (pv 2) pa_nil))))))), ?_⟩
    refine st_seq (st_chk (va_cons (val_var rfl) (va_cons (val_var rfl) (va_cons (val_var rfl) va_nil))) (by show 3 ≤ 9; decide) (fun v hv => ?_) fun H1 e1 => ?_)
    · simp only [List.mem_cons, List.not_mem_nil, or_false] at hv
      rcases hv with rfl | rfl | rfl
      · exact Pv.pt ha.h ha.pt
      · exact Pv.pt hb.h hb.pt
      · exact Pv.pt hc.h hc.pt
    · refine ret_h (vh_call (va_cons (val_var rfl) (va_cons (val_var rfl) (va_cons (val_var rfl) va_nil))) (PV := fun v H' => v = .bl (between p q r) ∧ Same H H') fun Q q' => ⟨_, _, _, _, _, _, rfl, e1 _ _ ha.h, e1 _ _ hb.h, e1 _ _ hc.h, ha.b, hb.b, hc.b, fun H' e => q' _ _ ⟨rfl, e1.trans e⟩⟩) ?_
      rintro v H' ⟨rfl, e⟩
      exact k H' e
theorem scMid : FnScope ["one", "two"] ["one", "two"] (defScope sMid) := ⟨rfl, rfl, rfl, by decide +kernel, rfl, by decide +kernel, by decide +kernel⟩
theorem ok_mid {f : Addr} {fd : FuncData} (F : Fun K "middle_of" "middle_of" sMid f fd) (CK : ClR P w K mg base 3 "check_points" spChk) (CL : Cl P w K mg base 2 "half_way" spHalf) : FnOk P w K mg base CX0 4 f fd ["one", "two"] spMid := by
  refine F.ok scMid (fun vs H Q E h => ?_) (fun cdv A outer s H vs Q E hr h => ?_)
  · obtain ⟨a, b, p, q, rfl, _⟩ := h
    rfl
  · obtain ⟨a, b, p, q, rfl, ha, hb, k⟩ := h
    refine ⟨_, (pss_cons (ps_expr (pe_clR CK hr (by decide) (by rfl) (pa_cons (pv 0) (pa_cons (pv 1) pa_nil))))
      (pss_one (ps_ret (pe_cl CL hr (by decide) (by rfl) (pa_cons (pv 0) (pa_cons (pv 1) pa_nil)))))), ?_⟩
    refine st_seq (st_chk (val_pair (val_var rfl) (val_var rfl)) (by show 2 ≤ 9; decide) (fun v hv => ?_) fun H1 e1 => ?_)
    · simp only [List.mem_cons, List.not_mem_nil, or_false] at hv
      rcases hv with rfl | rfl
      · exact Pv.pt ha.h ha.pt
      · exact Pv.pt hb.h hb.pt
    · refine ret_h (vh_call (val_pair (val_var rfl) (val_var rfl)) (PV := fun v H' => ∃ l, v = .ref l ∧ H l = none ∧ Same H H' ∧ H' l = some (.tup (half p q).vs)) fun Q q' => ⟨_, _, _, _, rfl, e1 _ _ ha.h, e1 _ _ hb.h, ha.b, hb.b, ha.w0, hb.w0, fun l H' h1 h2 h3 => q' _ _ ⟨l, rfl, e1.free h1, e1.trans h2, h3⟩⟩) ?_
      rintro v H' ⟨l, rfl, h1, h2, h3⟩
      exact k l H' h1 h2 h3
theorem scSqB : FnScope ["one", "two"] ["one", "two"] (defScope sSqB) := ⟨rfl, rfl, rfl, by decide +kernel, rfl, by decide +kernel, by decide +kernel⟩
theorem ok_sqb {f : Addr} {fd : FuncData} (F : Fun K "square_between" "square_between" sSqB f fd) (CK : ClR P w K mg base 3 "check_points" spChk) (CL : Cl P w K mg base 3 "_square" spSquare) : FnOk P w K mg base CX0 4 f fd ["one", "two"] spSqB := by
  refine F.ok scSqB (fun vs H Q E h => ?_) (fun cdv A outer s H vs Q E hr h => ?_)
  · obtain ⟨a, b, p, q, rfl, _⟩ := h
    rfl
  · obtain ⟨a, b, p, q, rfl, ha, hb, k⟩ := h
    refine ⟨_, (pss_cons (ps_expr (pe_clR CK hr (by decide) (by rfl) (pa_cons (pv 0) (pa_cons (pv 1) pa_nil))))
      (pss_one (ps_ret (pe_cl CL hr (by decide) (by rfl) (pa_cons (pv 0) (pa_cons (pv 1) pa_nil)))))), ?_⟩
    refine st_seq (st_chk (val_pair (val_var rfl) (val_var rfl)) (by show 2 ≤ 9; decide) (fun v hv => ?_) fun H1 e1 => ?_)
    · simp only [List.mem_cons, List.not_mem_nil, or_false] at hv
      rcases hv with rfl | rfl
      · exact Pv.pt ha.h ha.pt
      · exact Pv.pt hb.h hb.pt
    · refine ret_h (vh_call (val_pair (val_var rfl) (val_var rfl)) (PV := fun v H' => ∃ l, v = .ref l ∧ H l = none ∧ Same H H' ∧ H' l = some (.tup [.int (sq p q).1, .int (sq p q).2])) fun Q q' => ⟨_, _, _, _, rfl, e1 _ _ ha.h, e1 _ _ hb.h, ha.b, hb.b, ha.w0, hb.w0, fun l H' h1 h2 h3 => q' _ _ ⟨l, rfl, e1.free h1, e1.trans h2, h3⟩⟩) ?_
      rintro v H' ⟨l, rfl, h1, h2, h3⟩
      exact k l H' h1 h2 h3
end
end Q
set_option Elab.async false
set_option linter.all false
set_option maxRecDepth 100000
set_option maxHeartbeats 2000000
namespace PM
/-- p stands for (x, y, w): by one positive factor -/
def Of (p : P3) (x y w : Int) : Prop := ∃ g : Int, 0 < g ∧ x = g * p.x ∧ y = g * p.y ∧ w = g * p.w
theorem gc_mul (g x y w : Int) (hg : 0 ≤ g) : gc (g * x) (g * y) (g * w) = g * gc x y w := by
  unfold gc
  rw [Int.natAbs_mul, Int.natAbs_mul, Int.natAbs_mul, Nat.gcd_mul_left, Nat.gcd_mul_left, Int.natCast_mul, Int.natAbs_of_nonneg hg]
theorem low_of {x y w : Int} (h : w ≠ 0) : Of (low x y w) x y w := by
  obtain ⟨h1, h2, h3⟩ := gc_dvd x y w
  refine ⟨gc x y w, gc_pos h, ?_, ?_, ?_⟩
  · exact (Int.mul_ediv_cancel' h1).symm
  · exact (Int.mul_ediv_cancel' h2).symm
  · exact (Int.mul_ediv_cancel' h3).symm
theorem pos_of {g a : Int} (hg : 0 < g) (h : 0 < g * a) : 0 < a := by
  by_cases c : 0 < a
  · exact c
  · have : g * a ≤ g * 0 := Int.mul_le_mul_of_nonneg_left (by omega) (by omega)
    omega
theorem low_pt {x y w : Int} (h : 0 < w) : Pt (low x y w) := by
  have hg := gc_pos (x := x) (y := y) (w := w) (by omega)
  obtain ⟨h1, h2, h3⟩ := gc_dvd x y w
  have e1 := Int.mul_ediv_cancel' h1
  have e2 := Int.mul_ediv_cancel' h2
  have e3 := Int.mul_ediv_cancel' h3
  refine ⟨?_, ?_⟩
  · have : 0 < gc x y w * (w / gc x y w) := by rw [e3]; exact h
    have := pos_of hg this
    show 1 ≤ w / gc x y w
    omega
  · have k := gc_mul (gc x y w) (x / gc x y w) (y / gc x y w) (w / gc x y w) (by omega)
    rw [e1, e2, e3] at k
    have k2 : gc x y w * 1 = gc x y w * gc (x / gc x y w) (y / gc x y w) (w / gc x y w) := by omega
    exact (Int.eq_of_mul_eq_mul_left (by omega) k2).symm
/-- two points in lowest terms that stand for the same place are one -/
theorem pt_dvd {p q : P3} (hp : Pt p) (hq : Pt q) (h1 : p.x * q.w = q.x * p.w) (h2 : p.y * q.w = q.y * p.w) : p.w ∣ q.w := by
  have d1 : p.w ∣ q.w * p.x := ⟨q.x, by rw [Int.mul_comm q.w, h1, Int.mul_comm]⟩
  have d2 : p.w ∣ q.w * p.y := ⟨q.y, by rw [Int.mul_comm q.w, h2, Int.mul_comm]⟩
  have d3 : p.w ∣ q.w * p.w := ⟨q.w, Int.mul_comm _ _⟩
  have d : p.w ∣ gc (q.w * p.x) (q.w * p.y) (q.w * p.w) := by
    unfold gc
    apply Int.natAbs_dvd_natAbs.mp
    rw [Int.natAbs_natCast]
    exact Nat.dvd_gcd (Nat.dvd_gcd (Int.natAbs_dvd_natAbs.mpr d1) (Int.natAbs_dvd_natAbs.mpr d2)) (Int.natAbs_dvd_natAbs.mpr d3)
  rw [gc_mul _ _ _ _ (by have := hq.w; omega), hp.g, Int.mul_one] at d
  exact d
theorem pt_eq {p q : P3} (hp : Pt p) (hq : Pt q) (h1 : p.x * q.w = q.x * p.w) (h2 : p.y * q.w = q.y * p.w) : p = q := by
  have w1 := hp.w
  have w2 := hq.w
  have a := pt_dvd hp hq h1 h2
  have b := pt_dvd hq hp h1.symm h2.symm
  have e : p.w = q.w := Int.dvd_antisymm (by omega) (by omega) a b
  obtain ⟨px, py, pw⟩ := p
  obtain ⟨qx, qy, qw⟩ := q
  simp only at *
  subst e
  have e1 := Int.eq_of_mul_eq_mul_right (by omega) h1
  have e2 := Int.eq_of_mul_eq_mul_right (by omega) h2
  rw [e1, e2]
/-- what a point stands for fixes it -/
theorem of_eq {p q : P3} {x y w x' y' w' : Int} (hp : Pt p) (hq : Pt q) (op : Of p x y w) (oq : Of q x' y' w') (h1 : x * w' = x' * w) (h2 : y * w' = y' * w) : p = q := by
  obtain ⟨g, g0, a1, a2, a3⟩ := op
  obtain ⟨k, k0, b1, b2, b3⟩ := oq
  subst a1 a2 a3 b1 b2 b3
  have gk : g * k ≠ 0 := Int.mul_ne_zero (by omega) (by omega)
  refine pt_eq hp hq ?_ ?_
  · apply Int.eq_of_mul_eq_mul_left gk
    grind
  · apply Int.eq_of_mul_eq_mul_left gk
    grind
theorem of_scale {p : P3} {x y w k : Int} (h : Of p x y w) (hk : 0 < k) : Of p (k * x) (k * y) (k * w) := by
  obtain ⟨g, g0, e1, e2, e3⟩ := h
  exact ⟨k * g, Int.mul_pos hk g0, by rw [e1, Int.mul_assoc], by rw [e2, Int.mul_assoc], by rw [e3, Int.mul_assoc]⟩
theorem of_w {p : P3} {x y w : Int} (hp : Pt p) (h : Of p x y w) : 0 < w := by
  obtain ⟨g, g0, e1, e2, e3⟩ := h
  rw [e3]
  exact Int.mul_pos g0 (by have := hp.w; omega)
/-- the same place only if the cross products agree -/
theorem of_same {p : P3} {x y w x' y' w' : Int} (op : Of p x y w) (oq : Of p x' y' w') : x * w' = x' * w ∧ y * w' = y' * w := by
  obtain ⟨g, g0, a1, a2, a3⟩ := op
  obtain ⟨k, k0, b1, b2, b3⟩ := oq
  subst a1 a2 a3 b1 b2 b3
  constructor <;> grind
theorem sgn_mul_pos {g n : Int} (h : 0 < g) : sgn (g * n) = sgn n := by
  unfold sgn
  rcases Int.lt_trichotomy n 0 with c | c | c
  · have : g * n < 0 := Int.mul_neg_of_pos_of_neg h c
    rw [if_neg (by omega), if_pos this, if_neg (by omega), if_pos c]
  · subst c
    simp
  · have : 0 < g * n := Int.mul_pos h c
    rw [if_pos this, if_pos c]
theorem cr_ne {p q : P3} (hp : Pt p) (hq : Pt q) (h : p ≠ q) : (cr p q).x ≠ 0 ∨ (cr p q).y ≠ 0 ∨ (cr p q).w ≠ 0 := by
  by_cases h1 : (cr p q).x = 0
  · by_cases h2 : (cr p q).y = 0
    · exfalso
      refine h (pt_eq hp hq ?_ ?_)
      · have z : p.w * q.x - p.x * q.w = 0 := h2
        rw [Int.mul_comm q.x]
        omega
      · have z : p.y * q.w - p.w * q.y = 0 := h1
        rw [Int.mul_comm q.y]
        omega
    · exact .inr (.inl h2)
  · exact .inl h1
end PM
set_option Elab.async false
set_option linter.all false
set_option maxRecDepth 100000
set_option maxHeartbeats 2000000
namespace Q
open PySem L2 PySem.Spec PyProof.Rows PySem.Calls
open PM
abbrev sMeet : Stmt := top 28
abbrev sRef : Stmt := top 46
def veTail : List Value := ["ValueError", "Exception", "BaseException", "object"].map Value.type
/-- the error's class as it is made and asked for -/
structure IOe (K : PySem.W.Frag) (mg : Str → Option Value) (C : Addr) : Prop where
  x : PySem.W.excIn K C veTail "ValueError.__new__" = true
  g : mg "InvalidOperation" = some (.ref C)
  kC : PySem.W.keepIn K (.ref C) = true
  be : PySem.W.subIn K (.ref C) (.type "BaseException") = some true
  typ : PySem.W.typeIn K (.ref C) = some (.type "type")
  me : PySem.W.exmOne K (.ref C) (.ref C) = some true
def dP (p : P3) : PyData := .tuple [.int p.x, .int p.y, .int p.w]
theorem dp_of {K : PySem.W.Frag} {H : Hp} {a : Addr} {p : P3} (h : H a = some (.tup p.vs)) : Dp K H (.ref a) (dP p) := .tup (SqT.of h) (.cons (.int _) (.cons (.int _) (.cons (.int _) .nil)))
theorem shaped_dP (p : P3) : SeqAt.shaped (dP p) = true := rfl
theorem eqv_dP (p q : P3) : PyData.eqv (dP p) (dP q) = true ↔ p = q := by
  obtain ⟨a, b, c⟩ := p
  obtain ⟨d, e, f⟩ := q
  have z : PyData.eqv (dP ⟨a, b, c⟩) (dP ⟨d, e, f⟩) = (a == d && (b == e && (c == f && true))) := by
    unfold dP
    simp [PyData.eqv, PyData.eqvAll]
  rw [z]
  simp
theorem eqv_dPb (p q : P3) [Decidable (p = q)] : PyData.eqv (dP p) (dP q) = decide (p = q) := by
  by_cases h : p = q
  · rw [decide_eq_true h]
    exact (eqv_dP p q).mpr h
  · rw [decide_eq_false h]
    exact Bool.eq_false_iff.mpr fun z => h ((eqv_dP p q).mp z)
def meetOf (p q r s : P3) : P3 := cr (lineOf p q) (lineOf r s)
def spMeet (C : Addr) : Sp := fun vs H Q E => ∃ (a b c d : Addr) (p q r s : P3), vs = [.ref a, .ref b, .ref c, .ref d] ∧ PtA H a p ∧ PtA H b q ∧ PtA H c r ∧ PtA H d s ∧
  ((p = q ∨ r = s) → ∀ H', Same H H' → E (.ref C) none H') ∧
  (p ≠ q → r ≠ s → ((meetOf p q r s).w = 0 → ∀ H', Same H H' → Q .non H') ∧
    ((meetOf p q r s).w ≠ 0 → ∀ l H', H l = none → Same H H' → H' l = some (.tup (lowS (meetOf p q r s).x (meetOf p q r s).y (meetOf p q r s).w).vs) → Q (.ref l) H'))
theorem B3.line {p q : P3} (b : B3 1000 p) (c : B3 1000 q) : B3 2001 (lineOf p q) := by
  have z := B3.cr b c
  exact B3.low z.x z.y z.w
theorem st_chkS {σ : L2.St} {H : Hp} {t : TA} {vs : List V} {D : Ends} {u : TS} (ha : ValA t σ H vs) (hl : vs.length ≤ 9) (hv : ∀ v ∈ vs, Pv H v true) (q : ∀ H', Same H H' → u D σ H') : tSeq (tDrop (tCallR spChk E0 t)) u D σ H :=
  st_seq (st_chk ha hl hv q)
section
variable {P : Program} {w : World} {K : PySem.W.Frag} {mg : Str → Option Value} {base : Heap} {C : Addr}
theorem scMeet : FnScope ["one", "two", "three", "four"] ["one", "two", "three", "four"] (defScope sMeet) := ⟨rfl, rfl, rfl, by decide +kernel, rfl, by decide +kernel, by decide +kernel⟩
theorem ok_meet {f : Addr} {fd : FuncData} (F : Fun K "line_meet" "line_meet" sMeet f fd) (T : IOe K mg C) (CK : ClR P w K mg base 3 "check_points" spChk) (CL : Cl P w K mg base 2 "line_through" spLine) (CC : Cl P w K mg base 2 "cross_point" spCross) :
    FnOk P w K mg base (L2.CX P w) 4 f fd ["one", "two", "three", "four"] (spMeet C) := by
  refine F.okX scMeet (fun vs H Q E h => ?_) (fun cdv A outer s H vs Q E hr h => ?_)
  · obtain ⟨a, b, c, d, p, q, r, s, rfl, _⟩ := h
    rfl
  · obtain ⟨a, b, c, d, p, q, r, s, rfl, ha, hb, hc, hd, k1, k2⟩ := h
    refine ⟨_, (pss_cons (ps_expr (pe_clR CK hr (by decide) (by rfl) (pa_cons (pv 0) (pa_cons (pv 1) (pa_cons (pv 2) (pa_cons (pv 3) pa_nil))))))
      (pss_cons (ps_if (pw_or (pt_cmpR (op_eqD hr.units) (pv 0) (pv 1) (nomark _)) (pw_or1 (pt_cmpR (op_eqD hr.units) (pv 2) (pv 3) (nomark _)))).pt (pss_one (ps_raise (W := fun cls d _ H => E cls d H) rfl (takes_of rfl rfl rfl rfl) (SkE.pmk_own1 PySem.F.excBase_ValueError T.x T.g T.kC (raises_own T.be T.typ) (by rfl) pe_str))) pss_nil)
      (pss_one (ps_ret (pe_cl CC hr (by decide) (by rfl) (pa_cons (pe_cl CL hr (by decide) (by rfl) (pa_cons (pv 0) (pa_cons (pv 1) pa_nil))) (pa_cons (pe_cl CL hr (by decide) (by rfl) (pa_cons (pv 2) (pa_cons (pv 3) pa_nil))) pa_nil))))))), ?_⟩
    refine st_chkS (va_cons (val_var rfl) (va_cons (val_var rfl) (va_cons (val_var rfl) (va_cons (val_var rfl) va_nil)))) (by show 4 ≤ 9; decide) (fun v hv => ?_) fun H1 e1 => ?_
    · simp only [List.mem_cons, List.not_mem_nil, or_false] at hv
      rcases hv with rfl | rfl | rfl | rfl
      · exact Pv.pt ha.h ha.pt
      · exact Pv.pt hb.h hb.pt
      · exact Pv.pt hc.h hc.pt
      · exact Pv.pt hd.h hd.pt
    have cmp : ∀ {i j : Nat} {x y : Addr} {u v : P3} {t : Bool}, ([some (.ref a), some (.ref b), some (.ref c), some (.ref d)] : L2.St)[i]? = some (some (.ref x)) → ([some (.ref a), some (.ref b), some (.ref c), some (.ref d)] : L2.St)[j]? = some (some (.ref y)) → H1 x = some (.tup u.vs) → H1 y = some (.tup v.vs) → PyData.eqv (dP u) (dP v) = t →
        Ans (tTest (tOp (rEqD K) (tVar i) (tVar j))) [some (.ref a), some (.ref b), some (.ref c), some (.ref d)] H1 t := fun h1 h2 g1 g2 e =>
      ans_cmp (val_var h1) (val_var h2) fun Q q => ⟨_, _, dp_of g1, dp_of g2, shaped_dP _, shaped_dP _, by rw [e]; exact q⟩
    have eF : ∀ {u v : P3}, u ≠ v → PyData.eqv (dP u) (dP v) = false := fun h => Bool.eq_false_iff.mpr fun z => h ((eqv_dP _ _).mp z)
    by_cases hpq : p = q
    · refine st_seq (st_yes (ans_or1 (cmp (i := 0) (j := 1) rfl rfl (e1 _ _ ha.h) (e1 _ _ hb.h) ((eqv_dP p q).mpr hpq))) ?_)
      exact k1 (.inl hpq) H1 e1
    by_cases hrs : r = s
    · refine st_seq (st_yes (ans_or (cmp (i := 0) (j := 1) rfl rfl (e1 _ _ ha.h) (e1 _ _ hb.h) (eF hpq)) (cmp (i := 2) (j := 3) rfl rfl (e1 _ _ hc.h) (e1 _ _ hd.h) ((eqv_dP r s).mpr hrs))) ?_)
      exact k1 (.inr hrs) H1 e1
    refine st_seq (st_no (ans_or (cmp (i := 0) (j := 1) rfl rfl (e1 _ _ ha.h) (e1 _ _ hb.h) (eF hpq)) (cmp (i := 2) (j := 3) rfl rfl (e1 _ _ hc.h) (e1 _ _ hd.h) (eF hrs))) (st_next ?_))
    obtain ⟨k3, k4⟩ := k2 hpq hrs
    refine ⟨_, rfl, _, rfl, a, b, p, q, rfl, e1 _ _ ha.h, e1 _ _ hb.h, ha.b, hb.b, cr_ne ha.pt hb.pt hpq, fun l1 H2 f1 e2 t1 => ?_⟩
    refine ⟨_, rfl, _, rfl, c, d, r, s, rfl, e2 _ _ (e1 _ _ hc.h), e2 _ _ (e1 _ _ hd.h), hc.b, hd.b, cr_ne hc.pt hd.pt hrs, fun l2 H3 f2 e3 t2 => ?_⟩
    refine ⟨l1, l2, _, _, rfl, e3 _ _ t1, t2, B3.line ha.b hb.b, B3.line hc.b hd.b, ?_⟩
    by_cases hw : (meetOf p q r s).w = 0
    · exact .inl ⟨hw, k3 hw H3 (e1.trans (e2.trans e3))⟩
    · exact .inr ⟨hw, fun l H' g1 g2 g3 => k4 hw l H' (e1.free (e2.free (e3.free g1))) (e1.trans (e2.trans (e3.trans g2))) g3⟩
end
end Q
set_option Elab.async false
set_option linter.all false
set_option maxRecDepth 100000
set_option maxHeartbeats 2000000
namespace Q
open PySem L2 PySem.Spec PyProof.Rows PySem.Calls
open PM
def isPt (p : P3) : Bool := decide (1 ≤ p.w) && decide (gc p.x p.y p.w = 1)
def ns (p : P3) : List Int := [p.x, p.y, p.w]
inductive Ps (H : Hp) : V → Bool → Prop where
  | pair {a u v : Addr} {p q : P3} (h : H a = some (.tup [.ref u, .ref v])) (hu : H u = some (.tup p.vs)) (hv : H v = some (.tup q.vs)) : Ps H (.ref a) (isPt p && (isPt q && HT.lexLt (ns p) (ns q)))
  | tup {a : Addr} {xs : List V} (h : H a = some (.tup xs)) (hl : xs.length ≠ 2) : Ps H (.ref a) false
  | lst {a : Addr} {xs : List V} (h : H a = some (.lst xs)) : Ps H (.ref a) false
  | non : Ps H .non false
def spSide : Sp := fun vs H Q _ => ∃ (v : V) (b : Bool), vs = [v] ∧ Ps H v b ∧ Q (.bl b) H
section
variable {P : Program} {w : World} {K : PySem.W.Frag} {mg : Str → Option Value} {base : Heap}
theorem ok_side {f : Addr} {fd : FuncData} (F : Fun K "is_side" "is_side" sSide f fd) (T : TI mg) (CP : Cl P w K mg base 2 "is_point" spIsPt) : FnOk P w K mg base CX0 3 f fd ["value"] spSide := by
  refine F.ok scSide (fun vs H Q E h => ?_) (fun cdv A outer s H vs Q E hr h => ?_)
  · obtain ⟨v, b, rfl, _⟩ := h
    rfl
  · obtain ⟨v, b, rfl, hv, k⟩ := h
    refine ⟨_, (pss_cons (ps_if (pw_or (pt_not (pt_val (pe_callB call_isi (by rfl) T.isi PyProof.Rows.boot_isinstance (pa_cons (pv 0) (pa_cons (pe_bltn (v := .ty "tuple") (by rfl) T.tuple (by decide +kernel) rfl) pa_nil)))))
        (pw_or1 (pt_cmpR op_ne (pe_callB call_len_seq (by rfl) T.len PySem.boot_len (pa_cons (pv 0) pa_nil)) pe_int (nomark _)))).pt (pss_one (ps_ret pe_bl)) pss_nil)
      (pss_one (ps_ret (pe_and (pe_cl CP hr (by decide) (by rfl) (pa_cons ((pe_ix ix_tup (pv 0) pe_int (fun _ _ => rfl))) pa_nil)) (pe_and (pe_cl CP hr (by decide) (by rfl) (pa_cons ((pe_ix ix_tup (pv 0) pe_int (fun _ _ => rfl))) pa_nil)) (pe_one (pe_cmpR (op_ltT hr.units0) (pe_ix ix_tup (pv 0) pe_int (fun _ _ => rfl)) (pe_ix ix_tup (pv 0) pe_int (fun _ _ => rfl)) (nomark _)))))))), ?_⟩
    have vl : ∀ {a : Addr} {xs : List V}, H a = some (.tup xs) → Val (tCB (fun xs H Q => ∃ p ys, xs = [.ref p] ∧ (SqL K H p ys ∨ SqT K H p ys) ∧ Q (.int ys.length) H) (tCons (tVar 0) tNil)) (L2.start ["value"] [.ref a]) H (.int xs.length) := fun ha =>
      val_cb (va_cons (val_var rfl) va_nil) fun Q q => ⟨_, _, rfl, .inr (SqT.of ha), q⟩
    cases hv with
    | non => exact st_seq (st_yes (ans_or1 (ans_not (b := false) (ans_val (val_isi (val_var rfl) (.base .non) (kit_ty (by decide +kernel)))))) (st_ret val_c k))
    | lst ha => exact st_seq (st_yes (ans_or1 (ans_not (b := false) (ans_val (val_isi (val_var rfl) (.base (.lst ha)) (kit_ty (by decide +kernel)))))) (st_ret val_c k))
    | tup ha hl =>
      refine st_seq (st_yes (ans_or (ans_not (b := true) (ans_val (val_isi (val_var rfl) (.base (.tup ha)) (kit_ty (by decide +kernel))))) (ans_ne (b := true) (vl ha) val_c scal_int ?_)) (st_ret val_c k))
      rw [decide_eq_false fun h => hl (by
        injection h with h
        omega)]
      rfl
    | @pair a u v p q ha hu hv =>
      refine st_seq (st_no (ans_or (ans_not (b := true) (ans_val (val_isi (val_var rfl) (.base (.tup ha)) (kit_ty (by decide +kernel))))) (ans_ne (b := false) (vl ha) val_c scal_int rfl)) (st_next ?_))
      have x0 : Val (tOp (rIxT K) (tVar 0) (tC (.int 0))) (L2.start ["value"] [.ref a]) H (.ref u) := val_op (val_var rfl) val_c fun _ q => ⟨_, _, _, _, rfl, rfl, SqT.of ha, rfl, q⟩
      have x1 : Val (tOp (rIxT K) (tVar 0) (tC (.int 1))) (L2.start ["value"] [.ref a]) H (.ref v) := val_op (val_var rfl) val_c fun _ q => ⟨_, _, _, _, rfl, rfl, SqT.of ha, rfl, q⟩
      refine st_ret (val_and (val_call (va_cons x0 va_nil) fun Q q => ⟨_, _, rfl, .int3 hu, q⟩) fun _ => val_and (val_call (va_cons x1 va_nil) fun Q q => ⟨_, _, rfl, .int3 hv, q⟩) fun _ => val_op (z := .bl (HT.lexLt (ns p) (ns q))) x0 x1 fun Q q' => ⟨_, _, ns p, ns q, rfl, rfl, SqT.of hu, SqT.of hv, q'⟩) k
end
end Q
set_option Elab.async false
set_option linter.all false
set_option maxRecDepth 100000
set_option maxHeartbeats 2000000
namespace PM
/-- a frame: a point with any bottom, two steps -/
structure Fr where
  X : Int
  Y : Int
  W : Int
  o0 : Int
  o1 : Int
  t0 : Int
  t1 : Int
def Fr.k (φ : Fr) : Int := φ.o0 * φ.t1 - φ.o1 * φ.t0
def spX (φ : Fr) (a b v : Int) : Int := φ.X * v + (a * φ.o0 + b * φ.t0) * φ.W
def spY (φ : Fr) (a b v : Int) : Int := φ.Y * v + (a * φ.o1 + b * φ.t1) * φ.W
def spot (φ : Fr) (a b v : Int) : P3 := low (spX φ a b v) (spY φ a b v) (φ.W * v)
def sense (φ : Fr) : Int := if φ.o0 * φ.t1 > φ.o1 * φ.t0 then 1 else -1
end PM
namespace Q
open PySem L2 PySem.Spec PyProof.Rows PySem.Calls
open PM
abbrev sShared : Stmt := top 36
abbrev sPoint : Stmt := top 37
abbrev sSpot : Stmt := top 39
abbrev sSense : Stmt := top 40
abbrev sLSign : Stmt := top 41
structure FrB (φ : Fr) : Prop where
  X : Bd 100 φ.X
  Y : Bd 100 φ.Y
  W : Bd 100 φ.W
  o0 : Bd 100 φ.o0
  o1 : Bd 100 φ.o1
  t0 : Bd 100 φ.t0
  t1 : Bd 100 φ.t1
  w : 1 ≤ φ.W
  k : φ.k ≠ 0
/-- where a frame lies -/
structure FrA (H : Hp) (a s o t : Addr) (φ : Fr) : Prop where
  a : H a = some (.tup [.ref s, .ref o, .ref t])
  s : H s = some (.lst [.int φ.X, .int φ.Y, .int φ.W])
  o : H o = some (.tup [.int φ.o0, .int φ.o1])
  t : H t = some (.tup [.int φ.t0, .int φ.t1])
  b : FrB φ
theorem FrA.mono {H H' : Hp} {a s o t : Addr} {φ : Fr} (e : Same H H') (x : FrA H a s o t φ) : FrA H' a s o t φ := ⟨e _ _ x.a, e _ _ x.s, e _ _ x.o, e _ _ x.t, x.b⟩
def spShared : Sp := fun vs H Q _ => ∃ a b : Int, vs = [.int a, .int b] ∧ Q (.int ((Nat.gcd a.natAbs b.natAbs : Nat) : Int)) H
def spPoint : Sp := fun vs H Q _ => ∃ x y w : Int, vs = [.int x, .int y, .int w] ∧ 0 < w ∧ Bd 6000 w ∧ ∀ l H', H l = none → Same H H' → H' l = some (.tup (low x y w).vs) → Q (.ref l) H'
def spLSign : Sp := fun vs H Q _ => ∃ n : Int, vs = [.int n] ∧ Q (.int (sgn n)) H
def spSense : Sp := fun vs H Q _ => ∃ (a s o t : Addr) (φ : Fr), vs = [.ref a] ∧ FrA H a s o t φ ∧ Q (.int (sense φ)) H
def spSpot : Sp := fun vs H Q _ => ∃ (a s o t : Addr) (φ : Fr) (m n v : Int), vs = [.ref a, .int m, .int n, .int v] ∧ FrA H a s o t φ ∧ Bd 80 m ∧ Bd 80 n ∧ Bd 10 v ∧ 1 ≤ v ∧
  ∀ l H', H l = none → Same H H' → PtA H' l (spot φ m n v) → Q (.ref l) H'
structure TL (mg : Str → Option Value) : Prop extends TB mg where
  min : mg "min" = none
  tuple : mg "tuple" = none
  repr : mg "repr" = none
section
variable {P : Program} {w : World} {K : PySem.W.Frag} {mg : Str → Option Value} {base : Heap}
theorem scShared : FnScope ["one", "other", "big", "low"] ["one", "other"] (defScope sShared) := ⟨rfl, rfl, rfl, by decide +kernel, rfl, by decide +kernel, by decide +kernel⟩
theorem ok_shared {f : Addr} {fd : FuncData} (F : Fun K "_law_shared" "_law_shared" sShared f fd) (T : TB mg) : FnOk P w K mg base CX0 1 f fd ["one", "other"] spShared := by
  refine F.ok scShared (fun vs H Q E h => ?_) (fun cdv A outer s H vs Q E hr h => ?_)
  · obtain ⟨a, b, rfl, _⟩ := h
    rfl
  · obtain ⟨a, b, rfl, k⟩ := h
    refine ⟨_, (pss_cons (ps_par (i := 2) (j := 3) (by rfl) scShared.nd rfl rfl (by decide) rfl rfl (pa_cons (pe_callB call_abs (by rfl) T.abs (by decide +kernel) (pa_cons (pv 0) pa_nil)) (pa_cons (pe_callB call_abs (by rfl) T.abs (by decide +kernel) (pa_cons (pv 1) pa_nil)) pa_nil)) (by rfl))
      (pss_cons (ps_while PassesOwn.never (pt_cmpR op_gt (pv 3) pe_int (nomark _)) (pss_one (ps_par (i := 2) (j := 3) (by rfl) scShared.nd rfl rfl (by decide) rfl rfl (pa_cons (pv 3) (pa_cons (pe_op op_mod (pe_callTy call_int1 (by rfl) T.int (by decide +kernel) (pa_cons (pv 2) pa_nil)) (pv 3)) pa_nil)) (by rfl))))
      (pss_one (ps_ret (pv 2))))), ?_⟩
    have ab : ∀ i : Int, (if i < 0 then -i else i) = ((i.natAbs : Nat) : Int) := fun i => by
      split <;> omega
    refine ⟨_, rfl, _, rfl, _, rfl, _, rfl, _, _, rfl, ?_⟩
    rw [ab a, ab b]
    refine while_by (fun σ H' => H' = H ∧ ∃ m n : Nat, Nat.gcd m n = Nat.gcd a.natAbs b.natAbs ∧ σ = [some (.int a), some (.int b), some (.int (m : Int)), some (.int (n : Int))]) (fun σ _ => match σ with | [_, _, _, some (.int n)] => n.toNat | _ => 0) ⟨rfl, _, _, rfl, rfl⟩ ?_ ?_
    · rintro σ H' ⟨rfl, m, n, hg, rfl⟩
      refine ⟨_, rfl, _, _, rfl, rfl, _, rfl, ?_⟩
      refine ite2 (fun c => ?_) (fun c => ?_)
      · have c : (0 : Int) < (n : Int) := of_decide_eq_true c
        refine ⟨_, rfl, _, rfl, .inl ⟨_, rfl, _, rfl, _, _, rfl, rfl, c, _, _, rfl, ⟨rfl, n, m % n, ?_, ?_⟩, ?_⟩⟩
        · rw [← hg, Nat.gcd_comm m n, Nat.gcd_rec n m, Nat.gcd_comm]
        · rfl
        · show ((m : Int) % (n : Int)).toNat < ((n : Int)).toNat
          have h1 := Int.emod_lt_of_pos (m : Int) c
          have h2 := Int.emod_nonneg (m : Int) (by omega : (n : Int) ≠ 0)
          omega
      · have c := no_dec c
        have n0 : n = 0 := by omega
        subst n0
        rw [Nat.gcd_zero_right] at hg
        refine ⟨_, rfl, ?_⟩
        rw [hg]
        exact k
    · rintro σ H' Q1 Q2 hm ⟨v, hv, i, j, e1, e2, b, eb, q⟩
      exact ⟨v, hv, i, j, e1, e2, b, eb, hm _ _ q⟩
theorem scPoint : FnScope ["x", "y", "w", "shared"] ["x", "y", "w"] (defScope sPoint) := ⟨rfl, rfl, rfl, by decide +kernel, rfl, by decide +kernel, by decide +kernel⟩
theorem ok_point {f : Addr} {fd : FuncData} (F : Fun K "_law_point" "_law_point" sPoint f fd) (CS : Cl P w K mg base 1 "_law_shared" spShared) : FnOk P w K mg base CX0 2 f fd ["x", "y", "w"] spPoint := by
  refine F.ok scPoint (fun vs H Q E h => ?_) (fun cdv A outer s H vs Q E hr h => ?_)
  · obtain ⟨x, y, w, rfl, _⟩ := h
    rfl
  · obtain ⟨x, y, w, rfl, hw, bw, k⟩ := h
    refine ⟨_, (pss_cons (ps_set (i := 3) scPoint.nd rfl (Or.inl rfl) (pe_cl CS hr (by decide) (by rfl) (pa_cons (pe_cl CS hr (by decide) (by rfl) (pa_cons (pv 0) (pa_cons (pv 1) pa_nil))) (pa_cons (pv 2) pa_nil))))
      (pss_one (ps_ret (pe_tup (pa_cons (pe_op op_dv (pv 0) (pv 3)) (pa_cons (pe_op op_dv (pv 1) (pv 3)) (pa_cons (pe_op op_dv (pv 2) (pv 3)) pa_nil))))))), ?_⟩
    have g0 : gc x y w ≠ 0 := by
      have := gc_pos (x := x) (y := y) (w := w) (by omega)
      omega
    have gl : (gc x y w).natAbs.log2 < 9000 := (bw.of_le (gc_le (by omega))).log (by decide)
    refine st_seq (st_set (v := .int (gc x y w)) (val_call (val_pair (val_call (val_pair (val_var rfl) (val_var rfl)) fun Q q => ⟨_, _, rfl, q⟩) (val_var rfl)) fun Q q => ⟨_, _, rfl, ?_⟩) ?_)
    · rw [Int.natAbs_natCast]
      exact q
    refine ret_h (vh_tup (va_cons (val_dv (val_var rfl) (val_var rfl) g0 gl) (va_cons (val_dv (val_var rfl) (val_var rfl) g0 gl) (va_cons (val_dv (val_var rfl) (val_var rfl) g0 gl) va_nil))) (by show 3 ≤ sizeLine; decide)
      (PV := fun v H' => ∃ l, v = .ref l ∧ H l = none ∧ H' = upd H l (.tup (low x y w).vs)) fun l hl => ⟨l, rfl, hl, ?_⟩) ?_
    · rw [low_fd]
      rfl
    · rintro v H' ⟨l, rfl, hl, rfl⟩
      exact k l _ hl (same_new hl) upd_same
theorem scLSign : FnScope ["number"] ["number"] (defScope sLSign) := ⟨rfl, rfl, rfl, by decide +kernel, rfl, by decide +kernel, by decide +kernel⟩
theorem ok_lsign {f : Addr} {fd : FuncData} (F : Fun K "_law_sign" "_law_sign" sLSign f fd) (T : TB mg) : FnOk P w K mg base CX0 1 f fd ["number"] spLSign := by
  refine F.ok scLSign (fun vs H Q E h => ?_) (fun cdv A outer s H vs Q E hr h => ?_)
  · obtain ⟨n, rfl, _⟩ := h
    rfl
  · obtain ⟨n, rfl, k⟩ := h
    refine ⟨_, pss_one (ps_ret (pe_op op_sub (pe_callTy call_int1 (by rfl) T.int (by decide +kernel) (pa_cons (pe_cmpR op_gt (pv 0) pe_int (nomark _)) pa_nil)) (pe_callTy call_int1 (by rfl) T.int (by decide +kernel) (pa_cons (pe_cmpR op_lt (pv 0) pe_int (nomark _)) pa_nil)))), ?_⟩
    refine ⟨_, rfl, _, _, rfl, rfl, .inr ⟨_, rfl, _, rfl, _, _, rfl, rfl, .inr ⟨_, rfl, _, _, rfl, rfl, ?_⟩⟩⟩
    have e : sgn n = (if decide (0 < n) = true then 1 else 0) - (if decide (n < 0) = true then 1 else 0) := by
      unfold sgn
      rcases Int.lt_trichotomy n 0 with c | c | c
      · rw [if_neg (by omega), if_pos c, if_neg (fun h => by have := of_decide_eq_true h; omega), if_pos (decide_eq_true c)]
        rfl
      · subst c
        rfl
      · rw [if_pos c, if_pos (decide_eq_true c), if_neg (fun h => by have := of_decide_eq_true h; omega)]
        rfl
    rw [e] at k
    exact k
theorem scSense : FnScope ["frame"] ["frame"] (defScope sSense) := ⟨rfl, rfl, rfl, by decide +kernel, rfl, by decide +kernel, by decide +kernel⟩
theorem val_ix2 {σ : L2.St} {H : Hp} {te : TE} {a b : Addr} {xs ys : List V} {i j : Int} {v : V} (h : Val te σ H (.ref a)) (ha : H a = some (.tup xs)) (hi : atI xs i = some (.ref b)) (hb : H b = some (.tup ys)) (hj : atI ys j = some v) :
    Val (tOp (rIxT K) (tOp (rIxT K) te (tC (.int i))) (tC (.int j))) σ H v :=
  val_op (val_op h val_c fun _ q => ⟨_, _, _, _, rfl, rfl, SqT.of ha, hi, q⟩) val_c fun _ q => ⟨_, _, _, _, rfl, rfl, SqT.of hb, hj, q⟩
theorem ok_sense {f : Addr} {fd : FuncData} (F : Fun K "_law_sense" "_law_sense" sSense f fd) : FnOk P w K mg base CX0 1 f fd ["frame"] spSense := by
  refine F.ok scSense (fun vs H Q E h => ?_) (fun cdv A outer s H vs Q E hr h => ?_)
  · obtain ⟨a, s, o, t, φ, rfl, _⟩ := h
    rfl
  · obtain ⟨a, s, o, t, φ, rfl, ha, k⟩ := h
    refine ⟨_, pss_one (ps_ret (pe_ifExp (pt_cmpR op_gt (pe_op op_mulW (pe_ix ix_tup (pe_ix ix_tup (pv 0) pe_int (fun _ _ => rfl)) pe_int (fun _ _ => rfl)) (pe_ix ix_tup (pe_ix ix_tup (pv 0) pe_int (fun _ _ => rfl)) pe_int (fun _ _ => rfl))) (pe_op op_mulW (pe_ix ix_tup (pe_ix ix_tup (pv 0) pe_int (fun _ _ => rfl)) pe_int (fun _ _ => rfl)) (pe_ix ix_tup (pe_ix ix_tup (pv 0) pe_int (fun _ _ => rfl)) pe_int (fun _ _ => rfl))) (nomark _)) pe_int (pe_un un_neg pe_int))), ?_⟩
    have x0 : ∀ {n : Int} {i : Int}, atI [V.int φ.o0, V.int φ.o1] i = some (.int n) → Bd 100 n → VI 100 (tOp (rIxT K) (tOp (rIxT K) (tVar 0) (tC (.int 1))) (tC (.int i))) (L2.start ["frame"] [.ref a]) H n := fun hi hb => ⟨val_ix2 (val_var rfl) ha.a rfl ha.o hi, hb⟩
    have x1 : ∀ {n : Int} {i : Int}, atI [V.int φ.t0, V.int φ.t1] i = some (.int n) → Bd 100 n → VI 100 (tOp (rIxT K) (tOp (rIxT K) (tVar 0) (tC (.int 2))) (tC (.int i))) (L2.start ["frame"] [.ref a]) H n := fun hi hb => ⟨val_ix2 (val_var rfl) ha.a rfl ha.t hi, hb⟩
    have an := ans_i (g := fun i j => V.bl (decide (j < i))) (VI.mul (x0 (i := 0) rfl ha.b.o0) (x1 (i := 1) rfl ha.b.t1)).v (VI.mul (x0 (i := 1) rfl ha.b.o1) (x1 (i := 0) rfl ha.b.t0)).v rfl
    refine an _ ?_
    unfold sense at k
    refine ite2 (fun c => ?_) (fun c => ?_)
    · rw [if_pos (of_decide_eq_true c)] at k
      exact k
    · rw [if_neg (no_dec c)] at k
      exact ⟨_, rfl, k⟩
theorem scSpot : FnScope ["frame", "part", "other", "over", "spot", "one", "two", "x", "y"] ["frame", "part", "other", "over"] (defScope sSpot) := ⟨rfl, rfl, rfl, by decide +kernel, rfl, by decide +kernel, by decide +kernel⟩
end
end Q
set_option Elab.async false
set_option linter.all false
set_option maxRecDepth 100000
set_option maxHeartbeats 2000000
namespace PM
theorem sgn_mul (m n : Int) : sgn (m * n) = sgn m * sgn n := by
  unfold sgn
  rcases Int.lt_trichotomy m 0 with c | c | c
  · rcases Int.lt_trichotomy n 0 with d | d | d
    · have := Int.mul_pos_of_neg_of_neg c d
      rw [if_pos this, if_neg (by omega), if_pos c, if_neg (by omega), if_pos d]; rfl
    · subst d; simp
    · have := Int.mul_neg_of_neg_of_pos c d
      rw [if_neg (by omega), if_pos this, if_neg (by omega), if_pos c, if_pos d]; rfl
  · subst c; simp
  · rcases Int.lt_trichotomy n 0 with d | d | d
    · have := Int.mul_neg_of_pos_of_neg c d
      rw [if_neg (by omega), if_pos this, if_pos c, if_neg (by omega), if_pos d]; rfl
    · subst d; simp
    · have := Int.mul_pos c d
      rw [if_pos this, if_pos c, if_pos d]; rfl
theorem sgn_neg (n : Int) : sgn (-n) = - sgn n := by
  have := sgn_mul (-1) n
  rw [Int.neg_one_mul] at this
  rw [this]
  show -1 * sgn n = _
  rw [Int.neg_one_mul]
theorem sgn_zero {n : Int} : sgn n = 0 ↔ n = 0 := by
  unfold sgn
  constructor
  · intro h
    split at h
    · omega
    · split at h <;> omega
  · intro h; subst h; rfl
theorem det_cyc (p q r : P3) : det q r p = det p q r := by simp only [det, dot, cr]; grind
theorem det_swap (p q r : P3) : det q p r = -det p q r := by simp only [det, dot, cr]; grind
theorem det_s1 (p q : P3) : det p p q = 0 := by simp only [det, dot, cr]; grind
theorem det_s2 (p q : P3) : det p q p = 0 := by simp only [det, dot, cr]; grind
theorem det_swap2 (p q r : P3) : det p r q = -det p q r := by simp only [det, dot, cr]; grind
theorem det_swap3 (p q r : P3) : det r q p = -det p q r := by simp only [det, dot, cr]; grind
theorem spot_Of {φ : Fr} (hw : 1 ≤ φ.W) (a b v : Int) (hv : 1 ≤ v) : Of (spot φ a b v) (spX φ a b v) (spY φ a b v) (φ.W * v) := by
  have : 0 < φ.W * v := Int.mul_pos (by omega) (by omega)
  exact low_of (by omega)
theorem spot_Pt {φ : Fr} (hw : 1 ≤ φ.W) (a b v : Int) (hv : 1 ≤ v) : Pt (spot φ a b v) := low_pt (Int.mul_pos (by omega) (by omega))
theorem det_raw (φ : Fr) (a b c d e f v : Int) : det ⟨spX φ a b v, spY φ a b v, φ.W * v⟩ ⟨spX φ c d v, spY φ c d v, φ.W * v⟩ ⟨spX φ e f v, spY φ e f v, φ.W * v⟩ =
    (φ.W * v * (φ.W * φ.W)) * (((c - a) * (f - b) - (d - b) * (e - a)) * φ.k) := by
  simp only [det, dot, cr, spX, spY, Fr.k]; grind
theorem det_of {p q r : P3} {x1 y1 w1 x2 y2 w2 x3 y3 w3 : Int} (h1 : Of p x1 y1 w1) (h2 : Of q x2 y2 w2) (h3 : Of r x3 y3 w3) : ∃ g : Int, 0 < g ∧ det ⟨x1, y1, w1⟩ ⟨x2, y2, w2⟩ ⟨x3, y3, w3⟩ = g * det p q r := by
  obtain ⟨a, a0, rfl, rfl, rfl⟩ := h1
  obtain ⟨b, b0, rfl, rfl, rfl⟩ := h2
  obtain ⟨c, c0, rfl, rfl, rfl⟩ := h3
  refine ⟨a * b * c, Int.mul_pos (Int.mul_pos a0 b0) c0, ?_⟩
  simp only [det, dot, cr]; grind
theorem sense_sgn {φ : Fr} (h : φ.k ≠ 0) : sense φ = sgn φ.k := by
  unfold sense sgn
  unfold Fr.k at *
  split
  · rw [if_pos (by omega)]
  · rw [if_neg (by omega), if_pos (by omega)]
theorem sgn_det {φ : Fr} (hw : 1 ≤ φ.W) (hk : φ.k ≠ 0) (a b c d e f v : Int) (hv : 1 ≤ v) : sgn (det (spot φ a b v) (spot φ c d v) (spot φ e f v)) = sgn ((c - a) * (f - b) - (d - b) * (e - a)) * sense φ := by
  obtain ⟨g, g0, hg⟩ := det_of (spot_Of hw a b v hv) (spot_Of hw c d v hv) (spot_Of hw e f v hv)
  rw [det_raw] at hg
  have z := sgn_mul_pos (n := det (spot φ a b v) (spot φ c d v) (spot φ e f v)) g0
  have w0 : 0 < φ.W * v * (φ.W * φ.W) := Int.mul_pos (Int.mul_pos (by omega) (by omega)) (Int.mul_pos (by omega) (by omega))
  rw [← hg, sgn_mul_pos w0, sgn_mul, ← sense_sgn hk] at z
  exact z.symm
end PM
namespace PM
theorem lowS_pos {x y w : Int} (h : 0 < w) : lowS x y w = low x y w := by
  unfold lowS
  rw [if_neg (by omega)]
/-- raw points -/
def bet (p q r : P3) : Bool := if sgn (det q r p) ≠ 0 then false else decide (dx p q * dx p r + dy p q * dy p r ≤ 0)
theorem mul_le0 {g n : Int} (h : 0 < g) : g * n ≤ 0 ↔ n ≤ 0 := by
  constructor
  · intro z
    by_cases c : n ≤ 0
    · exact c
    · have := Int.mul_pos h (by omega : 0 < n)
      omega
  · intro z
    exact Int.mul_nonpos_of_nonneg_of_nonpos (by omega) z
theorem between_of {p q r : P3} {x1 y1 w1 x2 y2 w2 x3 y3 w3 : Int} (hp : Pt p) (hq : Pt q) (hr : Pt r) (h1 : Of p x1 y1 w1) (h2 : Of q x2 y2 w2) (h3 : Of r x3 y3 w3) : between p q r = bet ⟨x1, y1, w1⟩ ⟨x2, y2, w2⟩ ⟨x3, y3, w3⟩ := by
  obtain ⟨g, g0, hg⟩ := det_of h2 h3 h1
  obtain ⟨a, a0, rfl, rfl, rfl⟩ := h1
  obtain ⟨b, b0, rfl, rfl, rfl⟩ := h2
  obtain ⟨c, c0, rfl, rfl, rfl⟩ := h3
  unfold between bet
  rw [hg, sgn_mul_pos g0]
  have e : dx ⟨a * p.x, a * p.y, a * p.w⟩ ⟨b * q.x, b * q.y, b * q.w⟩ * dx ⟨a * p.x, a * p.y, a * p.w⟩ ⟨c * r.x, c * r.y, c * r.w⟩ + dy ⟨a * p.x, a * p.y, a * p.w⟩ ⟨b * q.x, b * q.y, b * q.w⟩ * dy ⟨a * p.x, a * p.y, a * p.w⟩ ⟨c * r.x, c * r.y, c * r.w⟩ =
      (a * b * (a * c)) * (dx p q * dx p r + dy p q * dy p r) := by
    simp only [dx, dy]; grind
  rw [e]
  have k : 0 < a * b * (a * c) := Int.mul_pos (Int.mul_pos a0 b0) (Int.mul_pos a0 c0)
  have z := mul_le0 (n := dx p q * dx p r + dy p q * dy p r) k
  split
  · rfl
  · exact decide_eq_decide.mpr z.symm
def raw (φ : Fr) (a b v : Int) : P3 := ⟨spX φ a b v, spY φ a b v, φ.W * v⟩
theorem between_spot {φ : Fr} (hw : 1 ≤ φ.W) {a b c d e f u v t : Int} (hu : 1 ≤ u) (hv : 1 ≤ v) (ht : 1 ≤ t) : between (spot φ a b u) (spot φ c d v) (spot φ e f t) = bet (raw φ a b u) (raw φ c d v) (raw φ e f t) :=
  between_of (spot_Pt hw a b u hu) (spot_Pt hw c d v hv) (spot_Pt hw e f t ht) (spot_Of hw a b u hu) (spot_Of hw c d v hv) (spot_Of hw e f t ht)
theorem sq_nn (x : Int) : 0 ≤ x * x := by
  rcases Int.le_total 0 x with h | h
  · exact Int.mul_nonneg h h
  · exact Int.mul_nonneg_of_nonpos_of_nonpos h h
theorem sq_p {x : Int} (h : x ≠ 0) : 0 < x * x := by
  rcases Int.lt_or_gt_of_ne h with c | c
  · exact Int.mul_pos_of_neg_of_neg c c
  · exact Int.mul_pos c c
theorem o_pos {φ : Fr} (h : φ.k ≠ 0) : 0 < φ.o0 * φ.o0 + φ.o1 * φ.o1 := by
  by_cases c : φ.o0 = 0
  · by_cases d : φ.o1 = 0
    · exact absurd (by unfold Fr.k; rw [c, d]; simp) h
    · have := sq_p d
      have := sq_nn φ.o0
      omega
  · have := sq_p c
    have := sq_nn φ.o1
    omega
theorem bet_zero {p q r : P3} (h : det q r p = 0) : bet p q r = decide (dx p q * dx p r + dy p q * dy p r ≤ 0) := by
  unfold bet
  rw [h, if_neg (by simp [sgn])]
theorem mm (a b c : Int) : (a - c) * (b - c) ≤ 0 ↔ min a b ≤ c ∧ c ≤ max a b := by
  constructor
  · intro h
    by_cases h1 : 0 < a - c
    · by_cases h2 : 0 < b - c
      · have := Int.mul_pos h1 h2
        omega
      · omega
    · by_cases h2 : b - c < 0
      · by_cases h3 : a - c < 0
        · have := Int.mul_pos_of_neg_of_neg h3 h2
          omega
        · omega
      · omega
  · rintro ⟨h1, h2⟩
    rcases Int.le_total a b with h | h
    · exact Int.mul_nonpos_of_nonpos_of_nonneg (by omega) (by omega)
    · exact Int.mul_nonpos_of_nonneg_of_nonpos (by omega) (by omega)
theorem bet_line {φ : Fr} (hw : 1 ≤ φ.W) (hk : φ.k ≠ 0) {a b c v : Int} (hv : 1 ≤ v) : between (spot φ c 0 v) (spot φ a 0 v) (spot φ b 0 v) = decide (min a b ≤ c ∧ c ≤ max a b) := by
  rw [between_spot hw hv hv hv, bet_zero (by simp only [det, dot, cr, raw, spX, spY]; grind)]
  refine decide_eq_decide.mpr ?_
  rw [← mm]
  have e : dx (raw φ c 0 v) (raw φ a 0 v) * dx (raw φ c 0 v) (raw φ b 0 v) + dy (raw φ c 0 v) (raw φ a 0 v) * dy (raw φ c 0 v) (raw φ b 0 v) =
      (φ.W * v * φ.W * (φ.W * v * φ.W) * (φ.o0 * φ.o0 + φ.o1 * φ.o1)) * ((a - c) * (b - c)) := by
    simp only [dx, dy, raw, spX, spY]; grind
  rw [e]
  have w1 : 0 < φ.W * v * φ.W := Int.mul_pos (Int.mul_pos (by omega) (by omega)) (by omega)
  exact mul_le0 (Int.mul_pos (Int.mul_pos w1 w1) (o_pos hk))
theorem bet_side {φ : Fr} (hw : 1 ≤ φ.W) (hk : φ.k ≠ 0) {a b c s v : Int} (hv : 1 ≤ v) (hs : s ≠ 0) : between (spot φ c s v) (spot φ a 0 v) (spot φ b 0 v) = false := by
  rw [between_spot hw hv hv hv]
  have w1 : 0 < φ.W * v * φ.W := Int.mul_pos (Int.mul_pos (by omega) (by omega)) (by omega)
  by_cases h : a = b
  · subst h
    rw [bet_zero (by simp only [det, dot, cr, raw, spX, spY]; grind)]
    refine decide_eq_false fun z => ?_
    have e : dx (raw φ c s v) (raw φ a 0 v) * dx (raw φ c s v) (raw φ a 0 v) + dy (raw φ c s v) (raw φ a 0 v) * dy (raw φ c s v) (raw φ a 0 v) =
        (φ.W * v * φ.W * (φ.W * v * φ.W)) * (((a - c) * φ.o0 - s * φ.t0) * ((a - c) * φ.o0 - s * φ.t0) + ((a - c) * φ.o1 - s * φ.t1) * ((a - c) * φ.o1 - s * φ.t1)) := by
      simp only [dx, dy, raw, spX, spY]; grind
    rw [e, mul_le0 (Int.mul_pos w1 w1)] at z
    have n1 := sq_nn ((a - c) * φ.o0 - s * φ.t0)
    have n2 := sq_nn ((a - c) * φ.o1 - s * φ.t1)
    have z1 : (a - c) * φ.o0 - s * φ.t0 = 0 := by
      by_cases q : (a - c) * φ.o0 - s * φ.t0 = 0
      · exact q
      · have := sq_p q
        omega
    have z2 : (a - c) * φ.o1 - s * φ.t1 = 0 := by
      by_cases q : (a - c) * φ.o1 - s * φ.t1 = 0
      · exact q
      · have := sq_p q
        omega
    have : s * φ.k = 0 := by unfold Fr.k; grind
    rcases Int.mul_eq_zero.mp this with q | q
    · exact hs q
    · exact hk q
  · have e : det (raw φ a 0 v) (raw φ b 0 v) (raw φ c s v) = (φ.W * v * (φ.W * φ.W)) * ((b - a) * s * φ.k) := by
      simp only [det, dot, cr, raw, spX, spY, Fr.k]; grind
    unfold bet
    rw [if_pos]
    intro z
    rw [sgn_zero, e] at z
    have w0 : φ.W * v * (φ.W * φ.W) ≠ 0 := by
      have := Int.mul_pos (Int.mul_pos (by omega : 0 < φ.W) (by omega : 0 < v)) (Int.mul_pos (by omega : 0 < φ.W) (by omega : 0 < φ.W))
      omega
    exact Int.mul_ne_zero w0 (Int.mul_ne_zero (Int.mul_ne_zero (by omega) hs) hk) z
theorem half_Of {p q : P3} (hp : Pt p) (hq : Pt q) {x1 y1 w1 x2 y2 w2 : Int} (h1 : Of p x1 y1 w1) (h2 : Of q x2 y2 w2) : Of (half p q) (x1 * w2 + x2 * w1) (y1 * w2 + y2 * w1) (2 * w1 * w2) ∧ Pt (half p q) := by
  have a := hp.w
  have b := hq.w
  have w0 : 0 < 2 * p.w * q.w := Int.mul_pos (by omega) (by omega)
  unfold half
  rw [lowS_pos w0]
  refine ⟨?_, low_pt w0⟩
  obtain ⟨g, g0, rfl, rfl, rfl⟩ := h1
  obtain ⟨k, k0, rfl, rfl, rfl⟩ := h2
  have z := of_scale (low_of (x := p.x * q.w + q.x * p.w) (y := p.y * q.w + q.y * p.w) (w := 2 * p.w * q.w) (by omega)) (Int.mul_pos g0 k0)
  have e1 : g * k * (p.x * q.w + q.x * p.w) = g * p.x * (k * q.w) + k * q.x * (g * p.w) := by grind
  have e2 : g * k * (p.y * q.w + q.y * p.w) = g * p.y * (k * q.w) + k * q.y * (g * p.w) := by grind
  have e3 : g * k * (2 * p.w * q.w) = 2 * (g * p.w) * (k * q.w) := by grind
  rw [e1, e2, e3] at z
  exact z
theorem half_spot {φ : Fr} (hw : 1 ≤ φ.W) {a b v : Int} (hv : 1 ≤ v) : half (spot φ a 0 v) (spot φ b 0 v) = spot φ (a + b) 0 (2 * v) := by
  obtain ⟨h1, h2⟩ := half_Of (spot_Pt hw a 0 v hv) (spot_Pt hw b 0 v hv) (spot_Of hw a 0 v hv) (spot_Of hw b 0 v hv)
  refine of_eq h2 (spot_Pt hw (a + b) 0 (2 * v) (by omega)) h1 (spot_Of hw (a + b) 0 (2 * v) (by omega)) ?_ ?_
  · simp only [spX]; grind
  · simp only [spY]; grind
theorem bet_half {φ : Fr} (hw : 1 ≤ φ.W) {a b v : Int} (hv : 1 ≤ v) : between (spot φ (a + b) 0 (2 * v)) (spot φ a 0 v) (spot φ b 0 v) = true := by
  rw [between_spot hw (by omega) hv hv, bet_zero (by simp only [det, dot, cr, raw, spX, spY]; grind)]
  refine decide_eq_true ?_
  have e : dx (raw φ (a + b) 0 (2 * v)) (raw φ a 0 v) * dx (raw φ (a + b) 0 (2 * v)) (raw φ b 0 v) + dy (raw φ (a + b) 0 (2 * v)) (raw φ a 0 v) * dy (raw φ (a + b) 0 (2 * v)) (raw φ b 0 v) =
      - ((φ.W * v * φ.W * (a - b) * φ.o0) * (φ.W * v * φ.W * (a - b) * φ.o0) + (φ.W * v * φ.W * (a - b) * φ.o1) * (φ.W * v * φ.W * (a - b) * φ.o1)) := by
    simp only [dx, dy, raw, spX, spY]; grind
  rw [e]
  have n1 := sq_nn (φ.W * v * φ.W * (a - b) * φ.o0)
  have n2 := sq_nn (φ.W * v * φ.W * (a - b) * φ.o1)
  omega
theorem bet_end (p r : P3) : between p p r = true := by
  unfold between
  rw [det_s2, if_neg (by simp [sgn])]
  refine decide_eq_true ?_
  have : dx p p * dx p r + dy p p * dy p r = 0 := by simp only [dx, dy]; grind
  omega
end PM
namespace PM
def lowp (t b : Int) : Int × Int := (t / ((Nat.gcd t.natAbs b.natAbs : Nat) : Int), b / ((Nat.gcd t.natAbs b.natAbs : Nat) : Int))
theorem g2_pos {t b : Int} (h : 0 < b) : 0 < ((Nat.gcd t.natAbs b.natAbs : Nat) : Int) := by
  have : 0 < Nat.gcd t.natAbs b.natAbs := Nat.gcd_pos_of_pos_right _ (by omega)
  omega
/-- a fraction in lowest terms is told by its worth -/
theorem lowp_eq {t b t' b' : Int} (h : 0 < b) (h' : 0 < b') (e : t * b' = t' * b) : lowp t b = lowp t' b' := by
  have p1 : low t 0 b = low t' 0 b' := of_eq (low_pt h) (low_pt h') (low_of (by omega)) (low_of (by omega)) e (by simp)
  have gg : ∀ t b : Int, gc t 0 b = ((Nat.gcd t.natAbs b.natAbs : Nat) : Int) := fun t b => by
    unfold gc
    simp
  unfold low at p1
  rw [gg, gg] at p1
  injection p1 with q1 q2 q3
  unfold lowp
  rw [q1, q3]
theorem dxy_of {p q : P3} {x1 y1 w1 x2 y2 w2 : Int} (h1 : Of p x1 y1 w1) (h2 : Of q x2 y2 w2) : ∃ g : Int, 0 < g ∧ dx ⟨x1, y1, w1⟩ ⟨x2, y2, w2⟩ = g * dx p q ∧ dy ⟨x1, y1, w1⟩ ⟨x2, y2, w2⟩ = g * dy p q ∧ w1 * w2 = g * (p.w * q.w) := by
  obtain ⟨a, a0, rfl, rfl, rfl⟩ := h1
  obtain ⟨b, b0, rfl, rfl, rfl⟩ := h2
  refine ⟨a * b, Int.mul_pos a0 b0, ?_, ?_, ?_⟩
  · simp only [dx]; grind
  · simp only [dy]; grind
  · grind
theorem sq_spot {φ : Fr} (hw : 1 ≤ φ.W) {a b c d v : Int} (hv : 1 ≤ v) :
    lowp (dx (spot φ a b v) (spot φ c d v) * dx (spot φ a b v) (spot φ c d v) + dy (spot φ a b v) (spot φ c d v) * dy (spot φ a b v) (spot φ c d v)) (((spot φ a b v).w * (spot φ c d v).w) ^ 2) =
    lowp (((a - c) * φ.o0 + (b - d) * φ.t0) * ((a - c) * φ.o0 + (b - d) * φ.t0) + ((a - c) * φ.o1 + (b - d) * φ.t1) * ((a - c) * φ.o1 + (b - d) * φ.t1)) (v * v) := by
  obtain ⟨g, g0, e1, e2, e3⟩ := dxy_of (spot_Of hw a b v hv) (spot_Of hw c d v hv)
  have w1 := (spot_Pt hw a b v hv).w
  have w2 := (spot_Pt hw c d v hv).w
  have f1 : dx ⟨spX φ a b v, spY φ a b v, φ.W * v⟩ ⟨spX φ c d v, spY φ c d v, φ.W * v⟩ = - (φ.W * v * φ.W * ((a - c) * φ.o0 + (b - d) * φ.t0)) := by simp only [dx, spX]; grind
  have f2 : dy ⟨spX φ a b v, spY φ a b v, φ.W * v⟩ ⟨spX φ c d v, spY φ c d v, φ.W * v⟩ = - (φ.W * v * φ.W * ((a - c) * φ.o1 + (b - d) * φ.t1)) := by simp only [dy, spY]; grind
  rw [f1] at e1
  rw [f2] at e2
  generalize dx (spot φ a b v) (spot φ c d v) = X at e1 ⊢
  generalize dy (spot φ a b v) (spot φ c d v) = Y at e2 ⊢
  have pw : ((spot φ a b v).w * (spot φ c d v).w) ^ 2 = ((spot φ a b v).w * (spot φ c d v).w) * ((spot φ a b v).w * (spot φ c d v).w) := by grind
  rw [pw]
  have pp : 0 < (spot φ a b v).w * (spot φ c d v).w := Int.mul_pos (by omega) (by omega)
  generalize (spot φ a b v).w * (spot φ c d v).w = Z at e3 pp ⊢
  refine lowp_eq (Int.mul_pos pp pp) (Int.mul_pos (by omega) (by omega)) ?_
  have gg : g * g ≠ 0 := Int.mul_ne_zero (by omega) (by omega)
  apply Int.eq_of_mul_eq_mul_left gg
  generalize (a - c) * φ.o0 + (b - d) * φ.t0 = x at *
  generalize (a - c) * φ.o1 + (b - d) * φ.t1 = y at *
  have h1 : g * g * ((X * X + Y * Y) * (v * v)) = ((g * X) * (g * X) + (g * Y) * (g * Y)) * (v * v) := by grind
  have h2 : g * g * ((x * x + y * y) * (Z * Z)) = (x * x + y * y) * ((g * Z) * (g * Z)) := by grind
  rw [h1, h2, ← e1, ← e2, ← e3]
  grind
/-- lines -/
theorem cr_of {p q : P3} {x1 y1 w1 x2 y2 w2 : Int} (hp : Pt p) (hq : Pt q) (hn : p ≠ q) (h1 : Of p x1 y1 w1) (h2 : Of q x2 y2 w2) : ∃ g : Int, 0 < g ∧ (cr ⟨x1, y1, w1⟩ ⟨x2, y2, w2⟩).x = g * (lineOf p q).x ∧ (cr ⟨x1, y1, w1⟩ ⟨x2, y2, w2⟩).y = g * (lineOf p q).y ∧ (cr ⟨x1, y1, w1⟩ ⟨x2, y2, w2⟩).w = g * (lineOf p q).w := by
  obtain ⟨a, a0, rfl, rfl, rfl⟩ := h1
  obtain ⟨b, b0, rfl, rfl, rfl⟩ := h2
  have c0 := gc_pos' (cr_ne hp hq hn)
  obtain ⟨d1, d2, d3⟩ := gc_dvd (cr p q).x (cr p q).y (cr p q).w
  refine ⟨a * b * gc (cr p q).x (cr p q).y (cr p q).w, Int.mul_pos (Int.mul_pos a0 b0) c0, ?_, ?_, ?_⟩
  · have e := Int.mul_ediv_cancel' d1
    show _ = a * b * gc (cr p q).x (cr p q).y (cr p q).w * ((cr p q).x / gc (cr p q).x (cr p q).y (cr p q).w)
    rw [Int.mul_assoc, e]
    simp only [cr]; grind
  · have e := Int.mul_ediv_cancel' d2
    show _ = a * b * gc (cr p q).x (cr p q).y (cr p q).w * ((cr p q).y / gc (cr p q).x (cr p q).y (cr p q).w)
    rw [Int.mul_assoc, e]
    simp only [cr]; grind
  · have e := Int.mul_ediv_cancel' d3
    show _ = a * b * gc (cr p q).x (cr p q).y (cr p q).w * ((cr p q).w / gc (cr p q).x (cr p q).y (cr p q).w)
    rw [Int.mul_assoc, e]
    simp only [cr]; grind
theorem meet_of {p q r s : P3} {P Q R S : P3} (hp : Pt p) (hq : Pt q) (hr : Pt r) (hs : Pt s) (hn : p ≠ q) (hm : r ≠ s) (h1 : Of p P.x P.y P.w) (h2 : Of q Q.x Q.y Q.w) (h3 : Of r R.x R.y R.w) (h4 : Of s S.x S.y S.w) :
    ∃ g : Int, 0 < g ∧ (cr (cr P Q) (cr R S)).x = g * (cr (lineOf p q) (lineOf r s)).x ∧ (cr (cr P Q) (cr R S)).y = g * (cr (lineOf p q) (lineOf r s)).y ∧ (cr (cr P Q) (cr R S)).w = g * (cr (lineOf p q) (lineOf r s)).w := by
  obtain ⟨a, a0, e1, e2, e3⟩ := cr_of hp hq hn h1 h2
  obtain ⟨b, b0, f1, f2, f3⟩ := cr_of hr hs hm h3 h4
  have z : ∀ l m : P3, (cr l m).x = l.y * m.w - l.w * m.y ∧ (cr l m).y = l.w * m.x - l.x * m.w ∧ (cr l m).w = l.x * m.y - l.y * m.x := fun l m => ⟨rfl, rfl, rfl⟩
  refine ⟨a * b, Int.mul_pos a0 b0, ?_, ?_, ?_⟩
  · rw [(z (cr P Q) (cr R S)).1, (z (lineOf p q) (lineOf r s)).1]
    have e2' : (cr P Q).y = a * (lineOf p q).y := e2
    have e3' : (cr P Q).w = a * (lineOf p q).w := e3
    have f2' : (cr R S).y = b * (lineOf r s).y := f2
    have f3' : (cr R S).w = b * (lineOf r s).w := f3
    rw [e2', e3', f2', f3']; grind
  · rw [(z (cr P Q) (cr R S)).2.1, (z (lineOf p q) (lineOf r s)).2.1]
    have e1' : (cr P Q).x = a * (lineOf p q).x := e1
    have e3' : (cr P Q).w = a * (lineOf p q).w := e3
    have f1' : (cr R S).x = b * (lineOf r s).x := f1
    have f3' : (cr R S).w = b * (lineOf r s).w := f3
    rw [e1', e3', f1', f3']; grind
  · rw [(z (cr P Q) (cr R S)).2.2, (z (lineOf p q) (lineOf r s)).2.2]
    have e1' : (cr P Q).x = a * (lineOf p q).x := e1
    have e2' : (cr P Q).y = a * (lineOf p q).y := e2
    have f1' : (cr R S).x = b * (lineOf r s).x := f1
    have f2' : (cr R S).y = b * (lineOf r s).y := f2
    rw [e1', e2', f1', f2']; grind
theorem lowS_Of {x y w : Int} (h : w ≠ 0) : Pt (lowS x y w) ∧ ∃ g : Int, g ≠ 0 ∧ x = g * (lowS x y w).x ∧ y = g * (lowS x y w).y ∧ w = g * (lowS x y w).w := by
  unfold lowS
  split
  · rename_i c
    obtain ⟨g, g0, e1, e2, e3⟩ := low_of (x := -x) (y := -y) (w := -w) (by omega)
    refine ⟨low_pt (by omega), -g, by omega, ?_, ?_, ?_⟩
    · rw [Int.neg_mul, ← e1, Int.neg_neg]
    · rw [Int.neg_mul, ← e2, Int.neg_neg]
    · rw [Int.neg_mul, ← e3, Int.neg_neg]
  · obtain ⟨g, g0, e1, e2, e3⟩ := low_of (x := x) (y := y) h
    exact ⟨low_pt (by omega), g, by omega, e1, e2, e3⟩
/-- what is proportional, by any sign, to a place is told as that place -/
theorem lowS_place {x y w X Y W : Int} (h : w ≠ 0) (hW : 0 < W) (e1 : x * W = X * w) (e2 : y * W = Y * w) : lowS x y w = low X Y W := by
  obtain ⟨hp, g, g0, a1, a2, a3⟩ := lowS_Of (x := x) (y := y) h
  obtain ⟨k, k0, b1, b2, b3⟩ := low_of (x := X) (y := Y) (w := W) (by omega)
  refine pt_eq hp (low_pt hW) ?_ ?_
  · have gk : g * k ≠ 0 := Int.mul_ne_zero g0 (by omega)
    apply Int.eq_of_mul_eq_mul_left gk
    generalize lowS x y w = p at *
    generalize low X Y W = q at *
    subst a1 a2 a3 b1 b2 b3
    grind
  · have gk : g * k ≠ 0 := Int.mul_ne_zero g0 (by omega)
    apply Int.eq_of_mul_eq_mul_left gk
    generalize lowS x y w = p at *
    generalize low X Y W = q at *
    subst a1 a2 a3 b1 b2 b3
    grind
theorem spot_inj {φ : Fr} (hw : 1 ≤ φ.W) (hk : φ.k ≠ 0) {a b c d v : Int} (hv : 1 ≤ v) (h : spot φ a b v = spot φ c d v) : a = c ∧ b = d := by
  have o1 := spot_Of hw a b v hv
  have o2 := spot_Of hw c d v hv
  rw [h] at o1
  obtain ⟨e1, e2⟩ := of_same o1 o2
  have w0 : φ.W * v * φ.W ≠ 0 := by
    have := Int.mul_pos (Int.mul_pos (by omega : 0 < φ.W) (by omega : 0 < v)) (by omega : 0 < φ.W)
    omega
  have z1 : φ.W * v * φ.W * ((a - c) * φ.o0 + (b - d) * φ.t0) = 0 := by simp only [spX] at e1; grind
  have z2 : φ.W * v * φ.W * ((a - c) * φ.o1 + (b - d) * φ.t1) = 0 := by simp only [spY] at e2; grind
  have y1 := (Int.mul_eq_zero.mp z1).resolve_left w0
  have y2 := (Int.mul_eq_zero.mp z2).resolve_left w0
  have k1 : (a - c) * φ.k = 0 := by unfold Fr.k; grind
  have k2 : (b - d) * φ.k = 0 := by unfold Fr.k; grind
  have := (Int.mul_eq_zero.mp k1).resolve_right hk
  have := (Int.mul_eq_zero.mp k2).resolve_right hk
  omega
def mt (p q r s : P3) : P3 := cr (lineOf p q) (lineOf r s)
def mts (p q r s : P3) : P3 := lowS (mt p q r s).x (mt p q r s).y (mt p q r s).w
theorem ne_spot {φ : Fr} (hw : 1 ≤ φ.W) (hk : φ.k ≠ 0) {a b c d v : Int} (hv : 1 ≤ v) (h : a ≠ c ∨ b ≠ d) : spot φ a b v ≠ spot φ c d v := fun z => by
  have := spot_inj hw hk hv z
  omega
theorem place {φ : Fr} (hw : 1 ≤ φ.W) {m : P3} {g L x y w : Int} (g0 : 0 < g) (hL : L ≠ 0) (e1 : x = g * m.x) (e2 : y = g * m.y) (e3 : w = g * m.w) (f1 : x = L * φ.X) (f2 : y = L * φ.Y) (f3 : w = L * φ.W) : m.w ≠ 0 ∧ lowS m.x m.y m.w = spot φ 0 0 1 := by
  have w0 : m.w ≠ 0 := by
    intro z
    rw [z, Int.mul_zero] at e3
    rw [e3] at f3
    exact Int.mul_ne_zero hL (by omega) f3.symm
  refine ⟨w0, ?_⟩
  have s1 : spot φ 0 0 1 = low φ.X φ.Y φ.W := by
    unfold spot spX spY
    simp
  rw [s1]
  refine lowS_place w0 (by omega) ?_ ?_
  · apply Int.eq_of_mul_eq_mul_left (show g ≠ 0 by omega)
    have h1 : g * (m.x * φ.W) = (g * m.x) * φ.W := by grind
    have h2 : g * (φ.X * m.w) = φ.X * (g * m.w) := by grind
    rw [h1, h2, ← e1, ← e3, f1, f3]; grind
  · apply Int.eq_of_mul_eq_mul_left (show g ≠ 0 by omega)
    have h1 : g * (m.y * φ.W) = (g * m.y) * φ.W := by grind
    have h2 : g * (φ.Y * m.w) = φ.Y * (g * m.w) := by grind
    rw [h1, h2, ← e2, ← e3, f2, f3]; grind
end PM
namespace PM
def Lm (φ : Fr) (a b c d v : Int) : Int := φ.W * v * (φ.W * φ.W) * (b - a) * (d - c) * φ.k * v
theorem Lm_ne {φ : Fr} (hw : 1 ≤ φ.W) (hk : φ.k ≠ 0) {a b c d v : Int} (hv : 1 ≤ v) (h1 : a ≠ b) (h2 : c ≠ d) : Lm φ a b c d v ≠ 0 := by
  unfold Lm
  have w0 : φ.W * v * (φ.W * φ.W) ≠ 0 := by
    have := Int.mul_pos (Int.mul_pos (by omega : 0 < φ.W) (by omega : 0 < v)) (Int.mul_pos (by omega : 0 < φ.W) (by omega : 0 < φ.W))
    omega
  exact Int.mul_ne_zero (Int.mul_ne_zero (Int.mul_ne_zero (Int.mul_ne_zero w0 (by omega)) (by omega)) hk) (by omega)
theorem raw_of {φ : Fr} (hw : 1 ≤ φ.W) (a b v : Int) (hv : 1 ≤ v) : Of (spot φ a b v) (raw φ a b v).x (raw φ a b v).y (raw φ a b v).w := spot_Of hw a b v hv
theorem cross4 (φ : Fr) (a b c d v : Int) : cr (cr (raw φ a 0 v) (raw φ b 0 v)) (cr (raw φ 0 c v) (raw φ 0 d v)) = ⟨Lm φ a b c d v * φ.X, Lm φ a b c d v * φ.Y, Lm φ a b c d v * φ.W⟩ := by
  simp only [cr, raw, spX, spY, Lm, Fr.k, P3.mk.injEq]
  refine ⟨?_, ?_, ?_⟩ <;> grind
theorem cr_anti (p q : P3) : cr q p = ⟨-(cr p q).x, -(cr p q).y, -(cr p q).w⟩ := by
  simp only [cr, P3.mk.injEq]
  refine ⟨?_, ?_, ?_⟩ <;> grind
theorem cross4b (φ : Fr) (a b c d v : Int) : cr (cr (raw φ 0 d v) (raw φ 0 c v)) (cr (raw φ b 0 v) (raw φ a 0 v)) = ⟨-Lm φ a b c d v * φ.X, -Lm φ a b c d v * φ.Y, -Lm φ a b c d v * φ.W⟩ := by
  have z := cross4 φ a b c d v
  have y : cr (cr (raw φ 0 d v) (raw φ 0 c v)) (cr (raw φ b 0 v) (raw φ a 0 v)) = cr (cr (raw φ 0 c v) (raw φ 0 d v)) (cr (raw φ a 0 v) (raw φ b 0 v)) := by
    rw [cr_anti (raw φ 0 c v), cr_anti (raw φ a 0 v)]
    generalize cr (raw φ 0 c v) (raw φ 0 d v) = l
    generalize cr (raw φ a 0 v) (raw φ b 0 v) = m
    simp only [cr, P3.mk.injEq]
    refine ⟨?_, ?_, ?_⟩ <;> grind
  rw [y, cr_anti, z]
  simp only [P3.mk.injEq, Int.neg_mul, true_and]
theorem meet_spot {φ : Fr} (hw : 1 ≤ φ.W) (hk : φ.k ≠ 0) {a b c d v : Int} (hv : 1 ≤ v) (h1 : a ≠ b) (h2 : c ≠ d) :
    (mt (spot φ a 0 v) (spot φ b 0 v) (spot φ 0 c v) (spot φ 0 d v)).w ≠ 0 ∧ mts (spot φ a 0 v) (spot φ b 0 v) (spot φ 0 c v) (spot φ 0 d v) = spot φ 0 0 1 := by
  obtain ⟨g, g0, e1, e2, e3⟩ := meet_of (spot_Pt hw a 0 v hv) (spot_Pt hw b 0 v hv) (spot_Pt hw 0 c v hv) (spot_Pt hw 0 d v hv) (ne_spot hw hk hv (.inl h1)) (ne_spot hw hk hv (.inr h2)) (raw_of hw a 0 v hv) (raw_of hw b 0 v hv) (raw_of hw 0 c v hv) (raw_of hw 0 d v hv)
  rw [cross4] at e1 e2 e3
  exact place hw g0 (Lm_ne hw hk hv h1 h2) e1 e2 e3 rfl rfl rfl
theorem meet_spotb {φ : Fr} (hw : 1 ≤ φ.W) (hk : φ.k ≠ 0) {a b c d v : Int} (hv : 1 ≤ v) (h1 : a ≠ b) (h2 : c ≠ d) :
    (mt (spot φ 0 d v) (spot φ 0 c v) (spot φ b 0 v) (spot φ a 0 v)).w ≠ 0 ∧ mts (spot φ 0 d v) (spot φ 0 c v) (spot φ b 0 v) (spot φ a 0 v) = spot φ 0 0 1 := by
  obtain ⟨g, g0, e1, e2, e3⟩ := meet_of (spot_Pt hw 0 d v hv) (spot_Pt hw 0 c v hv) (spot_Pt hw b 0 v hv) (spot_Pt hw a 0 v hv) (ne_spot hw hk hv (.inr h2.symm)) (ne_spot hw hk hv (.inl h1.symm)) (raw_of hw 0 d v hv) (raw_of hw 0 c v hv) (raw_of hw b 0 v hv) (raw_of hw a 0 v hv)
  rw [cross4b] at e1 e2 e3
  exact place hw g0 (show -Lm φ a b c d v ≠ 0 by have := Lm_ne hw hk hv h1 h2; omega) e1 e2 e3 rfl rfl rfl
theorem meet_par {φ : Fr} (hw : 1 ≤ φ.W) (hk : φ.k ≠ 0) {a b c v : Int} (hv : 1 ≤ v) (h1 : a ≠ b) : (mt (spot φ a 0 v) (spot φ b 0 v) (spot φ a c v) (spot φ b c v)).w = 0 := by
  obtain ⟨g, g0, _, _, e3⟩ := meet_of (spot_Pt hw a 0 v hv) (spot_Pt hw b 0 v hv) (spot_Pt hw a c v hv) (spot_Pt hw b c v hv) (ne_spot hw hk hv (.inl h1)) (ne_spot hw hk hv (.inl h1)) (raw_of hw a 0 v hv) (raw_of hw b 0 v hv) (raw_of hw a c v hv) (raw_of hw b c v hv)
  have z : (cr (cr (raw φ a 0 v) (raw φ b 0 v)) (cr (raw φ a c v) (raw φ b c v))).w = 0 := by
    simp only [cr, raw, spX, spY]; grind
  rw [z] at e3
  exact (Int.mul_eq_zero.mp e3.symm).resolve_left (by omega)
theorem meet_same {φ : Fr} (hw : 1 ≤ φ.W) (hk : φ.k ≠ 0) {a b v : Int} (hv : 1 ≤ v) (h1 : a ≠ b) : (mt (spot φ a 0 v) (spot φ b 0 v) (spot φ b 0 v) (spot φ a 0 v)).w = 0 := by
  obtain ⟨g, g0, _, _, e3⟩ := meet_of (spot_Pt hw a 0 v hv) (spot_Pt hw b 0 v hv) (spot_Pt hw b 0 v hv) (spot_Pt hw a 0 v hv) (ne_spot hw hk hv (.inl h1)) (ne_spot hw hk hv (.inl h1.symm)) (raw_of hw a 0 v hv) (raw_of hw b 0 v hv) (raw_of hw b 0 v hv) (raw_of hw a 0 v hv)
  have z : (cr (cr (raw φ a 0 v) (raw φ b 0 v)) (cr (raw φ b 0 v) (raw φ a 0 v))).w = 0 := by
    simp only [cr, raw, spX, spY]; grind
  rw [z] at e3
  exact (Int.mul_eq_zero.mp e3.symm).resolve_left (by omega)
end PM
set_option Elab.async false
set_option linter.all false
set_option maxRecDepth 100000
set_option maxHeartbeats 2000000
namespace Q
open PySem L2 PySem.Spec PyProof.Rows PySem.Calls
open PM
theorem low_pt {x y w : Int} (h : 0 < w) : Pt (low x y w) := PM.low_pt h
theorem spot_of {H : Hp} {l : Addr} {φ : Fr} {m n v : Int} (hφ : FrB φ) (bm : Bd 80 m) (bn : Bd 80 n) (bv : Bd 10 v) (hv : 1 ≤ v) (h : H l = some (.tup (spot φ m n v).vs)) : PtA H l (spot φ m n v) := by
  have w0 : 0 < φ.W * v := Int.mul_pos (by have := hφ.w; omega) (by omega)
  refine ⟨h, PM.low_pt w0, ?_⟩
  have bx : Bd 282 (spX φ m n v) := ((hφ.X.mul bv).le (by decide : 110 ≤ 281)).add (((bm.mul hφ.o0).add (bn.mul hφ.t0)).mul hφ.W)
  have by_ : Bd 282 (spY φ m n v) := ((hφ.Y.mul bv).le (by decide : 110 ≤ 281)).add (((bm.mul hφ.o1).add (bn.mul hφ.t1)).mul hφ.W)
  have z := B3.low bx by_ ((hφ.W.mul bv).le (by decide : 110 ≤ 282))
  exact ⟨z.x.le (by decide), z.y.le (by decide), z.w.le (by decide)⟩
section
variable {K : PySem.W.Frag} {σ : L2.St} {H : Hp} {k i : Nat} {a : Addr} {xs : List V} {n : Int} {j : Int}
theorem vl_ix (h : σ[i]? = some (some (.ref a))) (hq : H a = some (.lst xs)) (he : atI xs j = some (.int n)) (hb : Bd k n) : VI k (tOp (rIxL K) (tVar i) (tC (.int j))) σ H n :=
  ⟨val_op (val_var h) val_c fun _ q => ⟨_, _, _, _, rfl, rfl, SqL.of hq, he, q⟩, hb⟩
theorem vt_ix (h : σ[i]? = some (some (.ref a))) (hq : H a = some (.tup xs)) (he : atI xs j = some (.int n)) (hb : Bd k n) : VI k (tOp (rIxT K) (tVar i) (tC (.int j))) σ H n :=
  ⟨val_op (val_var h) val_c fun _ q => ⟨_, _, _, _, rfl, rfl, SqT.of hq, he, q⟩, hb⟩
end
theorem st_unp3 {K : PySem.W.Frag} {σ : L2.St} {H : Hp} {te : TE} {i j l : Nat} {D : Ends} {u : TS} {a : Addr} {x y z : V} (h : Val te σ H (.ref a)) (ha : H a = some (.tup [x, y, z])) (q : u D (((σ.set i (some x)).set j (some y)).set l (some z)) H) :
    tSeq (tAsg te (gTup K 3 (gCons (gName i) (gCons (gName j) (gCons (gName l) gNil))))) u D σ H :=
  h _ ⟨a, _, rfl, SqT.of ha, rfl, _, _, rfl, _, _, rfl, _, _, rfl, rfl, q⟩
def spRefused : Sp := fun vs H Q _ => ∃ (a b c d : Addr) (p q r s : P3), vs = [.ref a, .ref b, .ref c, .ref d] ∧ PtA H a p ∧ PtA H b q ∧ PtA H c r ∧ PtA H d s ∧ (p = q ∨ r = s) ∧ ∀ H', Same H H' → Q (.bl true) H'
section
variable {P : Program} {w : World} {K : PySem.W.Frag} {mg : Str → Option Value} {base : Heap} {C : Addr}
theorem ok_spot {f : Addr} {fd : FuncData} (F : Fun K "_law_spot" "_law_spot" sSpot f fd) (CP : Cl P w K mg base 2 "_law_point" spPoint) : FnOk P w K mg base CX0 3 f fd ["frame", "part", "other", "over"] spSpot := by
  refine F.ok scSpot (fun vs H Q E h => ?_) (fun cdv A outer s H vs Q E hr h => ?_)
  · obtain ⟨a, s, o, t, φ, m, n, v, rfl, _⟩ := h
    rfl
  · obtain ⟨a, s, o, t, φ, m, n, v, rfl, ha, bm, bn, bv, hv, k⟩ := h
    refine ⟨_, (pss_cons (ps_asg (pv 0) (pg_tup (by rfl) (pgs_cons (pg_name (i := 4) scSpot.nd rfl (.inl rfl)) (pgs_cons (pg_name (i := 5) scSpot.nd rfl (.inl rfl)) (pgs_cons (pg_name (i := 6) scSpot.nd rfl (.inl rfl)) pgs_nil)))))
      (pss_cons (ps_set (i := 7) scSpot.nd rfl (Or.inl rfl) (pe_op op_add (pe_op op_mulW (pe_ix ix_list (pv 4) pe_int (fun _ _ => rfl)) (pv 3)) (pe_op op_mulW (pe_op op_add (pe_op op_mulW (pv 1) (pe_ix ix_tup (pv 5) pe_int (fun _ _ => rfl))) (pe_op op_mulW (pv 2) (pe_ix ix_tup (pv 6) pe_int (fun _ _ => rfl)))) (pe_ix ix_list (pv 4) pe_int (fun _ _ => rfl)))))
      (pss_cons (ps_set (i := 8) scSpot.nd rfl (Or.inl rfl) (pe_op op_add (pe_op op_mulW (pe_ix ix_list (pv 4) pe_int (fun _ _ => rfl)) (pv 3)) (pe_op op_mulW (pe_op op_add (pe_op op_mulW (pv 1) (pe_ix ix_tup (pv 5) pe_int (fun _ _ => rfl))) (pe_op op_mulW (pv 2) (pe_ix ix_tup (pv 6) pe_int (fun _ _ => rfl)))) (pe_ix ix_list (pv 4) pe_int (fun _ _ => rfl)))))
      (pss_one (ps_ret (pe_cl CP hr (by decide) (by rfl) (pa_cons (pv 7) (pa_cons (pv 8) (pa_cons (pe_op op_mulW (pe_ix ix_list (pv 4) pe_int (fun _ _ => rfl)) (pv 3)) pa_nil))))))))), ?_⟩
    have b := ha.b
    refine st_unp3 (val_var rfl) ha.a ?_
    refine st_seq (st_set (VI.add ((VI.mul (vl_ix (i := 4) rfl ha.s rfl b.X) (vi_var (i := 3) rfl bv)).le (by decide : 110 ≤ 281)) (VI.mul (VI.add (VI.mul (vi_var (i := 1) rfl bm) (vt_ix (i := 5) rfl ha.o rfl b.o0)) (VI.mul (vi_var (i := 2) rfl bn) (vt_ix (i := 6) rfl ha.t rfl b.t0))) (vl_ix (i := 4) rfl ha.s rfl b.W))).v ?_)
    refine st_seq (st_set (VI.add ((VI.mul (vl_ix (i := 4) rfl ha.s rfl b.Y) (vi_var (i := 3) rfl bv)).le (by decide : 110 ≤ 281)) (VI.mul (VI.add (VI.mul (vi_var (i := 1) rfl bm) (vt_ix (i := 5) rfl ha.o rfl b.o1)) (VI.mul (vi_var (i := 2) rfl bn) (vt_ix (i := 6) rfl ha.t rfl b.t1))) (vl_ix (i := 4) rfl ha.s rfl b.W))).v ?_)
    have z : VI 110 (tOp (rI CMulW fun i j => .int (i * j)) (tOp (rIxL K) (tVar 4) (tC (.int 2))) (tVar 3)) [some (.ref a), some (.int m), some (.int n), some (.int v), some (.ref s), some (.ref o), some (.ref t), some (.int (spX φ m n v)), some (.int (spY φ m n v))] H (φ.W * v) := VI.mul (vl_ix (i := 4) rfl ha.s rfl b.W) (vi_var (i := 3) rfl bv)
    refine ret_h (vh_call (va_cons (val_var rfl) (va_cons (val_var rfl) (va_cons z.v va_nil))) (PV := fun u H' => ∃ l, u = .ref l ∧ H l = none ∧ Same H H' ∧ H' l = some (.tup (spot φ m n v).vs)) fun Q q => ⟨_, _, _, rfl, Int.mul_pos (by have := b.w; omega) (by omega), z.b.le (by decide), fun l H' h1 h2 h3 => q _ _ ⟨l, rfl, h1, h2, h3⟩⟩) ?_
    rintro u H' ⟨l, rfl, h1, h2, h3⟩
    exact k l H' h1 h2 (spot_of b bm bn bv hv h3)
theorem scRef : FnScope ["one", "two", "three", "four"] ["one", "two", "three", "four"] (defScope sRef) := ⟨rfl, rfl, rfl, by decide +kernel, rfl, by decide +kernel, by decide +kernel⟩
theorem ok_refused {f fM : Addr} {fd fdM : FuncData} (F : Fun K "_law_is_refused" "_law_is_refused" sRef f fd) (T : IOe K mg C) (GM : FnOk P w K mg base (L2.CX P w) 4 fM fdM ["one", "two", "three", "four"] (spMeet C)) (bM : Binds K fdM ["one", "two", "three", "four"] []) (gM : mg "line_meet" = some (.ref fM)) (kM : PySem.W.keepIn K (.ref fM) = true) :
    FnOk P w K mg base CX0 5 f fd ["one", "two", "three", "four"] spRefused := by
  refine F.ok scRef (fun vs H Q E h => ?_) (fun cdv A outer s H vs Q E hr h => ?_)
  · obtain ⟨a, b, c, d, p, q, r, s, rfl, _⟩ := h
    rfl
  · obtain ⟨a, b, c, d, p, q, r, s, rfl, ha, hb, hc, hd, he, k⟩ := h
    refine ⟨_, pss_one (ps_try_only (tb := fun W => tSeq (tDrop (tCallS (spMeet C) (WE W) (tCons (tVar 0) (tCons (tVar 1) (tCons (tVar 2) (tCons (tVar 3) tNil)))))) (tRet (tC (.bl false)))) (ts := fun _ _ _ => tRet (tC (.bl true))) rfl rfl ⟨rfl, by decide, .inl T.g⟩ takes_none5
      (fun W pn xe tk _ => pss_cons (ps_expr (by exact (pe_callS GM hr rfl gM kM bM (fun σ => passAt tk σ) (by exact (pa_cons (pv 0) (pa_cons (pv 1) (pa_cons (pv 2) (pa_cons (pv 3) pa_nil)))))))) (pss_one (ps_ret pe_bl)))
      (fun a oe cls d pn _ _ => pss_one (ps_ret pe_bl))), ?_⟩
    refine ⟨_, rfl, _, rfl, _, rfl, _, rfl, a, b, c, d, p, q, r, s, rfl, ha, hb, hc, hd, fun _ H' e => ⟨true, T.me, fun _ x hx => k H' e, fun q => nomatch q⟩, fun h1 h2 => ?_⟩
    rcases he with he | he
    · exact absurd he h1
    · exact absurd he h2
end
end Q
set_option Elab.async false
set_option linter.all false
set_option maxRecDepth 100000
set_option maxHeartbeats 2000000
namespace Q
open PySem L2 PySem.Spec PyProof.Rows PySem.Calls
open PM Evl
abbrev sTurns : Stmt := top 42
/-- an expression that gives the point p -/
def EvPt (te : TE) (σ : L2.St) (H : Hp) (p : P3) : Prop := ∀ H1, Ex H H1 → ∀ Q : VK, (∀ l H2, Ex H1 H2 → PtA H2 l p → Q (.ref l) H2) → te σ H1 Q
section
variable {K : PySem.W.Frag} {σ : L2.St} {H H' : Hp} {ta tb tc td te : TE} {p q r s : P3} {E : XK} {D : Ends} {tz : TS} {i : Nat}
theorem EvPt.mono (e : Ex H H') (h : EvPt te σ H p) : EvPt te σ H' p := fun H1 a Q q => h H1 (e.trans a) Q q
theorem pt_mono {l : Addr} (e : Ex H H') (x : PtA H l p) : PtA H' l p := x.mono e
theorem fr_mono {a s o t : Addr} {φ : Fr} (e : Ex H H') (x : FrA H a s o t φ) : FrA H' a s o t φ := x.mono e
theorem ept_var {l : Addr} (h : σ[i]? = some (some (.ref l))) (x : PtA H l p) : EvPt (tVar i) σ H p := fun H1 e Q q => ⟨_, h, q l H1 (Ex.refl H1) (pt_mono e x)⟩
theorem ept_spot {a s o t : Addr} {φ : Fr} {m n v : Int} (h1 : Ev ta σ H (.ref a)) (h2 : Ev tb σ H (.int m)) (h3 : Ev tc σ H (.int n)) (h4 : Ev td σ H (.int v)) (x : FrA H a s o t φ) (bm : Bd 80 m) (bn : Bd 80 n) (bv : Bd 10 v) (hv : 1 ≤ v) :
    EvPt (tCall spSpot [] E (tCons ta (tCons tb (tCons tc (tCons td tNil))))) σ H (spot φ m n v) := fun H1 e Q q =>
  h1 H1 e _ fun H2 e2 => h2 H2 (e.trans e2) _ fun H3 e3 => h3 H3 ((e.trans e2).trans e3) _ fun H4 e4 => h4 H4 (((e.trans e2).trans e3).trans e4) _ fun H5 e5 =>
    ⟨a, s, o, t, φ, m, n, v, rfl, fr_mono ((((e.trans e2).trans e3).trans e4).trans e5) x, bm, bn, bv, hv, fun l H6 _ e6 y => q l H6 ((((e2.trans e3).trans e4).trans e5).trans e6) y⟩
theorem ev_turn (h1 : EvPt ta σ H p) (h2 : EvPt tb σ H q) (h3 : EvPt tc σ H r) : Ev (tCall spTurnOf [] E (tCons ta (tCons tb (tCons tc tNil)))) σ H (.int (sgn (det p q r))) := fun H1 e Q k =>
  h1 H1 e _ fun l1 H2 e2 x1 => h2 H2 (e.trans e2) _ fun l2 H3 e3 x2 => h3 H3 ((e.trans e2).trans e3) _ fun l3 H4 e4 x3 =>
    ⟨l1, l2, l3, p, q, r, rfl, pt_mono (e3.trans e4) x1, pt_mono e4 x2, x3, fun H5 e5 => k H5 (((e2.trans e3).trans e4).trans e5)⟩
theorem ev_btw (h1 : EvPt ta σ H p) (h2 : EvPt tb σ H q) (h3 : EvPt tc σ H r) : Ev (tCall spBetw [] E (tCons ta (tCons tb (tCons tc tNil)))) σ H (.bl (between p q r)) := fun H1 e Q k =>
  h1 H1 e _ fun l1 H2 e2 x1 => h2 H2 (e.trans e2) _ fun l2 H3 e3 x2 => h3 H3 ((e.trans e2).trans e3) _ fun l3 H4 e4 x3 =>
    ⟨l1, l2, l3, p, q, r, rfl, pt_mono (e3.trans e4) x1, pt_mono e4 x2, x3, fun H5 e5 => k H5 (((e2.trans e3).trans e4).trans e5)⟩
theorem ev_eqP (h1 : EvPt ta σ H p) (h2 : EvPt tb σ H q) : Ev (tOp (rEqD K) ta tb) σ H (.bl (PyData.eqv (dP p) (dP q))) := fun H1 e Q k =>
  h1 H1 e _ fun l1 H2 e2 x1 => h2 H2 (e.trans e2) _ fun l2 H3 e3 x2 => ⟨_, _, dp_of (pt_mono e3 x1).h, dp_of x2.h, shaped_dP _, shaped_dP _, k H3 (e2.trans e3)⟩
theorem ev_neP (h1 : EvPt ta σ H p) (h2 : EvPt tb σ H q) : Ev (tOp (rNeD K) ta tb) σ H (.bl (!PyData.eqv (dP p) (dP q))) := fun H1 e Q k =>
  h1 H1 e _ fun l1 H2 e2 x1 => h2 H2 (e.trans e2) _ fun l2 H3 e3 x2 => ⟨_, _, dp_of (pt_mono e3 x1).h, dp_of x2.h, shaped_dP _, shaped_dP _, k H3 (e2.trans e3)⟩
theorem q_asgP (h : EvPt te σ H p) (k : ∀ l H1, Ex H H1 → PtA H1 l p → tz D (σ.set i (some (.ref l))) H1) : tSeq (tAsg te (gName i)) tz D σ H := h H (Ex.refl H) _ fun l H1 e x => k l H1 e x
/-- a list of ints told twice -/
def dI (ns : List Int) : PyData := .list (ns.map PyData.int)
theorem dpl_ints : ∀ ns : List Int, DpAll K H (ns.map V.int) (ns.map PyData.int)
  | [] => .nil
  | n :: ns => .cons (.int n) (dpl_ints ns)
theorem dp_ints {a : Addr} {ns : List Int} (h : H a = some (.lst (ns.map V.int))) : Dp K H (.ref a) (dI ns) := .lst (SqL.of h) (dpl_ints ns)
end
theorem low80 {m : Int} (h : Bd 79 m) : Bd 80 m := h.le (by decide)
/-- numbers of bounded width, whatever is laid on the way -/
structure EI (k : Nat) (te : TE) (σ : L2.St) (H : Hp) (n : Int) : Prop where
  v : Ev te σ H (.int n)
  b : Bd k n
section
variable {K : PySem.W.Frag} {σ : L2.St} {H : Hp} {ta tb te : TE} {a b i j : Nat} {m n : Int} {E : XK}
theorem EI.mul (x : EI a ta σ H m) (y : EI b tb σ H n) (h : a + b + 2 ≤ 1000000 := by decide) : EI (a + b) (tOp (rI CMulW fun i j => .int (i * j)) ta tb) σ H (m * n) := ⟨ev_op x.v y.v (rv_I (x.b.mw y.b h)), x.b.mul y.b⟩
theorem EI.sub (x : EI a ta σ H m) (y : EI a tb σ H n) : EI (a + 1) (tOp (rI0 fun i j => .int (i - j)) ta tb) σ H (m - n) := ⟨ev_op x.v y.v rv_I0, x.b.sub y.b⟩
theorem EI.add (x : EI a ta σ H m) (y : EI a tb σ H n) : EI (a + 1) (tOp (rI0 fun i j => .int (i + j)) ta tb) σ H (m + n) := ⟨ev_op x.v y.v rv_I0, x.b.add y.b⟩
theorem EI.le (x : EI a ta σ H m) (h : a ≤ b) : EI b ta σ H m := ⟨x.v, x.b.le h⟩
theorem ei_var (h : σ[i]? = some (some (.int n))) (hb : Bd a n) : EI a (tVar i) σ H n := ⟨ev_var h, hb⟩
theorem ei_c (hb : Bd a n) : EI a (tC (.int n)) σ H n := ⟨ev_c, hb⟩
theorem ev_lsign (h : Ev te σ H (.int n)) : Ev (tCall spLSign [] E (tCons te tNil)) σ H (.int (sgn n)) := ev_call (ea_cons h ea_nil) fun H1 e Q q E => ⟨_, rfl, q H1 (Ex.refl _)⟩
theorem ev_sense {fr s o t : Addr} {φ : Fr} (h : Ev te σ H (.ref fr)) (x : FrA H fr s o t φ) : Ev (tCall spSense [] E (tCons te tNil)) σ H (.int (sense φ)) := ev_call (ea_cons h ea_nil) fun H1 e Q q E => ⟨_, _, _, _, _, rfl, fr_mono e x, q H1 (Ex.refl _)⟩
theorem bd_sgn (n : Int) : Bd 1 (sgn n) := ⟨by unfold sgn; split <;> (try split) <;> decide⟩
theorem bd_sense (φ : Fr) : Bd 1 (sense φ) := ⟨by unfold sense; split <;> decide⟩
/-- a, b of a tracked pair -/
theorem ev_ixT {p : Addr} {xs : List V} {k : Int} {v : V} (h : Ev ta σ H (.ref p)) (hx : H p = some (.tup xs)) (hk : atI xs k = some v) : Ev (tOp (rIxT K) ta (tC (.int k))) σ H v := ev_op h ev_c (rv_ixT (SqT.of hx) hk)
theorem ev_ixL {p : Addr} {xs : List V} {k : Int} {v : V} (h : Ev ta σ H (.ref p)) (hx : H p = some (.lst xs)) (hk : atI xs k = some v) : Ev (tOp (rIxL K) ta (tC (.int k))) σ H v := ev_op h ev_c (rv_ixL (SqL.of hx) hk)
/-- [a point for x in xs] -/
theorem lc_pts {p : Addr} {xs : List V} {pts : List P3} {tl : TE} {vs : List Nat} (h : Ev tl σ H (.ref p)) (hx : SqL K H p xs) (hz : xs.length = pts.length) (hl : xs.length ≤ 1000) (hw : ∀ x, wipe ((wipe σ vs).set j (some x)) vs = wipe σ vs)
    (he : ∀ (i : Nat) (x : V) (q : P3) H1, Ex H H1 → xs[i]? = some x → pts[i]? = some q → EvPt te ((wipe σ vs).set j (some x)) H1 q) {Q : VK}
    (k : ∀ D H2 (ls : List Addr), Ex H H2 → H2 D = some (.lst (ls.map V.ref)) → ls.length = pts.length → (∀ (m : Nat) l q, ls[m]? = some l → pts[m]? = some q → PtA H2 l q) → Q (.ref D) H2) : tLc (iList K tl) (gName j) tYes te vs σ H Q :=
  h H (Ex.refl H) _ fun H1 e1 => ⟨p, rfl, ⟨xs, ex_l e1 hx⟩, fun Dl hD =>
    lc_list (xs := xs) (fun i H' => Ex H1 H' ∧ ∃ ls : List Addr, ls.length = i ∧ H' Dl = some (.lst (ls.map V.ref)) ∧ ∀ (m : Nat) l q, ls[m]? = some l → pts[m]? = some q → PtA H' l q)
      ⟨Ex.new hD, [], rfl, upd_same, fun m l q z => by simp at z⟩ (fun i H' _ p => ex_l (e1.trans p.1) hx)
      (fun i x H' hi pv => ⟨hw x, by
        obtain ⟨e2, ls, hlen, hls, hpt⟩ := pv
        have hlt : i < xs.length := (List.getElem?_eq_some_iff.mp hi).1
        have hq : pts[i]? = some (pts[i]'(by omega)) := by simp
        refine he i x _ H' (e1.trans e2) hi hq H' (Ex.refl _) _ fun l H4 e4 y => ⟨ls.map V.ref, e4 _ _ hls, Nat.lt_of_lt_of_le (show (ls.map V.ref).length < 2000 by rw [List.length_map]; omega) (by decide), ?_⟩
        have keep : ∀ {l : Addr} {q : P3}, PtA H4 l q → PtA (upd H4 Dl (.lst (ls.map V.ref ++ [V.ref l]))) l q := fun {l q} z => ⟨by
          have ne : l ≠ Dl := by
            intro g
            have g1 := z.h
            rw [g, e4 _ _ hls] at g1
            cases g1
          rw [upd_ne ne]
          exact z.h, z.pt, z.b⟩
        have keep2 : ∀ {l2 : Addr} {q : P3}, PtA H4 l2 q → PtA (upd H4 Dl (.lst (ls.map V.ref ++ [V.ref l]))) l2 q := fun {l2 q} z => ⟨by
          have ne : l2 ≠ Dl := by
            intro g
            have g1 := z.h
            rw [g, e4 _ _ hls] at g1
            cases g1
          rw [upd_ne ne]
          exact z.h, z.pt, z.b⟩
        refine ⟨Ex.mut (e2.trans e4) hD, ls ++ [l], by rw [List.length_append, hlen]; rfl, ?_, fun m l2 q h1 h2 => ?_⟩
        · rw [List.map_append]
          exact upd_same
        · by_cases c : m < ls.length
          · rw [List.getElem?_append_left c] at h1
            exact keep2 (pt_mono e4 (hpt m l2 q h1 h2))
          · have c2 : m < (ls ++ [l]).length := (List.getElem?_eq_some_iff.mp h1).1
            rw [List.length_append] at c2
            have c3 : m = ls.length := by
              have : [l].length = 1 := rfl
              omega
            subst c3
            rw [List.getElem?_append_right (Nat.le_refl _), Nat.sub_self] at h1
            cases h1
            rw [hlen, hq] at h2
            cases h2
            exact keep2 y⟩)
      (fun H' pv => by
        obtain ⟨e2, ls, hlen, hls, hpt⟩ := pv
        exact k Dl H' ls (e1.trans e2) hls (hlen.trans hz) hpt)⟩
/-- a, b, c = a list of three pairs -/
theorem st_unL3 {ps p1 p2 p3 : Addr} {i1 i2 i3 i4 i5 i6 : Nat} {a b c d e f : V} {D : Ends} {u : TS} (h : Ev te σ H (.ref ps)) (hps : H ps = some (.lst [.ref p1, .ref p2, .ref p3])) (h1 : H p1 = some (.tup [a, b])) (h2 : H p2 = some (.tup [c, d])) (h3 : H p3 = some (.tup [e, f]))
    (q : ∀ H1, Ex H H1 → u D ((((((σ.set i1 (some a)).set i2 (some b)).set i3 (some c)).set i4 (some d)).set i5 (some e)).set i6 (some f)) H1) :
    tSeq (tAsg te (gUnl K 3 (gCons (gTup K 2 (gCons (gName i1) (gCons (gName i2) gNil))) (gCons (gTup K 2 (gCons (gName i3) (gCons (gName i4) gNil))) (gCons (gTup K 2 (gCons (gName i5) (gCons (gName i6) gNil))) gNil))))) u D σ H :=
  h H (Ex.refl H) _ fun H1 e => ⟨ps, _, rfl, SqL.of (e _ _ hps), rfl, _, _, rfl, p1, _, rfl, SqT.of (e _ _ h1), rfl, _, _, rfl, _, _, rfl, rfl, _, _, rfl, p2, _, rfl, SqT.of (e _ _ h2), rfl, _, _, rfl, _, _, rfl, rfl, _, _, rfl, p3, _, rfl, SqT.of (e _ _ h3), rfl, _, _, rfl, _, _, rfl, rfl, rfl, q H1 e⟩
end
section
variable {K : PySem.W.Frag} {σ : L2.St} {H : Hp} {ta tb te : TE} {n : Int}
theorem el_rep3 (h : Ev te σ H (.int n)) : EvL (tOp rRep (tLst (tCons te tNil)) (tC (.int 3))) σ H [.int n, .int n, .int n] := fun H1 e Q q =>
  (el_lst (ea_cons h ea_nil) (by show 1 ≤ 100000; decide)) H1 e _ fun p H2 _ e2 hp => ⟨p, 3, [.int n], rfl, rfl, hp, by decide, by decide, (by show 3 ≤ sizeLine; decide), fun l hl => q l _ (fresh_back e2 hl) (e2.trans (Ex.new hl)) upd_same⟩
theorem shaped3 (a b c : Int) : SeqAt.shaped (dI [a, b, c]) = true := rfl
/-- a list of three ints and [n] * 3, the same -/
theorem ev_eq3 {p : Addr} {a b c : Int} (h : Ev ta σ H (.ref p)) (hp : H p = some (.lst [.int a, .int b, .int c])) (hb : EvL tb σ H [.int n, .int n, .int n]) (e1 : a = n) (e2 : b = n) (e3 : c = n) : Ev (tOp (rEqD K) ta tb) σ H (.bl true) := fun H1 e Q q =>
  h H1 e _ fun H2 e2' => hb H2 (e.trans e2') _ fun l H3 _ e3' hl => by
    subst e1 e2 e3
    refine ⟨dI [c, c, c], dI [c, c, c], dp_ints (ns := [c, c, c]) (e3' _ _ (e2' _ _ (e _ _ hp))), dp_ints (ns := [c, c, c]) hl, shaped3 _ _ _, shaped3 _ _ _, ?_⟩
    have z : PyData.eqv (dI [c, c, c]) (dI [c, c, c]) = true := by
      unfold dI
      simp [PyData.eqv, PyData.eqvAll]
    rw [z]
    exact q H3 (e2'.trans e3')
theorem ev_eq0 (h : Ev te σ H (.int n)) (e : n = 0) : Ev (tOp rEq te (tC (.int 0))) σ H (.bl true) := by
  subst e
  exact ev_op h ev_c (rv_eq rfl)
end
def spTurns : Sp := fun vs H Q _ => ∃ (fr s o t ps p1 p2 p3 : Addr) (φ : Fr) (a b c d e f v : Int), vs = [.ref fr, .ref ps, .int v] ∧ FrA H fr s o t φ ∧ H ps = some (.lst [.ref p1, .ref p2, .ref p3]) ∧
  H p1 = some (.tup [.int a, .int b]) ∧ H p2 = some (.tup [.int c, .int d]) ∧ H p3 = some (.tup [.int e, .int f]) ∧ Bd 80 a ∧ Bd 80 b ∧ Bd 80 c ∧ Bd 80 d ∧ Bd 80 e ∧ Bd 80 f ∧ Bd 10 v ∧ 1 ≤ v ∧
  ∀ H', Same H H' → Q (.bl true) H'
section
variable {P : Program} {w : World} {K : PySem.W.Frag} {mg : Str → Option Value} {base : Heap}
theorem scTurns : FnScope ["frame", "parts", "over", "a", "b", "c", "d", "e", "f", "due", "one", "two", "three", "told", "back", "part"] ["frame", "parts", "over"] (defScope sTurns) := ⟨rfl, rfl, rfl, by decide +kernel, rfl, by decide +kernel, by decide +kernel⟩
theorem ok_turns {f : Addr} {fd : FuncData} (F : Fun K "_law_turns_right" "_law_turns_right" sTurns f fd) (CG : Cl P w K mg base 1 "_law_sign" spLSign) (CN : Cl P w K mg base 1 "_law_sense" spSense) (CS : Cl P w K mg base 3 "_law_spot" spSpot) (CT : Cl P w K mg base 4 "turn_of" spTurnOf) :
    FnOk P w K mg base CX0 5 f fd ["frame", "parts", "over"] spTurns := by
  refine F.ok scTurns (fun vs H Q E h => ?_) (fun cdv A outer s H vs Q E hr h => ?_)
  · obtain ⟨fr, s, o, t, ps, p1, p2, p3, φ, a, b, c, d, e, f, v, rfl, _⟩ := h
    rfl
  · obtain ⟨fr, s, o, t, ps, p1, p2, p3, φ, a, b, c, d, e, f, v, rfl, hf, hps, h1, h2, h3, ba, bb, bc, bd, be, bf, bv, hv, k⟩ := h
    have hu := hr.units
    refine ⟨_, (pss_cons (ps_asg (pv 1) (pg_unl (by rfl) (pgs_cons (pg_tup (by rfl) (pgs_cons (pg_name (i := 3) scTurns.nd rfl (.inl rfl)) (pgs_cons (pg_name (i := 4) scTurns.nd rfl (.inl rfl)) pgs_nil)))
          (pgs_cons (pg_tup (by rfl) (pgs_cons (pg_name (i := 5) scTurns.nd rfl (.inl rfl)) (pgs_cons (pg_name (i := 6) scTurns.nd rfl (.inl rfl)) pgs_nil)))
          (pgs_cons (pg_tup (by rfl) (pgs_cons (pg_name (i := 7) scTurns.nd rfl (.inl rfl)) (pgs_cons (pg_name (i := 8) scTurns.nd rfl (.inl rfl)) pgs_nil))) pgs_nil)))))
      (pss_cons (ps_set (i := 9) scTurns.nd rfl (Or.inl rfl) (pe_op op_mulW (pe_cl CG hr (by decide) (by rfl) (pa_cons (pe_op op_sub (pe_op op_mulW (pe_op op_sub (pv 5) (pv 3)) (pe_op op_sub (pv 8) (pv 4))) (pe_op op_mulW (pe_op op_sub (pv 6) (pv 4)) (pe_op op_sub (pv 7) (pv 3)))) pa_nil)) (pe_cl CN hr (by decide) (by rfl) (pa_cons (pv 0) pa_nil))))
      (Evl.pss_cut (ps_asg (pe_lc (own := [("part", 15)]) (g := gName 15) (by rfl) scTurns.nd (pi_list (pv 1))
            (blkOk_by (own := [("part", 15)]) (N := ["frame", "parts", "over", "a", "b", "c", "d", "e", "f", "due", "one", "two", "three", "told", "back", "part"]) (sc := defScope sTurns) (by decide +kernel))
            (fun _ _ _ _ _ => pg_name (i := 15) scTurns.nd rfl (Or.inl rfl)) (fun _ _ _ _ _ => pts_nil)
            (te := tCall spSpot [] E0 (tCons (tVar 0) (tCons (tOp (rIxT K) (tVar 15) (tC (.int 0))) (tCons (tOp (rIxT K) (tVar 15) (tC (.int 1))) (tCons (tVar 2) tNil)))))
            (fun _ _ _ _ _ => by exact (pe_cl CS hr (by decide) (by rfl) (by exact (pa_cons (pv 0) (pa_cons ((pe_ix ix_tup (pv 15) pe_int (fun _ _ => rfl))) (pa_cons ((pe_ix ix_tup (pv 15) pe_int (fun _ _ => rfl))) (pa_cons (pv 2) pa_nil))))))))
          (pg_unl (by rfl) (pgs_cons (pg_name (i := 10) scTurns.nd rfl (.inl rfl)) (pgs_cons (pg_name (i := 11) scTurns.nd rfl (.inl rfl)) (pgs_cons (pg_name (i := 12) scTurns.nd rfl (.inl rfl)) pgs_nil)))))
      (pss_cons (ps_set (i := 13) scTurns.nd rfl (Or.inl rfl) (pe_lst (pa_cons (pe_cl CT hr (by decide) (by rfl) (pa_cons (pv 10) (pa_cons (pv 11) (pa_cons (pv 12) pa_nil)))) (pa_cons (pe_cl CT hr (by decide) (by rfl) (pa_cons (pv 11) (pa_cons (pv 12) (pa_cons (pv 10) pa_nil)))) (pa_cons (pe_cl CT hr (by decide) (by rfl) (pa_cons (pv 12) (pa_cons (pv 10) (pa_cons (pv 11) pa_nil)))) pa_nil)))))
      (pss_cons (ps_set (i := 14) scTurns.nd rfl (Or.inl rfl) (pe_lst (pa_cons (pe_cl CT hr (by decide) (by rfl) (pa_cons (pv 11) (pa_cons (pv 10) (pa_cons (pv 12) pa_nil)))) (pa_cons (pe_cl CT hr (by decide) (by rfl) (pa_cons (pv 10) (pa_cons (pv 12) (pa_cons (pv 11) pa_nil)))) (pa_cons (pe_cl CT hr (by decide) (by rfl) (pa_cons (pv 12) (pa_cons (pv 11) (pa_cons (pv 10) pa_nil)))) pa_nil)))))
      (pss_one (ps_ret (pe_and (pe_cmpR (op_eqD hu) (pv 13) (pe_op op_rep (pe_lst (pa_cons (pv 9) pa_nil)) pe_int) (nomark _)) (pe_and (pe_cmpR (op_eqD hu) (pv 14) (pe_op op_rep (pe_lst (pa_cons (pe_op op_sub pe_int (pv 9)) pa_nil)) pe_int) (nomark _))
        (pe_and (pe_cmpR op_eq (pe_cl CT hr (by decide) (by rfl) (pa_cons (pv 10) (pa_cons (pv 10) (pa_cons (pv 11) pa_nil)))) pe_int (nomark _)) (pe_one (pe_cmpR op_eq (pe_cl CT hr (by decide) (by rfl) (pa_cons (pv 10) (pa_cons (pv 11) (pa_cons (pv 10) pa_nil)))) pe_int (nomark _))))))))))))), ?_⟩
    refine st_unL3 (ev_var rfl) hps h1 h2 h3 fun H1 e1 => ?_
    have hf1 := fr_mono e1 hf
    refine q_asg (EI.mul (⟨ev_lsign (EI.sub (EI.mul (EI.sub (ei_var (i := 5) rfl bc) (ei_var (i := 3) rfl ba)) (EI.sub (ei_var (i := 8) rfl bf) (ei_var (i := 4) rfl bb))) (EI.mul (EI.sub (ei_var (i := 6) rfl bd) (ei_var (i := 4) rfl bb)) (EI.sub (ei_var (i := 7) rfl be) (ei_var (i := 3) rfl ba)))).v, bd_sgn _⟩ : EI 1 _ _ _ _) (⟨ev_sense (ev_var (i := 0) rfl) hf1, bd_sense φ⟩ : EI 1 _ _ _ _)).v fun H2 e2 => ?_
    have hf2 := fr_mono e2 hf1
    have e12 := e1.trans e2
    refine q_cut (M := fun σ' H' => Ex H H' ∧ ∃ l1 l2 l3 : Addr, σ' = [some (.ref fr), some (.ref ps), some (.int v), some (.int a), some (.int b), some (.int c), some (.int d), some (.int e), some (.int f), some (.int (sgn ((c - a) * (f - b) - (d - b) * (e - a)) * sense φ)), some (.ref l1), some (.ref l2), some (.ref l3), none, none, none] ∧
        PtA H' l1 (spot φ a b v) ∧ PtA H' l2 (spot φ c d v) ∧ PtA H' l3 (spot φ e f v)) ?_ ?_
    · refine lc_pts (pts := [spot φ a b v, spot φ c d v, spot φ e f v]) (ev_var rfl) (SqL.of (e12 _ _ hps)) rfl (by show 3 ≤ 1000; decide) (fun _ => rfl) (fun i x q H3 e3 hx hq => ?_) (fun Dl H3 ls e3 hls hlen hpt => ?_)
      · have e13 := e12.trans e3
        match i, hx, hq with
        | 0, hx, hq =>
          cases hx
          cases hq
          exact ept_spot (ev_var rfl) (ev_ixT (ev_var rfl) (e13 _ _ h1) rfl) (ev_ixT (ev_var rfl) (e13 _ _ h1) rfl) (ev_var rfl) (fr_mono e13 hf) ba bb bv hv
        | 1, hx, hq =>
          cases hx
          cases hq
          exact ept_spot (ev_var rfl) (ev_ixT (ev_var rfl) (e13 _ _ h2) rfl) (ev_ixT (ev_var rfl) (e13 _ _ h2) rfl) (ev_var rfl) (fr_mono e13 hf) bc bd bv hv
        | 2, hx, hq =>
          cases hx
          cases hq
          exact ept_spot (ev_var rfl) (ev_ixT (ev_var rfl) (e13 _ _ h3) rfl) (ev_ixT (ev_var rfl) (e13 _ _ h3) rfl) (ev_var rfl) (fr_mono e13 hf) be bf bv hv
        | i + 3, hx, hq => cases hx
      · match ls, hlen with
        | [l1, l2, l3], _ =>
          exact ⟨Dl, _, rfl, SqL.of hls, rfl, _, _, rfl, _, _, rfl, _, _, rfl, rfl, e12.trans e3, l1, l2, l3, rfl, hpt 0 _ _ rfl rfl, hpt 1 _ _ rfl rfl, hpt 2 _ _ rfl rfl⟩
    rintro σ' H3 ⟨e3, l1, l2, l3, rfl, x1, x2, x3⟩
    have m := sgn_det hf.b.w hf.b.k a b c d e f v hv
    generalize sgn ((c - a) * (f - b) - (d - b) * (e - a)) * sense φ = due at m ⊢
    generalize spot φ a b v = q1 at m x1 ⊢
    generalize spot φ c d v = q2 at m x2 ⊢
    generalize spot φ e f v = q3 at m x3 ⊢
    refine q_asgL (el_lst (ea_cons (ev_turn (ept_var rfl x1) (ept_var rfl x2) (ept_var rfl x3)) (ea_cons (ev_turn (ept_var rfl x2) (ept_var rfl x3) (ept_var rfl x1)) (ea_cons (ev_turn (ept_var rfl x3) (ept_var rfl x1) (ept_var rfl x2)) ea_nil))) (by show 3 ≤ 100000; decide)) fun t1 H4 _ e4 ht1 => ?_
    have y1 := pt_mono e4 x1
    have y2 := pt_mono e4 x2
    have y3 := pt_mono e4 x3
    refine q_asgL (el_lst (ea_cons (ev_turn (ept_var rfl y2) (ept_var rfl y1) (ept_var rfl y3)) (ea_cons (ev_turn (ept_var rfl y1) (ept_var rfl y3) (ept_var rfl y2)) (ea_cons (ev_turn (ept_var rfl y3) (ept_var rfl y2) (ept_var rfl y1)) ea_nil))) (by show 3 ≤ 100000; decide)) fun t2 H5 _ e5 ht2 => ?_
    have z1 := pt_mono e5 y1
    have z2 := pt_mono e5 y2
    have z3 := pt_mono e5 y3
    refine s_ret (ev_andV (ev_eq3 (ev_var (i := 13) rfl) (e5 _ _ ht1) (el_rep3 (ev_var (i := 9) rfl)) m ?_ ?_) fun _ => ev_andV (ev_eq3 (ev_var (i := 14) rfl) ht2 (el_rep3 (ev_op ev_c (ev_var (i := 9) rfl) rv_I0)) ?_ ?_ ?_) fun _ => ev_andV (ev_eq0 (ev_turn (ept_var rfl z1) (ept_var rfl z1) (ept_var rfl z2)) ?_) fun _ => ev_eq0 (ev_turn (ept_var rfl z1) (ept_var rfl z2) (ept_var rfl z1)) ?_) fun H6 e6 => k H6 (((e3.trans e4).trans e5).trans e6)
    · rw [det_cyc]
      exact m
    · rw [← m, ← det_cyc q3 q1 q2]
    · rw [det_swap, sgn_neg, m, Int.zero_sub]
    · rw [det_swap2, sgn_neg, m, Int.zero_sub]
    · rw [det_swap3, sgn_neg, m, Int.zero_sub]
    · rw [det_s1]
      rfl
    · rw [det_s2]
      rfl
end
end Q
set_option Elab.async false
set_option linter.all false
set_option maxRecDepth 100000
set_option maxHeartbeats 2000000
namespace Q
open PySem L2 PySem.Spec PyProof.Rows PySem.Calls
open PM Evl
abbrev sBetwR : Stmt := top 43
theorem call_repr_bl {X : Cx} : CallR X (.builtin "repr") (fun xs H Q => ∃ b : Bool, xs = [.bl b] ∧ Q (.str (if b then "True" else "False")) H) := by
  intro pins s σ H xs us Q I r h
  obtain ⟨b, rfl, q⟩ := h
  cases r with
  | cons r1 r =>
    cases r
    cases (show _ = Value.bool b from r1)
    exact PySem.P.repr_of_bool ⟨.str _, H, I.tok _, ⟨_, rfl⟩, q⟩
section
variable {K : PySem.W.Frag} {σ : L2.St} {H : Hp} {ta tb tc te : TE} {n m l : Int} {b : Bool} {D : Ends} {u : TS} {p q : P3} {i j : Nat} {E : XK}
theorem ev_reprb (h : Ev te σ H (.bl b)) : Ev (tCB (fun xs H Q => ∃ b : Bool, xs = [.bl b] ∧ Q (.str (if b then "True" else "False")) H) (tCons te tNil)) σ H (.str (if b then "True" else "False")) := ev_cb (ea_cons h ea_nil) fun H1 _ Q q => ⟨b, rfl, q H1 (Ex.refl _)⟩
theorem ev_min2 (ha : Ev ta σ H (.int n)) (hb : Ev tb σ H (.int m)) : Ev (tCB (fun xs H Q => ∃ i j, xs = [.int i, .int j] ∧ Q (.int (if j < i then j else i)) H) (tCons ta (tCons tb tNil))) σ H (.int (min n m)) := fun H1 e Q q =>
  ha H1 e _ fun H2 e2 => hb H2 (e.trans e2) _ fun H3 e3 => ⟨n, m, rfl, by
    have z : (if m < n then m else n) = min n m := by split <;> omega
    rw [z]
    exact q H3 (e2.trans e3)⟩
theorem ev_max2' (ha : Ev ta σ H (.int n)) (hb : Ev tb σ H (.int m)) : Ev (tCB (fun xs H Q => ∃ i j, xs = [.int i, .int j] ∧ Q (.int (if j > i then j else i)) H) (tCons ta (tCons tb tNil))) σ H (.int (max n m)) := fun H1 e Q q =>
  ha H1 e _ fun H2 e2 => hb H2 (e.trans e2) _ fun H3 e3 => ⟨n, m, rfl, by
    have z : (if m > n then m else n) = max n m := by split <;> omega
    rw [z]
    exact q H3 (e2.trans e3)⟩
theorem ev_chain (ha : Ev ta σ H (.int n)) (hb : Ev tb σ H (.int m)) (hc : Ev tc σ H (.int l)) : Ev (tChain (rI0 fun i j => .bl (decide (i ≤ j))) (rI0 fun i j => .bl (decide (i ≤ j))) ta tb tc) σ H (.bl (decide (n ≤ m ∧ m ≤ l))) := fun H1 e Q q =>
  ha H1 e _ fun H2 e2 => hb H2 (e.trans e2) _ fun H3 e3 => ⟨n, m, rfl, rfl, _, rfl, by
    refine ite2 (fun c => ?_) (fun c => ?_)
    · refine hc H3 ((e.trans e2).trans e3) _ fun H4 e4 => ⟨m, l, rfl, rfl, ?_⟩
      have z : decide (m ≤ l) = decide (n ≤ m ∧ m ≤ l) := decide_eq_decide.mpr ⟨fun h => ⟨of_decide_eq_true c, h⟩, fun h => h.2⟩
      show Q (.bl (decide (m ≤ l))) H4
      rw [z]
      exact q H4 ((e2.trans e3).trans e4)
    · have z : decide (n ≤ m ∧ m ≤ l) = false := decide_eq_false fun h => no_dec c h.1
      rw [z] at q
      exact q H3 (e2.trans e3)⟩
theorem ept_mid (h1 : EvPt ta σ H p) (h2 : EvPt tb σ H q) {r : P3} (hr : half p q = r) (bp : B3 1000 r) (hp : Pt r) : EvPt (tCall spMid [] E (tCons ta (tCons tb tNil))) σ H r := fun H1 e Q k =>
  h1 H1 e _ fun l1 H2 e2 x1 => h2 H2 (e.trans e2) _ fun l2 H3 e3 x2 => ⟨l1, l2, p, q, rfl, pt_mono e3 x1, x2, fun l H4 _ e4 y => k l H4 ((e2.trans e3).trans e4) ⟨by rw [← hr]; exact y, hp, bp⟩⟩
/-- a, b = two points -/
theorem q_parP (h1 : EvPt ta σ H p) (h2 : EvPt tb σ H q) (k : ∀ l1 l2 H1, Ex H H1 → PtA H1 l1 p → PtA H1 l2 q → u D ((σ.set i (some (.ref l1))).set j (some (.ref l2))) H1) : tSeq (tPar i j (tCons ta (tCons tb tNil))) u D σ H :=
  h1 H (Ex.refl H) _ fun l1 H2 e2 x1 => h2 H2 e2 _ fun l2 H3 e3 x2 => ⟨_, _, rfl, k l1 l2 H3 (e2.trans e3) (pt_mono e3 x1) x2⟩
theorem ev_isB {c d : Bool} (h : Ev te σ H (.bl b)) (e : decide (b = c) = d) : Ev (tOp rIsB te (tC (.bl c))) σ H (.bl d) := ev_op h ev_c fun H1 _ Q q => ⟨b, c, rfl, rfl, by rw [e]; exact q H1 (Ex.refl _)⟩
theorem ev_notB {c d : Bool} (h : Ev te σ H (.bl b)) (e : (!decide (b = c)) = d) : Ev (tOp rNotB te (tC (.bl c))) σ H (.bl d) := ev_op h ev_c fun H1 _ Q q => ⟨b, c, rfl, rfl, by rw [e]; exact q H1 (Ex.refl _)⟩
theorem ev_neI {d : Bool} (h : Ev te σ H (.int n)) (e : (!decide (n = m)) = d) : Ev (tOp rNe te (tC (.int m))) σ H (.bl d) := ev_is (ev_op h ev_c (rv_ne rfl)) (by
  have z : decide (V.int n = V.int m) = decide (n = m) := decide_eq_decide.mpr ⟨fun h => by injection h, fun h => by rw [h]⟩
  rw [z, e])
/-- an if whose test is no -/
theorem q_not {t : TT} {tu : TS} (h : EvT t σ H false) (k : ∀ H1, Ex H H1 → u D σ H1) : tSeq (tIfS t tu tNext) u D σ H := q_when h (fun z => nomatch z) fun _ => k
theorem ev_neSame (h1 : EvPt ta σ H p) (h2 : EvPt tb σ H p) : Ev (tOp (rNeD K) ta tb) σ H (.bl false) := ev_is (ev_neP h1 h2) (by rw [(eqv_dP p p).mpr rfl]; rfl)
end
def spBetwR : Sp := fun vs H Q _ => ∃ (fr s o t : Addr) (φ : Fr) (a b c sd v : Int), vs = [.ref fr, .int a, .int b, .int c, .int sd, .int v] ∧ FrA H fr s o t φ ∧ Bd 79 a ∧ Bd 79 b ∧ Bd 80 c ∧ Bd 80 sd ∧ Bd 8 v ∧ 1 ≤ v ∧ ∀ H', Same H H' → Q (.bl true) H'
theorem bd0 {k : Nat} : Bd k 0 := ⟨by rw [Int.natAbs_zero]; exact Nat.pow_pos (by decide)⟩
section
variable {P : Program} {w : World} {K : PySem.W.Frag} {mg : Str → Option Value} {base : Heap}
theorem scBetwR : FnScope ["frame", "a", "b", "c", "side", "over", "one", "two", "half"] ["frame", "a", "b", "c", "side", "over"] (defScope sBetwR) := ⟨rfl, rfl, rfl, by decide +kernel, rfl, by decide +kernel, by decide +kernel⟩
theorem ok_betwR {f : Addr} {fd : FuncData} (F : Fun K "_law_between_right" "_law_between_right" sBetwR f fd) (T : TL mg) (CS : Cl P w K mg base 3 "_law_spot" spSpot) (CB : Cl P w K mg base 4 "is_between" spBetw) (CM : Cl P w K mg base 4 "middle_of" spMid) :
    FnOk P w K mg base CX0 5 f fd ["frame", "a", "b", "c", "side", "over"] spBetwR := by
  refine F.ok scBetwR (fun vs H Q E h => ?_) (fun cdv A outer s H vs Q E hr h => ?_)
  · obtain ⟨fr, s, o, t, φ, a, b, c, sd, v, rfl, _⟩ := h
    rfl
  · obtain ⟨fr, s, o, t, φ, a, b, c, sd, v, rfl, hf, ba, bb, bc, bs, bv, hv, k⟩ := h
    have hu := hr.units
    refine ⟨_, (pss_cons (ps_par (i := 6) (j := 7) (by rfl) scBetwR.nd rfl rfl (by decide) rfl rfl (pa_cons (pe_cl CS hr (by decide) (by rfl) (pa_cons (pv 0) (pa_cons (pv 1) (pa_cons (pe_int) (pa_cons (pv 5) pa_nil))))) (pa_cons (pe_cl CS hr (by decide) (by rfl) (pa_cons (pv 0) (pa_cons (pv 2) (pa_cons (pe_int) (pa_cons (pv 5) pa_nil))))) pa_nil)) (by rfl))
      (pss_cons (ps_if (pt_cmpR op_ne (pe_callB call_repr_bl (by rfl) T.repr (by decide +kernel) (pa_cons (pe_cl CB hr (by decide) (by rfl) (pa_cons (pe_cl CS hr (by decide) (by rfl) (pa_cons (pv 0) (pa_cons (pv 3) (pa_cons (pe_int) (pa_cons (pv 5) pa_nil))))) (pa_cons (pv 6) (pa_cons (pv 7) pa_nil)))) pa_nil))
          (pe_callB call_repr_bl (by rfl) T.repr (by decide +kernel) (pa_cons (pe_chain op_le op_le (pe_callB (call_min2 rfl) (by rfl) T.min (by decide +kernel) (pa_cons (pv 1) (pa_cons (pv 2) pa_nil))) (pv 3) (pe_callB (call_max2 rfl) (by rfl) T.max (by decide +kernel) (pa_cons (pv 1) (pa_cons (pv 2) pa_nil)))) pa_nil)) (nomark _)) (pss_one (ps_ret pe_bl)) pss_nil)
      (pss_cons (ps_if (pw_and (pt_cmpR op_ne (pv 4) pe_int (nomark _)) (pw_and1 (pt_cmpR op_notBl (pe_cl CB hr (by decide) (by rfl) (pa_cons (pe_cl CS hr (by decide) (by rfl) (pa_cons (pv 0) (pa_cons (pv 3) (pa_cons (pv 4) (pa_cons (pv 5) pa_nil))))) (pa_cons (pv 6) (pa_cons (pv 7) pa_nil)))) pe_bl (nomark _)))).pt (pss_one (ps_ret pe_bl)) pss_nil)
      (pss_cons (ps_set (i := 8) scBetwR.nd rfl (Or.inl rfl) (pe_cl CM hr (by decide) (by rfl) (pa_cons (pv 6) (pa_cons (pv 7) pa_nil))))
      (pss_cons (ps_if (pw_or (pt_cmpR (op_neD hu) (pv 8) (pe_cl CS hr (by decide) (by rfl) (pa_cons (pv 0) (pa_cons (pe_op op_add (pv 1) (pv 2)) (pa_cons (pe_int) (pa_cons (pe_op op_mulW pe_int (pv 5)) pa_nil))))) (nomark _)) (pw_or1 (pt_cmpR (op_neD hu) (pe_cl CM hr (by decide) (by rfl) (pa_cons (pv 7) (pa_cons (pv 6) pa_nil))) (pv 8) (nomark _)))).pt (pss_one (ps_ret pe_bl)) pss_nil)
      (pss_one (ps_ret (pe_and (pe_cmpR op_isBl (pe_cl CB hr (by decide) (by rfl) (pa_cons (pv 8) (pa_cons (pv 6) (pa_cons (pv 7) pa_nil)))) pe_bl (nomark _)) (pe_one (pe_cmpR op_isBl (pe_cl CB hr (by decide) (by rfl) (pa_cons (pv 6) (pa_cons (pv 6) (pa_cons (pv 7) pa_nil)))) pe_bl (nomark _))))))))))), ?_⟩
    have ba' := ba.le (by decide : 79 ≤ 80)
    have bb' := bb.le (by decide : 79 ≤ 80)
    have bv' := bv.le (by decide : 8 ≤ 10)
    have hw := hf.b.w
    have hk := hf.b.k
    refine q_parP (ept_spot (ev_var rfl) (ev_var rfl) ev_c (ev_var rfl) hf ba' bd0 bv' hv) (ept_spot (ev_var rfl) (ev_var rfl) ev_c (ev_var rfl) hf bb' bd0 bv' hv) fun l1 l2 H1 e1 x1 x2 => ?_
    refine q_not (et_test (ev_is (ev_op (ev_reprb (ev_btw (ept_spot (ev_var rfl) (ev_var rfl) ev_c (ev_var rfl) (fr_mono e1 hf) bc bd0 bv' hv) (ept_var rfl x1) (ept_var rfl x2))) (ev_reprb (ev_chain (ev_min2 (ev_var rfl) (ev_var rfl)) (ev_var rfl) (ev_max2' (ev_var rfl) (ev_var rfl)))) (rv_ne rfl)) ?_)) fun H2 e2 => ?_
    · rw [bet_line hw hk hv, decide_eq_true rfl]
      rfl
    have y1 := pt_mono e2 x1
    have y2 := pt_mono e2 x2
    have e12 := e1.trans e2
    have hf2 := fr_mono e12 hf
    refine q_not (et_is (et_and (et_test (ev_neI (ev_var (i := 4) rfl) rfl)) (fun z => et_test (ev_notB (d := false) (ev_btw (ept_spot (ev_var rfl) (ev_var rfl) (ev_var rfl) (ev_var rfl) hf2 bc bs bv' hv) (ept_var rfl y1) (ept_var rfl y2)) ?_))) (Bool.and_false _)) fun H3 e3 => ?_
    · have sn : sd ≠ 0 := by
        intro q
        rw [q] at z
        cases z
      rw [bet_side hw hk hv sn]
      rfl
    have z1 := pt_mono e3 y1
    have z2 := pt_mono e3 y2
    have e13 := e12.trans e3
    have bab : Bd 80 (a + b) := ba.add bb
    have b2v : Bd 10 (2 * v) := bd2.mul bv
    have h2v : 1 ≤ 2 * v := by omega
    obtain ⟨hpH, hbH⟩ : Pt (spot φ (a + b) 0 (2 * v)) ∧ B3 1000 (spot φ (a + b) 0 (2 * v)) := by
      have z := spot_of (H := upd H 0 (.tup (spot φ (a + b) 0 (2 * v)).vs)) (l := 0) hf.b bab bd0 b2v h2v upd_same
      exact ⟨z.pt, z.b⟩
    refine q_asgP (ept_mid (ept_var rfl z1) (ept_var rfl z2) (half_spot hw hv) hbH hpH) fun l3 H4 e4 x3 => ?_
    have w1 := pt_mono e4 z1
    have w2 := pt_mono e4 z2
    have hf4 := fr_mono (e13.trans e4) hf
    have hs : half (spot φ b 0 v) (spot φ a 0 v) = spot φ (a + b) 0 (2 * v) := by rw [half_spot hw hv, Int.add_comm]
    refine q_not (et_is (et_or (et_test (ev_neSame (ept_var rfl x3) (ept_spot (ev_var rfl) (ev_op (ev_var rfl) (ev_var rfl) rv_I0) ev_c (EI.mul (ei_c bd2) (ei_var rfl bv)).v hf4 bab bd0 b2v h2v))) (fun _ => et_test (ev_neSame (ept_mid (ept_var rfl w2) (ept_var rfl w1) hs hbH hpH) (ept_var rfl x3)))) rfl) fun H5 e5 => ?_
    refine s_ret (ev_andV (ev_isB (d := true) (ev_btw (ept_var rfl (pt_mono e5 x3)) (ept_var rfl (pt_mono e5 w1)) (ept_var rfl (pt_mono e5 w2))) ?_) fun _ => ev_isB (d := true) (ev_btw (ept_var rfl (pt_mono e5 w1)) (ept_var rfl (pt_mono e5 w1)) (ept_var rfl (pt_mono e5 w2))) ?_) fun H6 e6 => k H6 (((e13.trans e4).trans e5).trans e6)
    · rw [bet_half hw hv]
      rfl
    · rw [bet_end]
      rfl
end
end Q
set_option Elab.async false
set_option linter.all false
set_option maxRecDepth 100000
set_option maxHeartbeats 2000000
namespace Q
open PySem L2 PySem.Spec PyProof.Rows PySem.Calls
open PM Evl
abbrev sSqR : Stmt := top 44
abbrev sLinR : Stmt := top 45
/-- a def that may raise, called where it doesn't -/
structure ClX (P : Program) (w : World) (K : PySem.W.Frag) (mg : Str → Option Value) (base : Heap) (k : Nat) (x : Str) (sp : Sp) : Prop where
  ex : ∃ (f : Addr) (fd : FuncData) (ps : List Str), FnOk P w K mg base (L2.CX P w) k f fd ps sp ∧ mg x = some (.ref f) ∧ PySem.W.keepIn K (.ref f) = true ∧ Binds K fd ps []
theorem passX0 {X : Cx} : Passes (L2.CX X.prog X.w) X E0 := by
  intro pins σ H s e s' I h
  obtain ⟨a, B, H', cls, d, ea, fl, hok, ub, na, os, ag, he⟩ := h
  exact False.elim he
section
variable {X : Cx} {k j : Nat} {x : Str} {sp : Sp} {p pos : Pos} {e : Expr} {es : List Expr} {t : TA}
theorem pe_clX (c : ClX X.prog X.w X.K X.mg X.base k x sp) (hr : Room j X.A) (hk : k ≤ j) (hg : Gl X x) (ha : PA X (e :: es) t)
    (hdb : (x == ("__debug__" : Str)) = false := by decide) (he : starEach (e :: es) X.env = (false, eval e X.env) :: starEach es X.env := by rfl) (hpl : (backTo pos (starEach es X.env)).any (·.1) = false := by rfl) :
    PE X (.Call (.Name x p) (e :: es) [] pos) (tCall sp [] E0 t) := by
  obtain ⟨f, fd, ps, F, hm, kp, b⟩ := c.ex
  exact pe_call F (hr.mono hk) hg hm kp b .nil passX0 ha hdb he hpl
end
section
variable {K : PySem.W.Frag} {σ : L2.St} {H : Hp} {ta tb tc td te : TE} {n m l g : Int} {b : Bool} {D : Ends} {u : TS} {p q r s z : P3} {i j : Nat} {E : XK} {v1 v2 : V} {C : Addr}
theorem q_par (h1 : Ev ta σ H v1) (h2 : Ev tb σ H v2) (k : ∀ H1, Ex H H1 → u D ((σ.set i (some v1)).set j (some v2)) H1) : tSeq (tPar i j (tCons ta (tCons tb tNil))) u D σ H :=
  h1 H (Ex.refl H) _ fun H2 e2 => h2 H2 e2 _ fun H3 e3 => ⟨_, _, rfl, k H3 (e2.trans e3)⟩
theorem ev_dv (ha : Ev ta σ H (.int m)) (hb : Ev tb σ H (.int g)) (h0 : g ≠ 0) (hl : g.natAbs.log2 < 9000) : Ev (tOp (rI CDv fun i j => .int (i.fdiv j)) ta tb) σ H (.int (m.fdiv g)) := ev_op ha hb (rv_I ⟨h0, hl⟩)
theorem ev_shared (ha : Ev ta σ H (.int m)) (hb : Ev tb σ H (.int n)) : Ev (tCall spShared [] E (tCons ta (tCons tb tNil))) σ H (.int ((Nat.gcd m.natAbs n.natAbs : Nat) : Int)) := ev_call (ea_cons ha (ea_cons hb ea_nil)) fun H1 _ Q q _ => ⟨_, _, rfl, q H1 (Ex.refl _)⟩
theorem eu_sqb (h1 : EvPt ta σ H p) (h2 : EvPt tb σ H q) : EvU (tCall spSqB [] E (tCons ta (tCons tb tNil))) σ H [.int (sq p q).1, .int (sq p q).2] := fun H1 e Q k =>
  h1 H1 e _ fun l1 H2 e2 x1 => h2 H2 (e.trans e2) _ fun l2 H3 e3 x2 => ⟨l1, l2, p, q, rfl, pt_mono e3 x1, x2, fun l H4 h4 e4 y => k l H4 (fresh_back (e2.trans e3) h4) ((e2.trans e3).trans e4) y⟩
theorem shaped2 (a b : Int) : SeqAt.shaped (.tuple [.int a, .int b]) = true := rfl
theorem ev_eq2 {a : Addr} {m' n' : Int} (h : EvU ta σ H [.int m, .int n]) (hb : Ev tb σ H (.ref a)) (ha : H a = some (.tup [.int m', .int n'])) (e1 : m = m') (e2 : n = n') : Ev (tOp (rEqD K) ta tb) σ H (.bl true) := fun H1 e Q k =>
  h H1 e _ fun l H2 _ e2' hl => hb H2 (e.trans e2') _ fun H3 e3' => by
    subst e1 e2
    refine ⟨.tuple [.int m, .int n], .tuple [.int m, .int n], .tup (SqT.of (e3' _ _ hl)) (.cons (.int _) (.cons (.int _) .nil)), .tup (SqT.of (e3' _ _ (e2' _ _ (e _ _ ha)))) (.cons (.int _) (.cons (.int _) .nil)), shaped2 _ _, shaped2 _ _, ?_⟩
    have z : PyData.eqv (.tuple [.int m, .int n]) (.tuple [.int m, .int n]) = true := by simp [PyData.eqv, PyData.eqvAll]
    rw [z]
    exact k H3 (e2'.trans e3')
theorem ept_meet (h1 : EvPt ta σ H p) (h2 : EvPt tb σ H q) (h3 : EvPt tc σ H r) (h4 : EvPt td σ H s) (hpq : p ≠ q) (hrs : r ≠ s) (hz : (mt p q r s).w ≠ 0 ∧ mts p q r s = z) (pz : Pt z) (bz : B3 1000 z) : EvPt (tCall (spMeet C) [] E0 (tCons ta (tCons tb (tCons tc (tCons td tNil))))) σ H z := fun H1 e Q k =>
  h1 H1 e _ fun l1 H2 e2 x1 => h2 H2 (e.trans e2) _ fun l2 H3 e3 x2 => h3 H3 ((e.trans e2).trans e3) _ fun l3 H4 e4 x3 => h4 H4 (((e.trans e2).trans e3).trans e4) _ fun l4 H5 e5 x4 =>
    ⟨l1, l2, l3, l4, p, q, r, s, rfl, pt_mono ((e3.trans e4).trans e5) x1, pt_mono (e4.trans e5) x2, pt_mono e5 x3, x4, fun h => (h.elim hpq hrs).elim, fun _ _ => ⟨fun w0 => absurd w0 hz.1, fun _ l H6 _ e6 y => k l H6 ((((e2.trans e3).trans e4).trans e5).trans e6) ⟨by rw [← hz.2]; exact y, pz, bz⟩⟩⟩
theorem ev_meetN (h1 : EvPt ta σ H p) (h2 : EvPt tb σ H q) (h3 : EvPt tc σ H r) (h4 : EvPt td σ H s) (hpq : p ≠ q) (hrs : r ≠ s) (hz : (mt p q r s).w = 0) : Ev (tCall (spMeet C) [] E0 (tCons ta (tCons tb (tCons tc (tCons td tNil))))) σ H .non := fun H1 e Q k =>
  h1 H1 e _ fun l1 H2 e2 x1 => h2 H2 (e.trans e2) _ fun l2 H3 e3 x2 => h3 H3 ((e.trans e2).trans e3) _ fun l3 H4 e4 x3 => h4 H4 (((e.trans e2).trans e3).trans e4) _ fun l4 H5 e5 x4 =>
    ⟨l1, l2, l3, l4, p, q, r, s, rfl, pt_mono ((e3.trans e4).trans e5) x1, pt_mono (e4.trans e5) x2, pt_mono e5 x3, x4, fun h => (h.elim hpq hrs).elim, fun _ _ => ⟨fun _ H6 e6 => k H6 ((((e2.trans e3).trans e4).trans e5).trans e6), fun w0 => absurd hz w0⟩⟩
theorem ev_refused (h1 : EvPt ta σ H p) (h2 : EvPt tb σ H q) (h3 : EvPt tc σ H r) (h4 : EvPt td σ H s) (hn : p = q ∨ r = s) : Ev (tCall spRefused [] E (tCons ta (tCons tb (tCons tc (tCons td tNil))))) σ H (.bl true) := fun H1 e Q k =>
  h1 H1 e _ fun l1 H2 e2 x1 => h2 H2 (e.trans e2) _ fun l2 H3 e3 x2 => h3 H3 ((e.trans e2).trans e3) _ fun l3 H4 e4 x3 => h4 H4 (((e.trans e2).trans e3).trans e4) _ fun l4 H5 e5 x4 =>
    ⟨l1, l2, l3, l4, p, q, r, s, rfl, pt_mono ((e3.trans e4).trans e5) x1, pt_mono (e4.trans e5) x2, pt_mono e5 x3, x4, hn, fun H6 e6 => k H6 ((((e2.trans e3).trans e4).trans e5).trans e6)⟩
theorem q_asgL2 (h1 : EvPt ta σ H p) (h2 : EvPt tb σ H q) (k : ∀ a l1 l2 H1, Ex H H1 → H1 a = some (.lst [.ref l1, .ref l2]) → PtA H1 l1 p → PtA H1 l2 q → u D (σ.set i (some (.ref a))) H1) : tSeq (tAsg (tLst (tCons ta (tCons tb tNil))) (gName i)) u D σ H :=
  h1 H (Ex.refl H) _ fun l1 H2 e2 x1 => h2 H2 e2 _ fun l2 H3 e3 x2 => ⟨(by show 2 ≤ sizeLine; decide), fun a ha => k a l1 l2 _ ((e2.trans e3).trans (Ex.new ha)) upd_same (pt_mono (e3.trans (Ex.new ha)) x1) (pt_mono (Ex.new ha) x2)⟩
theorem ept_ixL {a : Addr} {xs : List V} {k : Int} {l : Addr} (h : σ[i]? = some (some (.ref a))) (hx : H a = some (.lst xs)) (hk : atI xs k = some (.ref l)) (x : PtA H l p) : EvPt (tOp (rIxL K) (tVar i) (tC (.int k))) σ H p := fun H1 e Q q =>
  ⟨_, h, a, xs, k, _, rfl, rfl, SqL.of (e _ _ hx), hk, q l H1 (Ex.refl _) (pt_mono e x)⟩
theorem ev_isNone (h : Ev te σ H .non) : Ev (tOp rIsN te (tC .non)) σ H (.bl true) := ev_op h ev_c fun H1 _ Q q => ⟨rfl, q H1 (Ex.refl _)⟩
theorem ev_notNone (h : Ev te σ H .non) : Ev (tOp rNotN te (tC .non)) σ H (.bl false) := ev_op h ev_c fun H1 _ Q q => ⟨rfl, q H1 (Ex.refl _)⟩
theorem ev_eqI (ha : Ev ta σ H (.int n)) (hb : Ev tb σ H (.int m)) : Ev (tOp rEq ta tb) σ H (.bl (decide (n = m))) := ev_is (ev_op ha hb (rv_eq rfl)) (congrArg V.bl (decide_eq_decide.mpr ⟨fun h => by injection h, fun h => by rw [h]⟩))
theorem q_yes {t : TT} {tu : TS} (h : EvT t σ H true) (k : ∀ H1, Ex H H1 → tu { D with nx := u D } σ H1) : tSeq (tIfS t tu tNext) u D σ H := q_when h (fun _ => k) fun z => nomatch z
end
theorem sq_lowp (p q : P3) : sq p q = lowp (PM.dx p q * PM.dx p q + PM.dy p q * PM.dy p q) ((p.w * q.w) ^ 2) := rfl
def spSqR : Sp := fun vs H Q _ => ∃ (fr s o t : Addr) (φ : Fr) (a b c d v : Int), vs = [.ref fr, .int a, .int b, .int c, .int d, .int v] ∧ FrA H fr s o t φ ∧ Bd 80 a ∧ Bd 80 b ∧ Bd 80 c ∧ Bd 80 d ∧ Bd 10 v ∧ 1 ≤ v ∧ ∀ H', Same H H' → Q (.bl true) H'
section
variable {P : Program} {w : World} {K : PySem.W.Frag} {mg : Str → Option Value} {base : Heap} {C : Addr}
theorem scSqR : FnScope ["frame", "a", "b", "c", "d", "over", "spot", "one", "two", "x", "y", "top", "bottom", "shared", "first", "second", "due"] ["frame", "a", "b", "c", "d", "over"] (defScope sSqR) := ⟨rfl, rfl, rfl, by decide +kernel, rfl, by decide +kernel, by decide +kernel⟩
theorem ok_sqR {f : Addr} {fd : FuncData} (F : Fun K "_law_squares_right" "_law_squares_right" sSqR f fd) (CS : Cl P w K mg base 3 "_law_spot" spSpot) (CG : Cl P w K mg base 1 "_law_shared" spShared) (CQ : Cl P w K mg base 4 "square_between" spSqB) :
    FnOk P w K mg base CX0 5 f fd ["frame", "a", "b", "c", "d", "over"] spSqR := by
  refine F.ok scSqR (fun vs H Q E h => ?_) (fun cdv A outer s H vs Q E hr h => ?_)
  · obtain ⟨fr, s, o, t, φ, a, b, c, d, v, rfl, _⟩ := h
    rfl
  · obtain ⟨fr, s, o, t, φ, a, b, c, d, v, rfl, hf, ba, bb, bc, bd, bv, hv, k⟩ := h
    have hu := hr.units
    refine ⟨_, (pss_cons (ps_asg (pv 0) (pg_tup (by rfl) (pgs_cons (pg_name (i := 6) scSqR.nd rfl (.inl rfl)) (pgs_cons (pg_name (i := 7) scSqR.nd rfl (.inl rfl)) (pgs_cons (pg_name (i := 8) scSqR.nd rfl (.inl rfl)) pgs_nil)))))
      (pss_cons (ps_par (i := 9) (j := 10) (by rfl) scSqR.nd rfl rfl (by decide) rfl rfl (pa_cons (pe_op op_add (pe_op op_mulW (pe_op op_sub (pv 1) (pv 3)) (pe_ix ix_tup (pv 7) pe_int (fun _ _ => rfl))) (pe_op op_mulW (pe_op op_sub (pv 2) (pv 4)) (pe_ix ix_tup (pv 8) pe_int (fun _ _ => rfl)))) (pa_cons (pe_op op_add (pe_op op_mulW (pe_op op_sub (pv 1) (pv 3)) (pe_ix ix_tup (pv 7) pe_int (fun _ _ => rfl))) (pe_op op_mulW (pe_op op_sub (pv 2) (pv 4)) (pe_ix ix_tup (pv 8) pe_int (fun _ _ => rfl)))) pa_nil)) (by rfl))
      (pss_cons (ps_par (i := 11) (j := 12) (by rfl) scSqR.nd rfl rfl (by decide) rfl rfl (pa_cons (pe_op op_add (pe_op op_mulW (pv 9) (pv 9)) (pe_op op_mulW (pv 10) (pv 10))) (pa_cons (pe_op op_mulW (pv 5) (pv 5)) pa_nil)) (by rfl))
      (pss_cons (ps_set (i := 13) scSqR.nd rfl (Or.inl rfl) (pe_cl CG hr (by decide) (by rfl) (pa_cons (pv 11) (pa_cons (pv 12) pa_nil))))
      (pss_cons (ps_par (i := 14) (j := 15) (by rfl) scSqR.nd rfl rfl (by decide) rfl rfl (pa_cons (pe_cl CS hr (by decide) (by rfl) (pa_cons (pv 0) (pa_cons (pv 1) (pa_cons (pv 2) (pa_cons (pv 5) pa_nil))))) (pa_cons (pe_cl CS hr (by decide) (by rfl) (pa_cons (pv 0) (pa_cons (pv 3) (pa_cons (pv 4) (pa_cons (pv 5) pa_nil))))) pa_nil)) (by rfl))
      (pss_cons (ps_set (i := 16) scSqR.nd rfl (Or.inl rfl) (pe_tup (pa_cons (pe_op op_dv (pv 11) (pv 13)) (pa_cons (pe_op op_dv (pv 12) (pv 13)) pa_nil))))
      (pss_one (ps_ret (pe_and (pe_cmpR (op_eqD hu) (pe_cl CQ hr (by decide) (by rfl) (pa_cons (pv 14) (pa_cons (pv 15) pa_nil))) (pv 16) (nomark _)) (pe_one (pe_cmpR (op_eqD hu) (pe_cl CQ hr (by decide) (by rfl) (pa_cons (pv 15) (pa_cons (pv 14) pa_nil))) (pv 16) (nomark _)))))))))))), ?_⟩
    have B := hf.b
    have m1 := (sq_lowp _ _).trans (sq_spot (φ := φ) (a := a) (b := b) (c := c) (d := d) B.w hv)
    have m2 := (sq_lowp _ _).trans (sq_spot (φ := φ) (a := c) (b := d) (c := a) (d := b) B.w hv)
    have m3 : ((c - a) * φ.o0 + (d - b) * φ.t0) * ((c - a) * φ.o0 + (d - b) * φ.t0) + ((c - a) * φ.o1 + (d - b) * φ.t1) * ((c - a) * φ.o1 + (d - b) * φ.t1) = ((a - c) * φ.o0 + (b - d) * φ.t0) * ((a - c) * φ.o0 + (b - d) * φ.t0) + ((a - c) * φ.o1 + (b - d) * φ.t1) * ((a - c) * φ.o1 + (b - d) * φ.t1) := by grind
    rw [m3] at m2
    have bx : Bd 182 ((a - c) * φ.o0 + (b - d) * φ.t0) := ((ba.sub bc).mul B.o0).add ((bb.sub bd).mul B.t0)
    have by_ : Bd 182 ((a - c) * φ.o1 + (b - d) * φ.t1) := ((ba.sub bc).mul B.o1).add ((bb.sub bd).mul B.t1)
    refine st_unp3 (val_var rfl) hf.a ?_
    refine q_par (EI.add (EI.mul (EI.sub (ei_var (i := 1) rfl ba) (ei_var (i := 3) rfl bc)) ⟨ev_ixT (ev_var (i := 7) rfl) hf.o rfl, B.o0⟩) (EI.mul (EI.sub (ei_var (i := 2) rfl bb) (ei_var (i := 4) rfl bd)) ⟨ev_ixT (ev_var (i := 8) rfl) hf.t rfl, B.t0⟩)).v (EI.add (EI.mul (EI.sub (ei_var (i := 1) rfl ba) (ei_var (i := 3) rfl bc)) ⟨ev_ixT (ev_var (i := 7) rfl) hf.o rfl, B.o1⟩) (EI.mul (EI.sub (ei_var (i := 2) rfl bb) (ei_var (i := 4) rfl bd)) ⟨ev_ixT (ev_var (i := 8) rfl) hf.t rfl, B.t1⟩)).v fun H1 e1 => ?_
    generalize (a - c) * φ.o0 + (b - d) * φ.t0 = x at m1 m2 bx ⊢
    generalize (a - c) * φ.o1 + (b - d) * φ.t1 = y at m1 m2 by_ ⊢
    refine q_par (EI.add (EI.mul (ei_var (i := 9) rfl bx) (ei_var (i := 9) rfl bx)) (EI.mul (ei_var (i := 10) rfl by_) (ei_var (i := 10) rfl by_))).v (EI.mul (ei_var (i := 5) rfl bv) (ei_var (i := 5) rfl bv)).v fun H2 e2 => ?_
    have vv : 0 < v * v := Int.mul_pos (by omega) (by omega)
    have bvv : Bd 20 (v * v) := bv.mul bv
    generalize x * x + y * y = top' at m1 m2 ⊢
    generalize v * v = bot at m1 m2 vv bvv ⊢
    refine q_asg (ev_shared (ev_var rfl) (ev_var rfl)) fun H3 e3 => ?_
    have e13 := (e1.trans e2).trans e3
    refine q_parP (ept_spot (ev_var rfl) (ev_var rfl) (ev_var rfl) (ev_var rfl) (fr_mono e13 hf) ba bb bv hv) (ept_spot (ev_var rfl) (ev_var rfl) (ev_var rfl) (ev_var rfl) (fr_mono e13 hf) bc bd bv hv) fun l1 l2 H4 e4 x1 x2 => ?_
    have g0 := g2_pos (t := top') vv
    have gl : ((Nat.gcd top'.natAbs bot.natAbs : Nat) : Int).natAbs.log2 < 9000 := (bvv.of_le (by
      rw [Int.natAbs_natCast]
      exact Nat.le_of_dvd (by omega) (Nat.gcd_dvd_right _ _))).log (by decide)
    refine q_asgU (eu_tup (ea_cons (ev_dv (ev_var rfl) (ev_var rfl) (by omega) gl) (ea_cons (ev_dv (ev_var rfl) (ev_var rfl) (by omega) gl) ea_nil)) (by show 2 ≤ 100000; decide)) fun l3 H5 _ e5 h5 => ?_
    have q1 : top'.fdiv ((Nat.gcd top'.natAbs bot.natAbs : Nat) : Int) = (lowp top' bot).1 := Int.fdiv_eq_ediv_of_dvd (PySem.W.mg_dvd_left top' bot)
    have q2 : bot.fdiv ((Nat.gcd top'.natAbs bot.natAbs : Nat) : Int) = (lowp top' bot).2 := Int.fdiv_eq_ediv_of_dvd (PySem.W.mg_dvd_right top' bot)
    rw [q1, q2] at h5
    have y1 := pt_mono e5 x1
    have y2 := pt_mono e5 x2
    refine s_ret (ev_andV (ev_eq2 (eu_sqb (ept_var rfl y1) (ept_var rfl y2)) (ev_var (i := 16) rfl) h5 (congrArg Prod.fst m1) (congrArg Prod.snd m1)) fun _ => ev_eq2 (eu_sqb (ept_var rfl y2) (ept_var rfl y1)) (ev_var (i := 16) rfl) h5 (congrArg Prod.fst m2) (congrArg Prod.snd m2)) fun H6 e6 => k H6 (((e13.trans e4).trans e5).trans e6)
end
end Q
set_option Elab.async false
set_option linter.all false
set_option maxRecDepth 100000
set_option maxHeartbeats 2000000
namespace Q
open PySem L2 PySem.Spec PyProof.Rows PySem.Calls
open PM Evl
section
variable {P : Program} {w : World} {K : PySem.W.Frag} {mg : Str → Option Value} {base : Heap} {C : Addr}
theorem pt_at {φ : Fr} (hφ : FrB φ) {m n v : Int} (bm : Bd 80 m) (bn : Bd 80 n) (bv : Bd 10 v) (hv : 1 ≤ v) : Pt (spot φ m n v) ∧ B3 1000 (spot φ m n v) := by
  have z := spot_of (H := upd (fun _ => none) 0 (.tup (spot φ m n v).vs)) (l := 0) hφ bm bn bv hv upd_same
  exact ⟨z.pt, z.b⟩
theorem scLinR : FnScope ["frame", "a", "b", "c", "d", "over", "one", "two", "three", "four", "beside"] ["frame", "a", "b", "c", "d", "over"] (defScope sLinR) := ⟨rfl, rfl, rfl, by decide +kernel, rfl, by decide +kernel, by decide +kernel⟩
theorem ok_linR {f : Addr} {fd : FuncData} (F : Fun K "_law_lines_right" "_law_lines_right" sLinR f fd) (CS : Cl P w K mg base 3 "_law_spot" spSpot) (CR : Cl P w K mg base 5 "_law_is_refused" spRefused) (CM : ClX P w K mg base 4 "line_meet" (spMeet C)) :
    FnOk P w K mg base CX0 6 f fd ["frame", "a", "b", "c", "d", "over"] spSqR := by
  refine F.ok scLinR (fun vs H Q E h => ?_) (fun cdv A outer s H vs Q E hr h => ?_)
  · obtain ⟨fr, s, o, t, φ, a, b, c, d, v, rfl, _⟩ := h
    rfl
  · obtain ⟨fr, s, o, t, φ, a, b, c, d, v, rfl, hf, ba, bb, bc, bd, bv, hv, k⟩ := h
    have hu := hr.units
    refine ⟨_, (pss_cons (ps_par (i := 6) (j := 7) (by rfl) scLinR.nd rfl rfl (by decide) rfl rfl (pa_cons (pe_cl CS hr (by decide) (by rfl) (pa_cons (pv 0) (pa_cons (pv 1) (pa_cons (pe_int) (pa_cons (pv 5) pa_nil))))) (pa_cons (pe_cl CS hr (by decide) (by rfl) (pa_cons (pv 0) (pa_cons (pv 2) (pa_cons (pe_int) (pa_cons (pv 5) pa_nil))))) pa_nil)) (by rfl))
      (pss_cons (ps_par (i := 8) (j := 9) (by rfl) scLinR.nd rfl rfl (by decide) rfl rfl (pa_cons (pe_cl CS hr (by decide) (by rfl) (pa_cons (pv 0) (pa_cons (pe_int) (pa_cons (pv 3) (pa_cons (pv 5) pa_nil))))) (pa_cons (pe_cl CS hr (by decide) (by rfl) (pa_cons (pv 0) (pa_cons (pe_int) (pa_cons (pv 4) (pa_cons (pv 5) pa_nil))))) pa_nil)) (by rfl))
      (pss_cons (ps_if (pw_or (pt_cmpR op_eq (pv 1) (pv 2) (nomark _)) (pw_or1 (pt_cmpR op_eq (pv 3) (pv 4) (nomark _)))).pt (pss_one (ps_ret (pe_cl CR hr (by decide) (by rfl) (pa_cons (pv 6) (pa_cons (pv 7) (pa_cons (pv 8) (pa_cons (pv 9) pa_nil))))))) pss_nil)
      (pss_cons (ps_if (pw_or (pt_cmpR (op_neD hu) (pe_clX CM hr (by decide) (by rfl) (pa_cons (pv 6) (pa_cons (pv 7) (pa_cons (pv 8) (pa_cons (pv 9) pa_nil))))) (pe_cl CS hr (by decide) (by rfl) (pa_cons (pv 0) (pa_cons (pe_int) (pa_cons (pe_int) (pa_cons (pe_int) pa_nil))))) (nomark _)) (pw_or1 (pt_cmpR (op_neD hu) (pe_clX CM hr (by decide) (by rfl) (pa_cons (pv 9) (pa_cons (pv 8) (pa_cons (pv 7) (pa_cons (pv 6) pa_nil))))) (pe_cl CS hr (by decide) (by rfl) (pa_cons (pv 0) (pa_cons (pe_int) (pa_cons (pe_int) (pa_cons (pe_int) pa_nil))))) (nomark _)))).pt (pss_one (ps_ret pe_bl)) pss_nil)
      (pss_cons (ps_set (i := 10) scLinR.nd rfl (Or.inl rfl) (pe_lst (pa_cons (pe_cl CS hr (by decide) (by rfl) (pa_cons (pv 0) (pa_cons (pv 1) (pa_cons (pv 3) (pa_cons (pv 5) pa_nil))))) (pa_cons (pe_cl CS hr (by decide) (by rfl) (pa_cons (pv 0) (pa_cons (pv 2) (pa_cons (pv 3) (pa_cons (pv 5) pa_nil))))) pa_nil))))
      (pss_cons (ps_if (pt_cmpR op_notN1 (pe_clX CM hr (by decide) (by rfl) (pa_cons (pv 6) (pa_cons (pv 7) (pa_cons ((pe_ix ix_list (pv 10) pe_int (fun _ _ => rfl))) (pa_cons ((pe_ix ix_list (pv 10) pe_int (fun _ _ => rfl))) pa_nil))))) pe_non (nomark _)) (pss_one (ps_ret pe_bl)) pss_nil)
      (pss_one (ps_ret (pe_cmpR op_isN1 (pe_clX CM hr (by decide) (by rfl) (pa_cons (pv 6) (pa_cons (pv 7) (pa_cons (pv 7) (pa_cons (pv 6) pa_nil))))) pe_non (nomark _)))))))))), ?_⟩
    have hw := hf.b.w
    have hk := hf.b.k
    have b1 : Bd 10 (1 : Int) := ⟨by decide⟩
    have h1 : (1 : Int) ≤ 1 := by decide
    obtain ⟨p0, b0⟩ := pt_at hf.b (m := 0) (n := 0) (v := 1) bd0 bd0 b1 h1
    refine q_parP (ept_spot (ev_var rfl) (ev_var rfl) ev_c (ev_var rfl) hf ba bd0 bv hv) (ept_spot (ev_var rfl) (ev_var rfl) ev_c (ev_var rfl) hf bb bd0 bv hv) fun l1 l2 H1 e1 x1 x2 => ?_
    refine q_parP (ept_spot (ev_var rfl) ev_c (ev_var rfl) (ev_var rfl) (fr_mono e1 hf) bd0 bc bv hv) (ept_spot (ev_var rfl) ev_c (ev_var rfl) (ev_var rfl) (fr_mono e1 hf) bd0 bd bv hv) fun l3 l4 H2 e2 x3 x4 => ?_
    have e12 := e1.trans e2
    have x1 := pt_mono e2 x1
    have x2 := pt_mono e2 x2
    have hf2 := fr_mono e12 hf
    by_cases hab : a = b ∨ c = d
    · refine q_yes (et_is (et_or (et_test (ev_eqI (ev_var (i := 1) rfl) (ev_var (i := 2) rfl))) fun _ => et_test (ev_eqI (ev_var (i := 3) rfl) (ev_var (i := 4) rfl))) ?_) fun H3 e3 => ?_
      · rcases hab with q | q
        · rw [decide_eq_true q]
          rfl
        · rw [decide_eq_true q, Bool.or_true]
      · refine s_ret (ev_refused (ept_var rfl (pt_mono e3 x1)) (ept_var rfl (pt_mono e3 x2)) (ept_var rfl (pt_mono e3 x3)) (ept_var rfl (pt_mono e3 x4)) ?_) fun H4 e4 => k H4 ((e12.trans e3).trans e4)
        rcases hab with q | q
        · exact .inl (by rw [q])
        · exact .inr (by rw [q])
    · have hab1 : a ≠ b := fun q => hab (.inl q)
      have hcd : c ≠ d := fun q => hab (.inr q)
      refine q_not (et_is (et_or (et_test (ev_eqI (ev_var (i := 1) rfl) (ev_var (i := 2) rfl))) fun _ => et_test (ev_eqI (ev_var (i := 3) rfl) (ev_var (i := 4) rfl))) ?_) fun H3 e3 => ?_
      · rw [decide_eq_false hab1, decide_eq_false hcd]
        rfl
      have y1 := pt_mono e3 x1
      have y2 := pt_mono e3 x2
      have y3 := pt_mono e3 x3
      have y4 := pt_mono e3 x4
      have hf3 := fr_mono (e12.trans e3) hf
      refine q_not (et_is (et_or (et_test (ev_neSame (ept_meet (ept_var rfl y1) (ept_var rfl y2) (ept_var rfl y3) (ept_var rfl y4) (ne_spot hw hk hv (.inl hab1)) (ne_spot hw hk hv (.inr hcd)) (meet_spot hw hk hv hab1 hcd) p0 b0) (ept_spot (ev_var rfl) ev_c ev_c ev_c hf3 bd0 bd0 b1 h1)))
        (fun _ => et_test (ev_neSame (ept_meet (ept_var rfl y4) (ept_var rfl y3) (ept_var rfl y2) (ept_var rfl y1) (ne_spot hw hk hv (.inr hcd.symm)) (ne_spot hw hk hv (.inl hab1.symm)) (meet_spotb hw hk hv hab1 hcd) p0 b0) (ept_spot (ev_var rfl) ev_c ev_c ev_c hf3 bd0 bd0 b1 h1)))) rfl) fun H4 e4 => ?_
      have hf4 := fr_mono e4 hf3
      refine q_asgL2 (ept_spot (ev_var rfl) (ev_var rfl) (ev_var rfl) (ev_var rfl) hf4 ba bc bv hv) (ept_spot (ev_var rfl) (ev_var rfl) (ev_var rfl) (ev_var rfl) hf4 bb bc bv hv) fun al m1 m2 H5 e5 ha u1 u2 => ?_
      have e45 := e4.trans e5
      refine q_not (et_test (ev_notNone (ev_meetN (ept_var rfl (pt_mono e45 y1)) (ept_var rfl (pt_mono e45 y2)) (ept_ixL (i := 10) rfl ha rfl u1) (ept_ixL (i := 10) rfl ha rfl u2) (ne_spot hw hk hv (.inl hab1)) (ne_spot hw hk hv (.inl hab1)) (meet_par hw hk hv hab1)))) fun H6 e6 => ?_
      have e46 := e45.trans e6
      exact s_ret (ev_isNone (ev_meetN (ept_var rfl (pt_mono e46 y1)) (ept_var rfl (pt_mono e46 y2)) (ept_var rfl (pt_mono e46 y2)) (ept_var rfl (pt_mono e46 y1)) (ne_spot hw hk hv (.inl hab1)) (ne_spot hw hk hv (.inl hab1.symm)) (meet_same hw hk hv hab1))) fun H7 e7 => k H7 (((e12.trans e3).trans e46).trans e7)
end
end Q
set_option Elab.async false
set_option linter.all false
set_option maxRecDepth 100000
set_option maxHeartbeats 2000000
namespace Q
open PySem L2 PySem.Spec PyProof.Rows PySem.Calls
open PM Evl
abbrev sFrame : Stmt := top 38
/-- an expression that gives an integer of some kind and may draw from the bag at p -/
def EvB (p : Addr) (te : TE) (σ : L2.St) (R : Int → Prop) : Prop := ∀ (H1 : Hp), (∃ a b c : Int, H1 p = some (.lst [.int a, .int b, .int c])) → ∀ Q : VK, (∀ n H2, R n → Bgd p H1 H2 → Q (.int n) H2) → te σ H1 Q
section
variable {p : Addr} {σ : L2.St} {te ta tb tc : TE} {R S : Int → Prop} {n N : Int} {E : XK} {i : Nat} {H : Hp} {D : Ends} {u : TS}
theorem Bgd.id' {H1 : Hp} (h : ∃ a b c : Int, H1 p = some (.lst [.int a, .int b, .int c])) : Bgd p H1 H1 := ⟨h, fun _ _ _ e => e⟩
theorem eb_val (h : ∀ H, Val te σ H (.int n)) (r : R n) : EvB p te σ R := fun H1 hb Q q => h H1 _ (q n H1 r (Bgd.id' hb))
theorem eb_c (r : R n) : EvB p (tC (.int n)) σ R := eb_val (fun _ => val_c) r
theorem eb_var (h : σ[i]? = some (some (.int n))) (r : R n) : EvB p (tVar i) σ R := eb_val (fun _ => val_var h) r
theorem eb_op {g : Int → Int → Int} {T : Int → Prop} (ha : EvB p ta σ R) (hb : EvB p tb σ S) (hr : ∀ m n, R m → S n → T (g m n)) : EvB p (tOp (rI0 fun i j => .int (g i j)) ta tb) σ T := fun H1 x Q q =>
  ha H1 x _ fun m H2 r2 g2 => hb H2 g2.bag _ fun n H3 r3 g3 => ⟨m, n, rfl, rfl, q _ H3 (hr m n r2 r3) (g2.trans g3)⟩
theorem eb_mul {T : Int → Prop} (ha : EvB p ta σ R) (hb : EvB p tb σ S) (hc : ∀ m n, R m → S n → CMulW m n) (hr : ∀ m n, R m → S n → T (m * n)) : EvB p (tOp (rI CMulW fun i j => .int (i * j)) ta tb) σ T := fun H1 x Q q =>
  ha H1 x _ fun m H2 r2 g2 => hb H2 g2.bag _ fun n H3 r3 g3 => ⟨m, n, rfl, rfl, hc m n r2 r3, q _ H3 (hr m n r2 r3) (g2.trans g3)⟩
theorem eb_draw (hs : σ[i]? = some (some (.ref p))) (hn : EvB p tb σ (fun n => 0 < n ∧ n ≤ N ∧ n.natAbs.log2 < 9000)) : EvB p (tCall spDraw [] E (tCons (tVar i) (tCons tb tNil))) σ (fun r => 0 ≤ r ∧ r < N) := fun H1 x Q q =>
  ⟨_, hs, hn H1 x _ fun n H2 r2 g2 => by
    obtain ⟨a, b, c, e⟩ := g2.bag
    exact ⟨p, a, b, c, n, rfl, e, r2.1, r2.2.2, fun r H3 h0 h1 g3 => q r H3 ⟨h0, Int.lt_of_lt_of_le h1 r2.2.1⟩ (g2.trans g3)⟩⟩
/-- a number of a written list -/
theorem eb_one {ta : TA} {xs : List Int} (hs : σ[i]? = some (some (.ref p))) (ha : ∀ H1, ValA ta σ H1 (xs.map V.int)) (h0 : 0 < xs.length) (h1 : xs.length ≤ 1000) (hr : ∀ n ∈ xs, R n) : EvB p (tCall spOne [] E (tCons (tVar i) (tCons (tLst ta) tNil))) σ R := fun H1 x Q q =>
  ⟨_, hs, ha H1 _ ⟨(by rw [List.length_map]; exact Nat.le_trans h1 (by decide)), fun l hl => by
    obtain ⟨a, b, c, e⟩ := x
    have ne : l ≠ p := by
      intro z
      rw [z, e] at hl
      cases hl
    refine ⟨p, l, a, b, c, xs.map V.int, rfl, (by rw [upd_ne ne.symm]; exact e), ne, upd_same, (by rw [List.length_map]; exact h0), (by rw [List.length_map]; exact h1), fun k v H2 hv g2 => ?_⟩
    rw [List.getElem?_map] at hv
    cases hx : xs[k]? with
    | none =>
      rw [hx] at hv
      cases hv
    | some m =>
      rw [hx] at hv
      cases hv
      exact q m H2 (hr m (List.mem_of_getElem? hx)) ((Bgd.new (Bgd.id' ⟨a, b, c, e⟩) hl).trans g2)⟩⟩
theorem q_asgB (h : EvB p te σ R) (hb : ∃ a b c : Int, H p = some (.lst [.int a, .int b, .int c])) (k : ∀ n H1, R n → Bgd p H H1 → u D (σ.set i (some (.int n))) H1) : tSeq (tAsg te (gName i)) u D σ H := h H hb _ k
end
def spFrame : Sp := fun vs H Q _ => ∃ p : Addr, vs = [.ref p] ∧ (∃ a b c : Int, H p = some (.lst [.int a, .int b, .int c])) ∧
  ∀ (fr s o t : Addr) (φ : Fr) (H' : Hp), FrA H' fr s o t φ → fr ≠ p → s ≠ p → o ≠ p → t ≠ p → Bgd p H H' → Q (.ref fr) H'
theorem ne_bag {p l : Addr} {H : Hp} (h : ∃ a b c : Int, H p = some (.lst [.int a, .int b, .int c])) (hl : H l = none) : l ≠ p := by
  obtain ⟨a, b, c, e⟩ := h
  intro z
  rw [z, e] at hl
  cases hl
/-- a pair of pairs of ints -/
structure P2 (H : Hp) (l x y : Addr) (a b c d : Int) : Prop where
  l : H l = some (.tup [.ref x, .ref y])
  x : H x = some (.tup [.int a, .int b])
  y : H y = some (.tup [.int c, .int d])
theorem P2.mono {H H' : Hp} {l x y : Addr} {a b c d : Int} (e : Ex H H') (h : P2 H l x y a b c d) : P2 H' l x y a b c d := ⟨e _ _ h.l, e _ _ h.x, e _ _ h.y⟩
theorem ne_tup {p l : Addr} {H : Hp} {xs : List V} (h : ∃ a b c : Int, H p = some (.lst [.int a, .int b, .int c])) (hl : H l = some (.tup xs)) : l ≠ p := by
  obtain ⟨a, b, c, e⟩ := h
  intro z
  rw [z, e] at hl
  cases hl
theorem tup_at {p l : Addr} {H H' : Hp} {xs : List V} (g : Bgd p H H') (hb : ∃ a b c : Int, H p = some (.lst [.int a, .int b, .int c])) (hl : H l = some (.tup xs)) : H' l = some (.tup xs) := g.keep _ _ (ne_tup hb hl) hl
theorem bag_ex {p : Addr} {H H' : Hp} (e : Ex H H') (h : ∃ a b c : Int, H p = some (.lst [.int a, .int b, .int c])) : Bgd p H H' := by
  obtain ⟨a, b, c, q⟩ := h
  exact ⟨⟨a, b, c, e _ _ q⟩, fun l o _ z => e l o z⟩
def EvP2 (te : TE) (σ : L2.St) (a b c d : Int) : Prop := ∀ (H1 : Hp) (Q : VK), (∀ l x y H2, Ex H1 H2 → P2 H2 l x y a b c d → Q (.ref l) H2) → te σ H1 Q
theorem ev_p2 {σ : L2.St} {ta tb tc td : TE} {a b c d : Int} (ha : ∀ H, Val ta σ H (.int a)) (hb : ∀ H, Val tb σ H (.int b)) (hc : ∀ H, Val tc σ H (.int c)) (hd : ∀ H, Val td σ H (.int d)) :
    EvP2 (tTup (tCons (tTup (tCons ta (tCons tb tNil))) (tCons (tTup (tCons tc (tCons td tNil))) tNil))) σ a b c d := fun H1 Q q =>
  ha H1 _ (hb H1 _ ⟨(by show 2 ≤ sizeLine; decide), fun x hx => hc _ _ (hd _ _ ⟨(by show 2 ≤ sizeLine; decide), fun y hy => ⟨(by show 2 ≤ sizeLine; decide), fun l hl => q l x y _ (((Ex.new hx).trans (Ex.new hy)).trans (Ex.new hl)) ⟨upd_same, Ex.new hl _ _ (Ex.new hy _ _ upd_same), Ex.new hl _ _ upd_same⟩⟩⟩)⟩)
theorem val_neg {σ : L2.St} {H : Hp} {n : Int} : Val (tUn (rU fun i => .int (-i)) (tC (.int n))) σ H (.int (-n)) := fun Q q => ⟨n, rfl, q⟩
theorem one4 {p : Addr} {σ : L2.St} {H : Hp} {i : Nat} {E : XK} {Q : VK} {t0 t1 t2 t3 : TE} {a0 b0 c0 d0 a1 b1 c1 d1 a2 b2 c2 d2 a3 b3 c3 d3 : Int} (hs : σ[i]? = some (some (.ref p))) (h0 : EvP2 t0 σ a0 b0 c0 d0) (h1 : EvP2 t1 σ a1 b1 c1 d1) (h2 : EvP2 t2 σ a2 b2 c2 d2) (h3 : EvP2 t3 σ a3 b3 c3 d3) (hb : ∃ a b c : Int, H p = some (.lst [.int a, .int b, .int c]))
    (q : ∀ (l x y : Addr) (a b c d : Int) (G0 G : Hp), ((a = a0 ∧ b = b0 ∧ c = c0 ∧ d = d0) ∨ (a = a1 ∧ b = b1 ∧ c = c1 ∧ d = d1) ∨ (a = a2 ∧ b = b2 ∧ c = c2 ∧ d = d2) ∨ (a = a3 ∧ b = b3 ∧ c = c3 ∧ d = d3)) → Ex H G0 → P2 G0 l x y a b c d → (∃ a b c : Int, G0 p = some (.lst [.int a, .int b, .int c])) → Bgd p G0 G → Q (.ref l) G) :
    tCall spOne [] E (tCons (tVar i) (tCons (tLst (tCons t0 (tCons t1 (tCons t2 (tCons t3 tNil))))) tNil)) σ H Q :=
  ⟨_, hs, h0 _ _ fun l0 x0 y0 G0 e0 p0 => h1 _ _ fun l1 x1 y1 G1 e1 p1 => h2 _ _ fun l2 x2 y2 G2 e2 p2 => h3 _ _ fun l3 x3 y3 G3 e3 p3 => ⟨(by show 4 ≤ sizeLine; decide), fun l hl => by
    have f3 := Ex.new (o := .lst [.ref l0, .ref l1, .ref l2, .ref l3]) hl
    have f2 := e3.trans f3
    have f1 := e2.trans f2
    have f0 := e1.trans f1
    have gb := (bag_ex (e0.trans f0) hb).bag
    obtain ⟨u1, u2, u3, hb5⟩ := id gb
    have ll : upd G3 l (.lst [.ref l0, .ref l1, .ref l2, .ref l3]) l = some (.lst [.ref l0, .ref l1, .ref l2, .ref l3]) := upd_same
    have nl : l ≠ p := ne_bag ((bag_ex (((e0.trans e1).trans e2).trans e3) hb).bag) hl
    have p0 := p0.mono f0
    have p1 := p1.mono f1
    have p2 := p2.mono f2
    have p3 := p3.mono f3
    have ef := e0.trans f0
    refine ⟨p, l, u1, u2, u3, [.ref l0, .ref l1, .ref l2, .ref l3], rfl, hb5, nl, ll, (by show 0 < 4; decide), (by show 4 ≤ 1000; decide), fun i u G hu g => ?_⟩
    match i, hu with
    | 0, hu =>
      cases hu
      exact q l0 x0 y0 _ _ _ _ _ G (.inl ⟨rfl, rfl, rfl, rfl⟩) ef p0 gb g
    | 1, hu =>
      cases hu
      exact q l1 x1 y1 _ _ _ _ _ G (.inr (.inl ⟨rfl, rfl, rfl, rfl⟩)) ef p1 gb g
    | 2, hu =>
      cases hu
      exact q l2 x2 y2 _ _ _ _ _ G (.inr (.inr (.inl ⟨rfl, rfl, rfl, rfl⟩))) ef p2 gb g
    | 3, hu =>
      cases hu
      exact q l3 x3 y3 _ _ _ _ _ G (.inr (.inr (.inr ⟨rfl, rfl, rfl, rfl⟩))) ef p3 gb g
    | i + 4, hu => cases hu⟩⟩
def InS (s n : Int) : Prop := -s ≤ n ∧ n ≤ s
theorem bd_of {n : Int} (h : n.natAbs ≤ 10 ^ 20) : Bd 100 n := ⟨Nat.lt_of_le_of_lt h (by decide)⟩
theorem bd_of' {n : Int} (h : 1 ≤ n ∧ n ≤ 10 ^ 20 + 5) : Bd 100 n := ⟨Nat.lt_of_le_of_lt (show n.natAbs ≤ 10 ^ 20 + 5 by omega) (by decide)⟩
theorem log_of {n : Int} (h : n.natAbs ≤ 10 ^ 21) : n.natAbs.log2 < 9000 := (⟨Nat.lt_of_le_of_lt h (by decide)⟩ : Bd 100 n).log (by decide)
section
variable {P : Program} {w : World} {K : PySem.W.Frag} {mg : Str → Option Value} {base : Heap}
theorem scFrame : FnScope ["bag", "size", "spot", "one", "two"] ["bag"] (defScope sFrame) := ⟨rfl, rfl, rfl, by decide +kernel, rfl, by decide +kernel, by decide +kernel⟩
theorem ok_frame {f : Addr} {fd : FuncData} (F : Fun K "_law_frame" "_law_frame" sFrame f fd) (CD : Cl P w K mg base 1 "_law_draw" spDraw) (CO : Cl P w K mg base 2 "_law_one_of" spOne) : FnOk P w K mg base CX0 3 f fd ["bag"] spFrame := by
  refine F.ok scFrame (fun vs H Q E h => ?_) (fun cdv A outer s H vs Q E hr h => ?_)
  · obtain ⟨p, rfl, _⟩ := h
    rfl
  · obtain ⟨p, rfl, hb, k⟩ := h
    refine ⟨_, (pss_cons (ps_set (i := 1) scFrame.nd rfl (Or.inl rfl) (pe_cl CO hr (by decide) (by rfl) (pa_cons (pv 0) (pa_cons (pe_lst (pa_cons (pe_int) (pa_cons (pe_int) (pa_cons (pe_int) (pa_cons (pe_op op_powW pe_int pe_int) (pa_cons (pe_op op_powW pe_int pe_int) pa_nil)))))) pa_nil))))
      (pss_cons (ps_set (i := 2) scFrame.nd rfl (Or.inl rfl) (pe_lst (pa_cons (pe_op op_sub (pe_cl CD hr (by decide) (by rfl) (pa_cons (pv 0) (pa_cons (pe_op op_add (pe_op op_mulW pe_int (pv 1)) pe_int) pa_nil))) (pv 1)) (pa_cons (pe_op op_sub (pe_cl CD hr (by decide) (by rfl) (pa_cons (pv 0) (pa_cons (pe_op op_add (pe_op op_mulW pe_int (pv 1)) pe_int) pa_nil))) (pv 1)) (pa_cons (pe_op op_add pe_int (pe_cl CD hr (by decide) (by rfl) (pa_cons (pv 0) (pa_cons (pe_cl CO hr (by decide) (by rfl) (pa_cons (pv 0) (pa_cons (pe_lst (pa_cons (pe_int) (pa_cons (pe_int) (pa_cons (pv 1) pa_nil)))) pa_nil))) pa_nil)))) pa_nil)))))
      (pss_cons (ps_set (i := 3) scFrame.nd rfl (Or.inl rfl) (pe_tup (pa_cons (pe_op op_sub (pe_cl CD hr (by decide) (by rfl) (pa_cons (pv 0) (pa_cons (pe_op op_add (pe_op op_mulW pe_int (pv 1)) pe_int) pa_nil))) (pv 1)) (pa_cons (pe_op op_sub (pe_cl CD hr (by decide) (by rfl) (pa_cons (pv 0) (pa_cons (pe_op op_add (pe_op op_mulW pe_int (pv 1)) pe_int) pa_nil))) (pv 1)) pa_nil))))
      (pss_cons (ps_set (i := 4) scFrame.nd rfl (Or.inl rfl) (pe_tup (pa_cons (pe_op op_sub (pe_cl CD hr (by decide) (by rfl) (pa_cons (pv 0) (pa_cons (pe_op op_add (pe_op op_mulW pe_int (pv 1)) pe_int) pa_nil))) (pv 1)) (pa_cons (pe_op op_sub (pe_cl CD hr (by decide) (by rfl) (pa_cons (pv 0) (pa_cons (pe_op op_add (pe_op op_mulW pe_int (pv 1)) pe_int) pa_nil))) (pv 1)) pa_nil))))
      (Evl.pss_cut (ps_if (pt_cmpR op_eq (pe_op op_mulW (pe_ix ix_tup (pv 3) pe_int (fun _ _ => rfl)) (pe_ix ix_tup (pv 4) pe_int (fun _ _ => rfl))) (pe_op op_mulW (pe_ix ix_tup (pv 3) pe_int (fun _ _ => rfl)) (pe_ix ix_tup (pv 4) pe_int (fun _ _ => rfl))) (nomark _)) (pss_one (ps_asg (pe_cl CO hr (by decide) (by rfl) (pa_cons (pv 0) (pa_cons (pe_lst (pa_cons (pe_tup (pa_cons (pe_tup (pa_cons (pe_int) (pa_cons (pe_int) pa_nil))) (pa_cons (pe_tup (pa_cons (pe_int) (pa_cons (pe_int) pa_nil))) pa_nil))) (pa_cons (pe_tup (pa_cons (pe_tup (pa_cons (pe_int) (pa_cons (pe_int) pa_nil))) (pa_cons (pe_tup (pa_cons (pe_int) (pa_cons (pe_int) pa_nil))) pa_nil))) (pa_cons (pe_tup (pa_cons (pe_tup (pa_cons (pe_int) (pa_cons (pe_un un_neg pe_int) pa_nil))) (pa_cons (pe_tup (pa_cons (pe_int) (pa_cons (pe_int) pa_nil))) pa_nil))) (pa_cons (pe_tup (pa_cons (pe_tup (pa_cons (pe_un un_neg pe_int) (pa_cons (pe_int) pa_nil))) (pa_cons (pe_tup (pa_cons (pe_int) (pa_cons (pe_int) pa_nil))) pa_nil))) pa_nil))))) pa_nil))) (pg_tup (by rfl) (pgs_cons (pg_name (i := 3) scFrame.nd rfl (.inl rfl)) (pgs_cons (pg_name (i := 4) scFrame.nd rfl (.inl rfl)) pgs_nil))))) pss_nil)
      (pss_one (ps_ret (pe_tup (pa_cons (pv 2) (pa_cons (pv 3) (pa_cons (pv 4) pa_nil))))))))))), ?_⟩
    refine q_asgB (R := fun n => 1 ≤ n ∧ n ≤ 10 ^ 20) (eb_one (xs := [4, 4, 30, 10 ^ 6, 10 ^ 20]) rfl (fun H1 => ?_) (by decide) (by decide) (by decide)) hb fun z H1 hz g1 => ?_
    · refine va_cons val_c (va_cons val_c (va_cons val_c (va_cons (val_op val_c val_c fun Q q => ⟨_, _, rfl, rfl, ⟨by decide, by decide +kernel⟩, q⟩) (va_cons (val_op val_c val_c fun Q q => ⟨_, _, rfl, rfl, ⟨by decide, by decide +kernel⟩, q⟩) va_nil))))
    have cz : ∀ {σ : L2.St}, σ[0]? = some (some (.ref p)) → σ[1]? = some (some (.int z)) → EvB p (tOp (rI0 fun i j => .int (i - j)) (tCall spDraw [] E0 (tCons (tVar 0) (tCons (tOp (rI0 fun i j => .int (i + j)) (tOp (rI CMulW fun i j => .int (i * j)) (tC (.int 2)) (tVar 1)) (tC (.int 1))) tNil))) (tVar 1)) σ (InS z) := fun h0 h1 =>
      eb_op (g := fun i j => i - j) (S := fun n => n = z) (eb_draw (N := 2 * z + 1) h0 (eb_op (g := fun i j => i + j) (R := fun n => n = 2 * z) (S := fun n => n = 1) (eb_mul (R := fun n => n = 2) (S := fun n => n = z) (eb_c rfl) (eb_var h1 rfl) (fun m n hm hn => by
          subst hm hn
          exact bd2.mw (bd_of (n := n) (by omega)) (by decide)) (fun m n hm hn => by rw [hm, hn])) (eb_c rfl) (fun m n hm hn => by
          subst hm hn
          exact ⟨by omega, by omega, log_of (by omega)⟩))) (eb_var h1 rfl) (fun m n hm hn => by
        subst hn
        exact ⟨by omega, by omega⟩)
    have cw : ∀ {σ : L2.St}, σ[0]? = some (some (.ref p)) → σ[1]? = some (some (.int z)) → EvB p (tOp (rI0 fun i j => .int (i + j)) (tC (.int 1)) (tCall spDraw [] E0 (tCons (tVar 0) (tCons (tCall spOne [] E0 (tCons (tVar 0) (tCons (tLst (tCons (tC (.int 1)) (tCons (tC (.int 5)) (tCons (tVar 1) tNil)))) tNil))) tNil)))) σ (fun n => 1 ≤ n ∧ n ≤ 10 ^ 20 + 5) := fun h0 h1 =>
      eb_op (g := fun i j => i + j) (R := fun n => n = 1) (eb_c rfl) (eb_draw (N := 10 ^ 20 + 5) h0 (eb_one (xs := [1, 5, z]) h0 (fun H1 => va_cons val_c (va_cons val_c (va_cons (val_var h1) va_nil))) (by show 0 < 3; decide) (by show 3 ≤ 1000; decide) (fun n hn => by
        simp only [List.mem_cons, List.not_mem_nil, or_false] at hn
        have : 1 ≤ n ∧ n ≤ 10 ^ 20 + 5 := by omega
        exact ⟨by omega, this.2, log_of (by omega)⟩))) (fun m n hm hn => by
        subst hm
        exact ⟨by omega, by omega⟩)
    have bS : ∀ {n : Int}, InS z n → Bd 100 n := fun h => bd_of (by
      obtain ⟨a, b⟩ := h
      omega)
    refine cz rfl rfl H1 g1.bag _ fun X H2 rX g2 => cz rfl rfl H2 g2.bag _ fun Y H3 rY g3 => cw rfl rfl H3 g3.bag _ fun W H4 rW g4 => ⟨(by show 3 ≤ sizeLine; decide), fun sp hsp => ?_⟩
    have bd4 : Bgd p H H4 := ((g1.trans g2).trans g3).trans g4
    have nsp := ne_bag g4.bag hsp
    have g5 := bd4.new (o := .lst [.int X, .int Y, .int W]) hsp
    have es : upd H4 sp (.lst [.int X, .int Y, .int W]) sp = some (.lst [.int X, .int Y, .int W]) := upd_same
    generalize upd H4 sp (.lst [.int X, .int Y, .int W]) = H5 at g5 es ⊢
    refine cz rfl rfl H5 g5.bag _ fun o0 H6 r0 g6 => cz rfl rfl H6 g6.bag _ fun o1 H7 r1 g7 => ⟨(by show 2 ≤ sizeLine; decide), fun o ho => ?_⟩
    have g8 := (g5.trans (g6.trans g7)).new (o := .tup [.int o0, .int o1]) ho
    have es8 : upd H7 o (.tup [.int o0, .int o1]) sp = some (.lst [.int X, .int Y, .int W]) := Ex.new ho _ _ ((g6.trans g7).keep _ _ nsp es)
    have eo : upd H7 o (.tup [.int o0, .int o1]) o = some (.tup [.int o0, .int o1]) := upd_same
    generalize upd H7 o (.tup [.int o0, .int o1]) = H8 at g8 es8 eo ⊢
    refine cz rfl rfl H8 g8.bag _ fun t0 H9 q0 g9 => cz rfl rfl H9 g9.bag _ fun t1 H10 q1 g10 => ⟨(by show 2 ≤ sizeLine; decide), fun t ht => ?_⟩
    have g11 := (g8.trans (g9.trans g10)).new (o := .tup [.int t0, .int t1]) ht
    have es11 : upd H10 t (.tup [.int t0, .int t1]) sp = some (.lst [.int X, .int Y, .int W]) := Ex.new ht _ _ ((g9.trans g10).keep _ _ nsp es8)
    have eo11 : upd H10 t (.tup [.int t0, .int t1]) o = some (.tup [.int o0, .int o1]) := Ex.new ht _ _ (tup_at (g9.trans g10) g8.bag eo)
    have et11 : upd H10 t (.tup [.int t0, .int t1]) t = some (.tup [.int t0, .int t1]) := upd_same
    generalize upd H10 t (.tup [.int t0, .int t1]) = H11 at g11 es11 eo11 et11 ⊢
    refine q_cut (M := fun σ' H' => ∃ (o t : Addr) (o0 o1 t0 t1 : Int), σ' = [some (.ref p), some (.int z), some (.ref sp), some (.ref o), some (.ref t)] ∧ Bgd p H H' ∧ H' sp = some (.lst [.int X, .int Y, .int W]) ∧ H' o = some (.tup [.int o0, .int o1]) ∧ H' t = some (.tup [.int t0, .int t1]) ∧
        Bd 100 o0 ∧ Bd 100 o1 ∧ Bd 100 t0 ∧ Bd 100 t1 ∧ o0 * t1 - o1 * t0 ≠ 0) ?_ ?_
    · have v1 := VI.mul (σ := [some (.ref p), some (.int z), some (.ref sp), some (.ref o), some (.ref t)]) (H := H11) (vt_ix (K := K) (i := 3) (j := 0) rfl eo11 rfl (bS r0)) (vt_ix (K := K) (i := 4) (j := 1) rfl et11 rfl (bS q1))
      have v2 := VI.mul (σ := [some (.ref p), some (.int z), some (.ref sp), some (.ref o), some (.ref t)]) (H := H11) (vt_ix (K := K) (i := 3) (j := 1) rfl eo11 rfl (bS r1)) (vt_ix (K := K) (i := 4) (j := 0) rfl et11 rfl (bS q0))
      by_cases hk : o0 * t1 = o1 * t0
      · refine st_yes (ans_eq v1.v v2.v scal_int (b := true) (decide_eq_true (by rw [hk]))) ?_
        refine one4 rfl (ev_p2 (a := 1) (b := 0) (c := 0) (d := 1) (fun _ => val_c) (fun _ => val_c) (fun _ => val_c) (fun _ => val_c)) (ev_p2 (a := 2) (b := 1) (c := 1) (d := 1) (fun _ => val_c) (fun _ => val_c) (fun _ => val_c) (fun _ => val_c)) (ev_p2 (a := 0) (b := -3) (c := 5) (d := 2) (fun _ => val_c) (fun _ => val_neg) (fun _ => val_c) (fun _ => val_c)) (ev_p2 (a := -1) (b := 4) (c := 1) (d := 4) (fun _ => val_neg) (fun _ => val_c) (fun _ => val_c) (fun _ => val_c)) g11.bag fun l x y a b c d G0 G hm e0 p0 gb g => ?_
        have gg := (g11.trans (bag_ex e0 g11.bag)).trans g
        have eg := g.keep _ _ nsp (e0 _ _ es11)
        have hq : Bd 100 a ∧ Bd 100 b ∧ Bd 100 c ∧ Bd 100 d ∧ a * d - b * c ≠ 0 := by
          rcases hm with ⟨rfl, rfl, rfl, rfl⟩ | ⟨rfl, rfl, rfl, rfl⟩ | ⟨rfl, rfl, rfl, rfl⟩ | ⟨rfl, rfl, rfl, rfl⟩ <;> exact ⟨⟨by decide⟩, ⟨by decide⟩, ⟨by decide⟩, ⟨by decide⟩, by decide⟩
        exact ⟨l, _, rfl, SqT.of (tup_at g gb p0.l), rfl, _, _, rfl, _, _, rfl, rfl, x, y, a, b, c, d, rfl, gg, eg, tup_at g gb p0.x, tup_at g gb p0.y, hq.1, hq.2.1, hq.2.2.1, hq.2.2.2.1, hq.2.2.2.2⟩
      · refine st_no (ans_eq v1.v v2.v scal_int (b := false) (decide_eq_false fun h => hk (by injection h))) (st_next ?_)
        exact ⟨o, t, o0, o1, t0, t1, rfl, g11, es11, eo11, et11, bS r0, bS r1, bS q0, bS q1, by omega⟩
    · rintro σ' H12 ⟨o, t, o0, o1, t0, t1, rfl, g12, es12, eo12, et12, b1, b2, b3, b4, hk⟩
      refine ⟨_, rfl, _, rfl, _, rfl, (by show 3 ≤ sizeLine; decide), fun fr hfr => ?_⟩
      have e := Ex.new (o := .tup [.ref sp, .ref o, .ref t]) hfr
      exact k fr sp o t ⟨X, Y, W, o0, o1, t0, t1⟩ _ ⟨upd_same, e _ _ es12, e _ _ eo12, e _ _ et12, ⟨bS rX, bS rY, bd_of' rW, b1, b2, b3, b4, rW.1, hk⟩⟩ (ne_bag g12.bag hfr) nsp (ne_tup g12.bag eo12) (ne_tup g12.bag et12) (g12.new hfr)
end
end Q
set_option Elab.async false
set_option linter.all false
set_option maxRecDepth 100000
set_option maxHeartbeats 4000000
namespace Q
open PySem L2 PySem.Spec PyProof.Rows PySem.Calls
open PM Evl
abbrev sLaw : Stmt := top 48
def spPtsR : Sp := fun vs H Q _ => ∃ p : Addr, vs = [.ref p] ∧ (∃ a b c : Int, H p = some (.lst [.int a, .int b, .int c])) ∧ ∀ H', Bgd p H H' → Q (.bl true) H'
theorem FrA.bgd {p a s o t : Addr} {φ : Fr} {H H' : Hp} (x : FrA H a s o t φ) (n1 : a ≠ p) (n2 : s ≠ p) (n3 : o ≠ p) (n4 : t ≠ p) (g : Bgd p H H') : FrA H' a s o t φ := ⟨g.keep _ _ n1 x.a, g.keep _ _ n2 x.s, g.keep _ _ n3 x.o, g.keep _ _ n4 x.t, x.b⟩
theorem bag_mono {p : Addr} {H H' : Hp} (e : Ex H H') (h : ∃ a b c : Int, H p = some (.lst [.int a, .int b, .int c])) : ∃ a b c : Int, H' p = some (.lst [.int a, .int b, .int c]) := (bag_ex e h).bag
section
variable {K : PySem.W.Frag} {σ : L2.St} {H : Hp} {ta tb tc td te tf tg : TE} {E : XK} {D : Ends} {i j : Nat} {v1 v2 : V} {fr s o t : Addr} {φ : Fr} {a b c d e f v : Int} {p : Addr} {R : Int → Prop}
theorem s_par (h1 : Ev ta σ H v1) (h2 : Ev tb σ H v2) (k : ∀ H1, Ex H H1 → D.nx ((σ.set i (some v1)).set j (some v2)) H1) : tPar i j (tCons ta (tCons tb tNil)) D σ H :=
  h1 H (Ex.refl H) _ fun H2 e2 => h2 H2 e2 _ fun H3 e3 => ⟨_, _, rfl, k H3 (e2.trans e3)⟩
theorem ev_betwR (x : FrA H fr s o t φ) (h1 : Ev ta σ H (.ref fr)) (h2 : Ev tb σ H (.int a)) (h3 : Ev tc σ H (.int b)) (h4 : Ev td σ H (.int c)) (h5 : Ev te σ H (.int d)) (h6 : Ev tf σ H (.int v)) (ba : Bd 79 a) (bb : Bd 79 b) (bc : Bd 80 c) (bd : Bd 80 d) (bv : Bd 8 v) (hv : 1 ≤ v) :
    Ev (tCall spBetwR [] E (tCons ta (tCons tb (tCons tc (tCons td (tCons te (tCons tf tNil))))))) σ H (.bl true) :=
  ev_call (ea_cons h1 (ea_cons h2 (ea_cons h3 (ea_cons h4 (ea_cons h5 (ea_cons h6 ea_nil)))))) fun H1 e1 Q q E => ⟨fr, s, o, t, φ, a, b, c, d, v, rfl, fr_mono e1 x, ba, bb, bc, bd, bv, hv, fun H2 e2 => q H2 e2⟩
theorem ev_sqR (x : FrA H fr s o t φ) (h1 : Ev ta σ H (.ref fr)) (h2 : Ev tb σ H (.int a)) (h3 : Ev tc σ H (.int b)) (h4 : Ev td σ H (.int c)) (h5 : Ev te σ H (.int d)) (h6 : Ev tf σ H (.int v)) (ba : Bd 80 a) (bb : Bd 80 b) (bc : Bd 80 c) (bd : Bd 80 d) (bv : Bd 10 v) (hv : 1 ≤ v) :
    Ev (tCall spSqR [] E (tCons ta (tCons tb (tCons tc (tCons td (tCons te (tCons tf tNil))))))) σ H (.bl true) :=
  ev_call (ea_cons h1 (ea_cons h2 (ea_cons h3 (ea_cons h4 (ea_cons h5 (ea_cons h6 ea_nil)))))) fun H1 e1 Q q E => ⟨fr, s, o, t, φ, a, b, c, d, v, rfl, fr_mono e1 x, ba, bb, bc, bd, bv, hv, fun H2 e2 => q H2 e2⟩
theorem ev_turns (x : FrA H fr s o t φ) (h1 : Ev ta σ H (.ref fr)) (u1 : EvU tb σ H [.int a, .int b]) (u2 : EvU tc σ H [.int c, .int d]) (u3 : EvU td σ H [.int e, .int f]) (h6 : Ev te σ H (.int v)) (ba : Bd 80 a) (bb : Bd 80 b) (bc : Bd 80 c) (bd : Bd 80 d) (be : Bd 80 e) (bf : Bd 80 f) (bv : Bd 10 v) (hv : 1 ≤ v) :
    Ev (tCall spTurns [] E (tCons ta (tCons (tLst (tCons tb (tCons tc (tCons td tNil)))) (tCons te tNil)))) σ H (.bl true) := fun H1 e1 Q q =>
  h1 H1 e1 _ fun H2 e2 => u1 H2 (e1.trans e2) _ fun p1 H3 _ e3 q1 => u2 H3 ((e1.trans e2).trans e3) _ fun p2 H4 _ e4 q2 => u3 H4 (((e1.trans e2).trans e3).trans e4) _ fun p3 H5 _ e5 q3 => ⟨(by show 3 ≤ sizeLine; decide), fun l hl => by
    have f5 := Ex.new (o := .lst [.ref p1, .ref p2, .ref p3]) hl
    have f4 := e5.trans f5
    have f3 := e4.trans f4
    have f2 := e3.trans f3
    have f1 := e2.trans f2
    refine h6 _ (e1.trans f1) _ fun H7 e7 => ⟨fr, s, o, t, l, p1, p2, p3, φ, a, b, c, d, e, f, v, rfl, fr_mono ((e1.trans f1).trans e7) x, e7 _ _ upd_same, e7 _ _ (f3 _ _ q1), e7 _ _ (f4 _ _ q2), e7 _ _ (f5 _ _ q3), ba, bb, bc, bd, be, bf, bv, hv, fun H8 e8 => q H8 ((f1.trans e7).trans e8)⟩⟩
/-- [a drawn number for turn in range(6)] -/
theorem lc_bag {ta : TA} {vs : List Nat} (h : ValA ta σ H [.int 6]) (hb : ∃ a b c : Int, H p = some (.lst [.int a, .int b, .int c])) (hw : ∀ x, wipe ((wipe σ vs).set j (some x)) vs = wipe σ vs) (he : ∀ x, EvB p te ((wipe σ vs).set j (some x)) R) {Q : VK}
    (k : ∀ Dl H2 (ns : List Int), ns.length = 6 → (∀ n ∈ ns, R n) → Bgd p H H2 → H2 Dl = some (.lst (ns.map V.int)) → Q (.ref Dl) H2) : tLc (iRng1 ta) (gName j) tYes te vs σ H Q :=
  h _ ⟨6, rfl, by decide, by decide, fun Dl hD =>
    lc_range (lo := 0) (n := 6) (fun i H' => Bgd p H H' ∧ ∃ ns : List Int, ns.length = i ∧ (∀ n ∈ ns, R n) ∧ H' Dl = some (.lst (ns.map V.int))) ⟨(Bgd.id' hb).new hD, [], rfl, fun n hn => absurd hn (by simp), upd_same⟩
      (fun i H' hi pv => ⟨hw _, by
        obtain ⟨g, ns, hl, hr, hd⟩ := pv
        have nD : Dl ≠ p := ne_bag hb hD
        refine he _ H' g.bag _ fun n H4 rn g4 => ⟨ns.map V.int, g4.keep _ _ nD hd, Nat.lt_of_lt_of_le (show (ns.map V.int).length < 100 by rw [List.length_map]; omega) (by decide), ?_⟩
        have gg := g.trans g4
        refine ⟨⟨?_, fun l o n1 q => ?_⟩, ns ++ [n], by rw [List.length_append, hl]; rfl, fun m hm => ?_, ?_⟩
        · obtain ⟨a, b, c, z⟩ := gg.bag
          exact ⟨a, b, c, by rw [upd_ne nD.symm]; exact z⟩
        · rw [upd_ne (ne_of_none q hD)]
          exact gg.keep _ _ n1 q
        · rcases List.mem_append.mp hm with q | q
          · exact hr m q
          · rw [List.mem_singleton.mp q]
            exact rn
        · rw [List.map_append]
          exact upd_same⟩)
      (fun H' pv => by
        obtain ⟨g, ns, hl, hr, hd⟩ := pv
        exact k Dl H' ns hl hr g hd)⟩
end
def spLaw (K : PySem.W.Frag) : Sp := fun vs H Q _ => ∃ (a : Addr) (ns : List Int), vs = [.ref a] ∧ SqL K H a (ns.map V.int) ∧ ns.length ≤ 63 ∧ ∀ H', Q (.bl true) H'
section
variable {P : Program} {w : World} {K : PySem.W.Frag} {mg : Str → Option Value} {base : Heap}
theorem scL : FnScope ["script", "at", "bag", "frame", "over", "reach", "a", "b", "c", "d", "e", "f", "turn_v"] ["script"] (defScope sLaw) := ⟨rfl, rfl, rfl, by decide +kernel, rfl, by decide +kernel, by decide +kernel⟩
theorem ok_law {f : Addr} {fd : FuncData} (F : Fun K "law" "law" sLaw f fd) (T : TL mg) (CB : Cl P w K mg base 1 "_law_bag" (spBag K)) (CD : Cl P w K mg base 1 "_law_draw" spDraw) (CO : Cl P w K mg base 2 "_law_one_of" spOne) (CF : Cl P w K mg base 3 "_law_frame" spFrame)
    (CT : Cl P w K mg base 5 "_law_turns_right" spTurns) (CW : Cl P w K mg base 5 "_law_between_right" spBetwR) (CQ : Cl P w K mg base 5 "_law_squares_right" spSqR) (CL : Cl P w K mg base 6 "_law_lines_right" spSqR) (CP : Cl P w K mg base 4 "_law_points_right" spPtsR) : FnOk P w K mg base CX0 7 f fd ["script"] (spLaw K) := by
  refine F.ok scL (fun vs H Q E h => ?_) (fun cdv A outer s H0 vs Q E hr h => ?_)
  · obtain ⟨a, ns, rfl, _⟩ := h
    rfl
  · obtain ⟨sa, ns, rfl, hS, hlen, k⟩ := h
    have hu := hr.units
    refine ⟨_, pss_cons (ps_for PassesOwn.never rfl
        (pi_range1 rfl T.range (pa_cons (pe_callB (call_max2 rfl) (by rfl) T.max (by decide +kernel) (pa_cons (pe_int) (pa_cons (pe_callB (call_min2 rfl) (by rfl) T.min (by decide +kernel) (pa_cons (pe_int) (pa_cons (pe_callB call_len_seq (by rfl) T.len PySem.boot_len (pa_cons (pv 0) pa_nil)) pa_nil))) pa_nil))) pa_nil))
        (pg_name (i := 1) scL.nd rfl (Or.inl rfl))
        (Evl.pss_cut (ps_set (i := 2) scL.nd rfl (Or.inr rfl) (pe_cl CB hr (by decide) (by rfl) (pa_cons (pv 0) (pa_cons (pv 1) pa_nil))))
        (Evl.pss_cut (ps_asg (pe_tup (pa_cons (pe_cl CF hr (by decide) (by rfl) (pa_cons (pv 2) pa_nil)) (pa_cons (pe_op op_add pe_int (pe_cl CD hr (by decide) (by rfl) (pa_cons (pv 2) (pa_cons (pe_int) pa_nil)))) (pa_cons (pe_cl CO hr (by decide) (by rfl) (pa_cons (pv 2) (pa_cons (pe_lst (pa_cons (pe_int) (pa_cons (pe_int) (pa_cons (pe_int) (pa_cons (pe_op op_powW pe_int pe_int) pa_nil))))) pa_nil))) pa_nil))))
            (pg_tup (by rfl) (pgs_cons (pg_name (i := 3) scL.nd rfl (.inl rfl)) (pgs_cons (pg_name (i := 4) scL.nd rfl (.inl rfl)) (pgs_cons (pg_name (i := 5) scL.nd rfl (.inr rfl)) pgs_nil)))))
        (Evl.pss_cut (ps_asg (pe_lc (own := [("turn_v", 12)]) (g := gName 12) (by rfl) scL.nd (pi_range1 rfl T.range (pa_cons (pe_int) pa_nil))
              (blkOk_by (own := [("turn_v", 12)]) (N := ["script", "at", "bag", "frame", "over", "reach", "a", "b", "c", "d", "e", "f", "turn_v"]) (sc := defScope sLaw) (by decide +kernel))
              (fun _ _ _ _ _ => pg_name (i := 12) scL.nd rfl (Or.inl rfl)) (fun _ _ _ _ _ => pts_nil)
              (te := tOp (rI0 fun i j => .int (i - j)) (tCall spDraw [] E0 (tCons (tVar 2) (tCons (tOp (rI0 fun i j => .int (i + j)) (tOp (rI CMulW fun i j => .int (i * j)) (tC (.int 2)) (tVar 5)) (tC (.int 1))) tNil))) (tVar 5))
              (fun _ _ _ _ _ => by exact (pe_op op_sub (pe_cl CD hr (by decide) (by rfl) (by exact (pa_cons (pv 2) (pa_cons (pe_op op_add (pe_op op_mulW pe_int (pv 5)) pe_int) pa_nil)))) (pv 5))))
            (pg_unl (by rfl) (pgs_cons (pg_name (i := 6) scL.nd rfl (.inl rfl)) (pgs_cons (pg_name (i := 7) scL.nd rfl (.inl rfl)) (pgs_cons (pg_name (i := 8) scL.nd rfl (.inl rfl)) (pgs_cons (pg_name (i := 9) scL.nd rfl (.inl rfl)) (pgs_cons (pg_name (i := 10) scL.nd rfl (.inl rfl)) (pgs_cons (pg_name (i := 11) scL.nd rfl (.inl rfl)) pgs_nil))))))))
        (Evl.pss_cut (ps_if (pt_cmpR op_eq (pe_cl CD hr (by decide) (by rfl) (pa_cons (pv 2) (pa_cons (pe_int) pa_nil))) pe_int (nomark _)) (pss_one (ps_par (i := 10) (j := 11) (by rfl) scL.nd rfl rfl (by decide) rfl rfl (pa_cons (pe_op op_add (pv 6) (pe_op op_mulW pe_int (pe_op op_sub (pv 8) (pv 6)))) (pa_cons (pe_op op_add (pv 7) (pe_op op_mulW pe_int (pe_op op_sub (pv 9) (pv 7)))) pa_nil)) (by rfl))) pss_nil)
        (pss_cons (ps_if (pt_not (pt_val (pe_cl CT hr (by decide) (by rfl) (pa_cons (pv 3) (pa_cons (pe_lst (pa_cons (pe_tup (pa_cons (pv 6) (pa_cons (pv 7) pa_nil))) (pa_cons (pe_tup (pa_cons (pv 8) (pa_cons (pv 9) pa_nil))) (pa_cons (pe_tup (pa_cons (pv 10) (pa_cons (pv 11) pa_nil))) pa_nil)))) (pa_cons (pv 4) pa_nil)))))) (pss_one (ps_ret pe_bl)) pss_nil)
        (pss_cons (ps_if (pw_or (pt_not (pt_val (pe_cl CW hr (by decide) (by rfl) (pa_cons (pv 3) (pa_cons (pv 6) (pa_cons (pv 7) (pa_cons (pv 8) (pa_cons (pv 9) (pa_cons (pv 4) pa_nil))))))))) (pw_or1 (pt_not (pt_val (pe_cl CW hr (by decide) (by rfl) (pa_cons (pv 3) (pa_cons (pv 6) (pa_cons (pv 7) (pa_cons (pv 6) (pa_cons (pv 11) (pa_cons (pv 4) pa_nil))))))))))).pt (pss_one (ps_ret pe_bl)) pss_nil)
        (pss_cons (ps_if (pw_or (pt_not (pt_val (pe_cl CQ hr (by decide) (by rfl) (pa_cons (pv 3) (pa_cons (pv 6) (pa_cons (pv 7) (pa_cons (pv 8) (pa_cons (pv 9) (pa_cons (pv 4) pa_nil))))))))) (pw_or1 (pt_not (pt_val (pe_cl CL hr (by decide) (by rfl) (pa_cons (pv 3) (pa_cons (pv 6) (pa_cons (pv 7) (pa_cons (pv 8) (pa_cons (pv 9) (pa_cons (pv 4) pa_nil))))))))))).pt (pss_one (ps_ret pe_bl)) pss_nil)
        (pss_one (ps_if (pt_not (pt_val (pe_cl CP hr (by decide) (by rfl) (pa_cons (pv 2) pa_nil)))) (pss_one (ps_ret pe_bl)) pss_nil))))))))))
      (pss_one (ps_ret pe_bl)), ?_⟩
    refine ⟨_, rfl, sa, _, rfl, .inl hS, _, _, rfl, _, _, rfl, _, rfl, ?b1, ?b2, for_range (lo := 0) (n := _) (fun i σ H' => Same H0 H' ∧ ∃ r1 r2 r3 r4 r5 r6 r7 r8 r9 r10 r11 r12 : Option V, σ = [some (.ref sa), r1, r2, r3, r4, r5, r6, r7, r8, r9, r10, r11, r12]) ?h0 ?hs ?hd⟩
    case b1 => split <;> split <;> omega
    case b2 => split <;> split <;> omega
    case h0 => exact ⟨Same.refl H0, _, _, _, _, _, _, _, _, _, _, _, _, rfl⟩
    case hd => exact fun σ H' _ => k _
    case hs =>
      rintro i σ H1 hi ⟨s1, r1, r2, r3, r4, r5, r6, r7, r8, r9, r10, r11, r12, rfl⟩
      have hi2 : i < 1000 := by
        have hn : ∀ x : Int, (if (if x < 4 then x else 4) > 1 then (if x < 4 then x else 4) else 1).toNat ≤ 4 := fun x => by split <;> split <;> omega
        exact Nat.lt_of_lt_of_le hi (Nat.le_trans (hn _) (by decide))
      rw [show (0 : Int) + (i : Int) = (i : Int) from Int.zero_add _]
      refine q_cut (M := fun σ' H' => ∃ p, Same H0 H' ∧ H0 p = none ∧ (∃ a b c : Int, H' p = some (.lst [.int a, .int b, .int c])) ∧ σ' = [some (.ref sa), some (.int i), some (.ref p), r3, r4, r5, r6, r7, r8, r9, r10, r11, r12]) ?_ ?_
      · exact ⟨_, rfl, _, rfl, sa, ns, i, rfl, s1.seq hS, hi2, fun p H2 hp sm hb => ⟨p, s1.trans sm, s1.free hp, hb, rfl⟩⟩
      rintro σ2 H2 ⟨p, s2, n0, hb2, rfl⟩
      refine q_cut (M := fun σ' H' => ∃ (fr s o t : Addr) (φ : Fr) (ov rc : Int), FrA H' fr s o t φ ∧ fr ≠ p ∧ s ≠ p ∧ o ≠ p ∧ t ≠ p ∧ Bgd p H2 H' ∧ (1 ≤ ov ∧ ov ≤ 6) ∧ (1 ≤ rc ∧ rc ≤ 10 ^ 9) ∧ σ' = [some (.ref sa), some (.int i), some (.ref p), some (.ref fr), some (.int ov), some (.int rc), r6, r7, r8, r9, r10, r11, r12]) ?_ ?_
      · have eO : EvB p (tOp (rI0 fun i j => .int (i + j)) (tC (.int 1)) (tCall spDraw [] E0 (tCons (tVar 2) (tCons (tC (.int 6)) tNil)))) [some (.ref sa), some (.int i), some (.ref p), r3, r4, r5, r6, r7, r8, r9, r10, r11, r12] (fun n => 1 ≤ n ∧ n ≤ 6) :=
          eb_op (g := fun i j => i + j) (R := fun n => n = 1) (eb_c rfl) (eb_draw (N := 6) rfl (eb_c ⟨by decide, by decide, log_of (by decide)⟩)) (fun m n hm hn => by
            subst hm
            exact ⟨by omega, by omega⟩)
        have eR : EvB p (tCall spOne [] E0 (tCons (tVar 2) (tCons (tLst (tCons (tC (.int 2)) (tCons (tC (.int 4)) (tCons (tC (.int 40)) (tCons (tOp (rI CPowW fun i j => .int (i ^ j.toNat)) (tC (.int 10)) (tC (.int 9))) tNil))))) tNil))) [some (.ref sa), some (.int i), some (.ref p), r3, r4, r5, r6, r7, r8, r9, r10, r11, r12] (fun n => 1 ≤ n ∧ n ≤ 10 ^ 9) :=
          eb_one (xs := [2, 4, 40, 10 ^ 9]) rfl (fun H1 => va_cons val_c (va_cons val_c (va_cons val_c (va_cons (val_op val_c val_c fun Q q => ⟨_, _, rfl, rfl, ⟨by decide, by decide +kernel⟩, q⟩) va_nil)))) (by decide) (by decide) (by decide)
        refine ⟨_, rfl, p, rfl, hb2, fun fr s o t φ H3 hf n1 n2 n3 n4 g3 => ?_⟩
        refine eO H3 g3.bag _ fun ov H4 rO g4 => eR H4 g4.bag _ fun rc H5 rR g5 => ⟨(by show 3 ≤ sizeLine; decide), fun tt ht => ?_⟩
        refine ⟨tt, _, rfl, SqT.of upd_same, rfl, _, _, rfl, _, _, rfl, _, _, rfl, rfl, fr, s, o, t, φ, ov, rc, fr_mono (Ex.new ht) (hf.bgd n1 n2 n3 n4 (g4.trans g5)), n1, n2, n3, n4, ((g3.trans g4).trans g5).new ht, rO, rR, rfl⟩
      rintro σ3 H3 ⟨fr, s, o, t, φ, ov, rc, hf, n1, n2, n3, n4, g3, rO, rR, rfl⟩
      refine q_cut (M := fun σ' H' => ∃ a b c d e f : Int, InS rc a ∧ InS rc b ∧ InS rc c ∧ InS rc d ∧ InS rc e ∧ InS rc f ∧ Bgd p H3 H' ∧ σ' = [some (.ref sa), some (.int i), some (.ref p), some (.ref fr), some (.int ov), some (.int rc), some (.int a), some (.int b), some (.int c), some (.int d), some (.int e), some (.int f), r12]) ?_ ?_
      · refine lc_bag (p := p) (R := InS rc) (va_cons val_c va_nil) g3.bag (fun _ => rfl) (fun x => ?_) fun Dl H4 ns hl hr g4 hd => ?_
        · exact eb_op (g := fun i j => i - j) (S := fun n => n = rc) (eb_draw (N := 2 * rc + 1) rfl (eb_op (g := fun i j => i + j) (R := fun n => n = 2 * rc) (S := fun n => n = 1) (eb_mul (R := fun n => n = 2) (S := fun n => n = rc) (eb_c rfl) (eb_var rfl rfl) (fun m n hm hn => by
              subst hm hn
              exact bd2.mw (bd_of (n := n) (by omega)) (by decide)) (fun m n hm hn => by rw [hm, hn])) (eb_c rfl) (fun m n hm hn => by
              subst hm hn
              exact ⟨by omega, by omega, log_of (by omega)⟩))) (eb_var rfl rfl) (fun m n hm hn => by
            subst hn
            exact ⟨by omega, by omega⟩)
        · match ns, hl with
          | [a, b, c, d, e, f], _ =>
            exact ⟨Dl, _, rfl, SqL.of hd, rfl, _, _, rfl, _, _, rfl, _, _, rfl, _, _, rfl, _, _, rfl, _, _, rfl, rfl, a, b, c, d, e, f, hr _ (by simp), hr _ (by simp), hr _ (by simp), hr _ (by simp), hr _ (by simp), hr _ (by simp), g4, rfl⟩
      rintro σ4 H4 ⟨a, b, c, d, e, f, ia, ib, ic, id', ie, if', g4, rfl⟩
      have bI : ∀ {n : Int}, InS rc n → Bd 70 n := fun h => ⟨by
        obtain ⟨x, y⟩ := h
        exact Nat.lt_of_le_of_lt (show _ ≤ 10 ^ 9 by omega) (by decide)⟩
      refine q_cut (M := fun σ' H' => ∃ e f : Int, Bd 79 e ∧ Bd 79 f ∧ Bgd p H4 H' ∧ σ' = [some (.ref sa), some (.int i), some (.ref p), some (.ref fr), some (.int ov), some (.int rc), some (.int a), some (.int b), some (.int c), some (.int d), some (.int e), some (.int f), r12]) ?_ ?_
      · refine (eb_draw (p := p) (i := 2) (N := 3) rfl (eb_c ⟨by decide, by decide, log_of (by decide)⟩)) H4 g4.bag _ fun n H5 rn g5 => ⟨rfl, _, rfl, ite2 (fun _ => ?_) (fun _ => ?_)⟩
        · have z1 := EI.add (σ := [some (.ref sa), some (.int i), some (.ref p), some (.ref fr), some (.int ov), some (.int rc), some (.int a), some (.int b), some (.int c), some (.int d), some (.int e), some (.int f), r12]) (H := H5) ((ei_var (i := 6) rfl (bI ia)).le (by decide : 70 ≤ 73)) (EI.mul (ei_c bd2) (EI.sub (ei_var (i := 8) rfl (bI ic)) (ei_var (i := 6) rfl (bI ia))))
          have z2 := EI.add (σ := [some (.ref sa), some (.int i), some (.ref p), some (.ref fr), some (.int ov), some (.int rc), some (.int a), some (.int b), some (.int c), some (.int d), some (.int e), some (.int f), r12]) (H := H5) ((ei_var (i := 7) rfl (bI ib)).le (by decide : 70 ≤ 73)) (EI.mul (ei_c bd2) (EI.sub (ei_var (i := 9) rfl (bI id')) (ei_var (i := 7) rfl (bI ib))))
          exact s_par z1.v z2.v fun H6 e6 => ⟨_, _, z1.b.le (by decide), z2.b.le (by decide), g5.trans (bag_ex e6 g5.bag), rfl⟩
        · exact ⟨e, f, (bI ie).le (by decide), (bI if').le (by decide), g5, rfl⟩
      rintro σ5 H5 ⟨e, f, be, bf, g5, rfl⟩
      have hf5 := hf.bgd n1 n2 n3 n4 (g4.trans g5)
      have ba := (bI ia).le (by decide : 70 ≤ 79)
      have bb := (bI ib).le (by decide : 70 ≤ 79)
      have bc := (bI ic).le (by decide : 70 ≤ 80)
      have bd := (bI id').le (by decide : 70 ≤ 80)
      have bv : Bd 8 ov := ⟨Nat.lt_of_le_of_lt (show _ ≤ 6 by omega) (by decide)⟩
      have up : ∀ {n : Int}, Bd 79 n → Bd 80 n := fun h => h.le (by decide)
      refine q_not (et_not (a := true) (et_B (ev_turns hf5 (ev_var rfl) (eu_tup (ea_cons (ev_var rfl) (ea_cons (ev_var rfl) ea_nil)) (by show 2 ≤ 100000; decide)) (eu_tup (ea_cons (ev_var rfl) (ea_cons (ev_var rfl) ea_nil)) (by show 2 ≤ 100000; decide)) (eu_tup (ea_cons (ev_var rfl) (ea_cons (ev_var rfl) ea_nil)) (by show 2 ≤ 100000; decide)) (ev_var rfl) (up ba) (up bb) bc bd (up be) (up bf) (bv.le (by decide)) rO.1))) fun H6 e6 => ?_
      have hf6 := fr_mono e6 hf5
      refine q_not (et_or (et_not (et_B (ev_betwR hf6 (ev_var rfl) (ev_var rfl) (ev_var rfl) (ev_var rfl) (ev_var rfl) (ev_var rfl) ba bb bc bd bv rO.1))) fun _ => et_not (et_B (ev_betwR hf6 (ev_var rfl) (ev_var rfl) (ev_var rfl) (ev_var rfl) (ev_var rfl) (ev_var rfl) ba bb (up ba) (up bf) bv rO.1))) fun H7 e7 => ?_
      have hf7 := fr_mono e7 hf6
      refine q_not (et_or (et_not (et_B (ev_sqR hf7 (ev_var rfl) (ev_var rfl) (ev_var rfl) (ev_var rfl) (ev_var rfl) (ev_var rfl) (up ba) (up bb) bc bd (bv.le (by decide)) rO.1))) fun _ => et_not (et_B (ev_sqR hf7 (ev_var rfl) (ev_var rfl) (ev_var rfl) (ev_var rfl) (ev_var rfl) (ev_var rfl) (up ba) (up bb) bc bd (bv.le (by decide)) rO.1))) fun H8 e8 => ?_
      have hb8 := bag_mono ((e6.trans e7).trans e8) g5.bag
      refine ⟨_, rfl, p, rfl, hb8, fun H9 g9 => ⟨true, rfl, ite2 (fun z => absurd z (by decide)) fun _ => ?_⟩⟩
      have gAll := ((((g3.trans g4).trans g5).trans (bag_ex ((e6.trans e7).trans e8) g5.bag)).trans g9)
      exact ⟨gAll.same s2 n0, _, _, _, _, _, _, _, _, _, _, _, _, rfl⟩
end
end Q
set_option Elab.async false
set_option linter.all false
set_option maxRecDepth 100000
set_option maxHeartbeats 2000000
namespace Q
open PySem L2 PySem.Spec PyProof.Rows PySem.Calls
open Ob
section
variable {pr : Program} {wd : World} {Ar : Around} {Res : Result → Shared → Prop} {it tu st : Addr} {u v best : Value} {t : Bool}
/-- min() of two values, the walk's end -/
theorem min2_end (Wk : Walks pr wd Ar.in1 it [it, tu] [it] (#[u, v] : Array Value).size (fun i x => (#[u, v] : Array Value)[i]? = some x) (fun i hp => hp.IsTupleIter it tu i ∧ hp.IsTuple tu #[u, v])) (hst : st ∉ [it, tu]) {sh : Shared} {cap : Nat} (at2 : sh.heap.IsTupleIter it tu 2 ∧ sh.heap.IsTuple tu #[u, v])
    (hl : sh.heap.get? st = some { cls := .type "list", dict := none, data := .seq #[best, best] cap, slots := #[] }) (fin : ∀ (hp : Heap) (tk : Nat), (∀ c o, c ∉ [it] → c ≠ st → sh.heap.get? c = some o → hp.get? c = some o) → Res (.ok (.ret best)) { sh with heap := hp, toks := tk }) :
    codeAny (model pr wd) Ar (.builtin "min.loop" ⟨[.ref it, .none, .ref st], []⟩) Res sh := by
  have nit : st ∉ [it] := fun z => hst (Wk.sub _ z)
  apply codeAny_builtin PySem.F.entry_min_loop
  rw [Around.under_plainId PySem.F.plain_min_loop _]
  show wpAny _ Ar.in1 (seqItems? (.ref st) >>= _) _ _ sh
  apply wpAny_bind
  apply wpAny_seqItems hl rfl
  show wpAny _ Ar.in1 (tryCatch (pyNext (.ref it)) _ >>= _) _ _ sh
  apply wpAny_bind
  apply wpAny_tryCatch
  apply Wk.done sh _ _ at2
  intro hp tk keep
  have hl2 := keep st _ nit hl
  show wpAny _ Ar.in1 (updateSeq st (fun _ => #[]) >>= _) _ _ _
  apply wpAny_bind
  apply wpAny_updateSeq hl2 rfl
  apply wpAny_bind
  apply wpAny_letGo
  apply wpAny_pure
  exact fin _ tk fun c o nc ns e => (Heap.get?_update_other _ _ ns.symm).trans (keep c o nc e)
theorem min2_turn (Wk : Walks pr wd Ar.in1 it [it, tu] [it] (#[u, v] : Array Value).size (fun i x => (#[u, v] : Array Value)[i]? = some x) (fun i hp => hp.IsTupleIter it tu i ∧ hp.IsTuple tu #[u, v])) (hst : st ∉ [it, tu]) {sh : Shared} {cap : Nat} (at1 : sh.heap.IsTupleIter it tu 1 ∧ sh.heap.IsTuple tu #[u, v])
    (hl : sh.heap.get? st = some { cls := .type "list", dict := none, data := .seq #[u, u] cap, slots := #[] })
    (cmp : ∀ (hp : Heap) (tk : Nat), (∀ c o, c ∉ [it] → c ≠ st → sh.heap.get? c = some o → hp.get? c = some o) → RcOp .Lt Ar.in1 { sh with heap := hp, toks := tk } v u t)
    (fin : ∀ (hp : Heap) (tk : Nat), (∀ c o, c ∉ [it] → c ≠ st → sh.heap.get? c = some o → hp.get? c = some o) → Res (.ok (.ret (if t = true then v else u))) { sh with heap := hp, toks := tk }) :
    codeAny (model pr wd) Ar (.builtin "min.loop" ⟨[.ref it, .none, .ref st], []⟩) Res sh := by
  have nit : st ∉ [it] := fun z => hst (Wk.sub _ z)
  have nm1 : (toString "min" ++ toString ".loop" : String) = "min.loop" := by decide
  apply codeAny_builtin PySem.F.entry_min_loop
  rw [Around.under_plainId PySem.F.plain_min_loop _]
  show wpAny _ Ar.in1 (seqItems? (.ref st) >>= _) _ _ sh
  apply wpAny_bind
  apply wpAny_seqItems hl rfl
  show wpAny _ Ar.in1 (tryCatch (pyNext (.ref it)) _ >>= _) _ _ sh
  apply wpAny_bind
  apply wpAny_tryCatch
  apply Wk.item 1 sh _ _ (show 1 < 2 by decide) at1
  intro x hp tk hx at2 keep
  have ex : x = v := by
    have z : (#[u, v] : Array Value)[1]? = some v := rfl
    rw [z] at hx
    cases hx
    rfl
  subst ex
  have hl2 := keep st _ nit hl
  show wpAny _ Ar.in1 (tryCatch (holding [x, x] (richCompare .Lt x u >>= _)) _ >>= _) _ _ _
  apply wpAny_bind
  apply wpAny_tryCatch
  apply wpAny_holding
  apply wpAny_bind
  apply cmp hp tk fun c o nc _ e => keep c o nc e
  apply wpAny_bind
  apply wpAny_holding
  apply wpAny_truthy_bool
  apply wpAny_bind
  apply wpAny_letGo
  apply wpAny_pure
  cases t with
  | true =>
    simp only [if_true]
    apply wpAny_bind
    apply wpAny_updateSeq hl2 rfl
    apply wpAny_bind
    apply wpAny_letGo
    rw [nm1]
    apply wpAny_pure
    refine ⟨plainId_quiet PySem.F.plain_min_loop _, min2_end Wk hst (Wk.frame _ _ _ at2 fun c hc o e => ?_) (Heap.get?_update_self _ hl2 rfl) fun hp2 tk2 keep2 => ?_⟩
    · exact (Heap.get?_update_other _ _ (fun z : st = c => hst (z ▸ hc))).trans e
    · exact fin hp2 tk2 fun c o nc ns e => keep2 c o nc ns ((Heap.get?_update_other _ _ ns.symm).trans (keep c o nc e))
  | false =>
    simp only [Bool.false_eq_true, if_false]
    apply wpAny_bind
    apply wpAny_letGo
    rw [nm1]
    apply wpAny_pure
    exact ⟨plainId_quiet PySem.F.plain_min_loop _, min2_end Wk hst at2 hl2 fun hp2 tk2 keep2 => fin hp2 tk2 fun c o nc ns e => keep2 c o nc ns (keep c o nc e)⟩
theorem min2_first (Wk : Walks pr wd Ar.in1 it [it, tu] [it] (#[u, v] : Array Value).size (fun i x => (#[u, v] : Array Value)[i]? = some x) (fun i hp => hp.IsTupleIter it tu i ∧ hp.IsTuple tu #[u, v])) (hst : st ∉ [it, tu]) {sh : Shared} {cap : Nat} (at0 : sh.heap.IsTupleIter it tu 0 ∧ sh.heap.IsTuple tu #[u, v])
    (hl : sh.heap.get? st = some { cls := .type "list", dict := none, data := .seq #[] cap, slots := #[] })
    (cmp : ∀ (hp : Heap) (tk : Nat), (∀ c o, c ∉ [it] → c ≠ st → sh.heap.get? c = some o → hp.get? c = some o) → RcOp .Lt Ar.in1 { sh with heap := hp, toks := tk } v u t)
    (fin : ∀ (hp : Heap) (tk : Nat), (∀ c o, c ∉ [it] → c ≠ st → sh.heap.get? c = some o → hp.get? c = some o) → Res (.ok (.ret (if t = true then v else u))) { sh with heap := hp, toks := tk }) :
    codeAny (model pr wd) Ar (.builtin "min.loop" ⟨[.ref it, .none, .ref st], []⟩) Res sh := by
  have nit : st ∉ [it] := fun z => hst (Wk.sub _ z)
  have nm1 : (toString "min" ++ toString ".loop" : String) = "min.loop" := by decide
  apply codeAny_builtin PySem.F.entry_min_loop
  rw [Around.under_plainId PySem.F.plain_min_loop _]
  show wpAny _ Ar.in1 (seqItems? (.ref st) >>= _) _ _ sh
  apply wpAny_bind
  apply wpAny_seqItems hl rfl
  show wpAny _ Ar.in1 (tryCatch (pyNext (.ref it)) _ >>= _) _ _ sh
  apply wpAny_bind
  apply wpAny_tryCatch
  apply Wk.item 0 sh _ _ (show 0 < 2 by decide) at0
  intro x hp tk hx at1 keep
  have ex : x = u := by
    have z : (#[u, v] : Array Value)[0]? = some u := rfl
    rw [z] at hx
    cases hx
    rfl
  subst ex
  have hl2 := keep st _ nit hl
  show wpAny _ Ar.in1 (updateSeq st (fun _ => #[x, x]) >>= _) _ _ _
  apply wpAny_bind
  apply wpAny_updateSeq hl2 rfl
  rw [nm1]
  apply wpAny_pure
  refine ⟨plainId_quiet PySem.F.plain_min_loop _, min2_turn (t := t) Wk hst (Wk.frame _ _ _ at1 fun c hc o e => ?_) (Heap.get?_update_self _ hl2 rfl) (fun hp2 tk2 keep2 => ?_) fun hp2 tk2 keep2 => ?_⟩
  · exact (Heap.get?_update_other _ _ (fun z : st = c => hst (z ▸ hc))).trans e
  · exact cmp hp2 tk2 fun c o nc ns e => keep2 c o nc ns ((Heap.get?_update_other _ _ ns.symm).trans (keep c o nc e))
  · exact fin hp2 tk2 fun c o nc ns e => keep2 c o nc ns ((Heap.get?_update_other _ _ ns.symm).trans (keep c o nc e))
theorem min2_call {sh : Shared} {Ex : Value → Shared → Prop} {Q : Value → Shared → Prop} (hh : Ar.handled = none) (cmp : ∀ (hp : Heap) (tk : Nat), (∀ c o, sh.heap.get? c = some o → hp.get? c = some o) → RcOp .Lt Ar.in1 { sh with heap := hp, toks := tk } v u t)
    (fin : ∀ (hp : Heap) (tk : Nat), (∀ c o, sh.heap.get? c = some o → hp.get? c = some o) → Q (if t = true then v else u) { sh with heap := hp, toks := tk }) : wpAny (model pr wd) Ar (call (.builtin "min") [u, v]) Q Ex sh := by
  have nm1 : (toString "min" ++ toString ".loop" : String) = "min.loop" := by decide
  apply call_function_tree PySem.F.kind_min PySem.F.plain_min PySem.F.entry_min (PySem.F.args_min2 _ _)
  show wpAny _ Ar.in1 (Builtin.Builtins.bindParams "min" ["key", "default"] 0 ⟨[], []⟩ >>= _) _ _ sh
  apply wpAny_bind
  apply wpAny_of_eq (show Builtin.Builtins.bindParams "min" ["key", "default"] 0 ⟨[], []⟩ = pure [none, none] from rfl)
  show wpAny _ Ar.in1 (newTuple [u, v] >>= _) _ _ sh
  apply wpAny_bind
  refine wpAny_newObj_type ?_
  have hT : (sh.heap.push { cls := .type "tuple", data := .seq #[u, v] }).IsTuple sh.heap.objs.size #[u, v] := ⟨_, Heap.get?_push_size _ rfl, rfl, 0, rfl⟩
  have sz : (sh.heap.push { cls := .type "tuple", data := .seq #[u, v] }).objs.size = sh.heap.objs.size + 1 := Heap.size_push ..
  apply wpAny_bind
  apply wpAny_pyIter_tuple hT
  apply wpAny_bind
  refine wpAny_newObj_type ?_
  rw [nm1]
  apply wpAny_pure
  have ne1 : sh.heap.objs.size ≠ (sh.heap.push { cls := .type "tuple", data := .seq #[u, v] }).objs.size := by
    rw [sz]
    exact Nat.ne_of_lt (Nat.lt_succ_self _)
  have keep3 : ∀ {o1 o2 : Obj} (c : Addr) (o : Obj), sh.heap.get? c = some o → (((sh.heap.push { cls := .type "tuple", data := .seq #[u, v] }).push o1).push o2).get? c = some o := fun c o e => Heap.get?_push_of_some _ (Heap.get?_push_of_some _ (Heap.get?_push_of_some _ e))
  have old1 : ∀ (c : Addr) (o : Obj), sh.heap.get? c = some o → c ∉ [(sh.heap.push { cls := .type "tuple", data := .seq #[u, v] }).objs.size] := fun c o e => by
    rw [sz, List.mem_singleton]
    exact Nat.ne_of_lt (Nat.lt_succ_of_lt (Heap.lt_size e))
  have old2 : ∀ {o1 : Obj} (c : Addr) (o : Obj), sh.heap.get? c = some o → c ≠ ((sh.heap.push { cls := .type "tuple", data := .seq #[u, v] }).push o1).objs.size := fun {o1} c o e => by
    have sz2 : ((sh.heap.push { cls := .type "tuple", data := .seq #[u, v] }).push o1).objs.size = sh.heap.objs.size + 1 + 1 := by rw [Heap.size_push, sz]
    rw [sz2]
    exact Nat.ne_of_lt (Nat.lt_succ_of_lt (Nat.lt_succ_of_lt (Heap.lt_size e)))
  refine ⟨plainId_quiet PySem.F.plain_min_loop _, min2_first (t := t) (Walks.tuple (A := Ar.in1) hh _ sh.heap.objs.size ne1 #[u, v]) (fun hm => ?_) ⟨⟨_, Heap.get?_push_of_some _ (Heap.get?_push_size _ rfl), rfl, rfl⟩, (hT.push _).push _⟩ (Heap.get?_push_size _ rfl) (fun hp tk keep => ?_) fun hp tk keep => ?_⟩
  · rcases List.mem_cons.mp hm with e | hm
    · rw [Heap.size_push] at e
      exact absurd e (Nat.succ_ne_self _)
    · have e := List.mem_singleton.mp hm
      rw [Heap.size_push, sz] at e
      exact absurd e (Nat.ne_of_gt (Nat.lt_succ_of_lt (Nat.lt_succ_self _)))
  · exact cmp hp tk fun c o e => keep c o (old1 c o e) (old2 c o e) (keep3 c o e)
  · exact fin hp tk fun c o e => keep c o (old1 c o e) (old2 c o e) (keep3 c o e)
end
section
variable {pr : Program} {wd : World} {Ar : Around} {Res : Result → Shared → Prop} {it tu st : Addr} {u v best : Value} {t : Bool}
/-- max() of two values, the walk's end -/
theorem max2_end (Wk : Walks pr wd Ar.in1 it [it, tu] [it] (#[u, v] : Array Value).size (fun i x => (#[u, v] : Array Value)[i]? = some x) (fun i hp => hp.IsTupleIter it tu i ∧ hp.IsTuple tu #[u, v])) (hst : st ∉ [it, tu]) {sh : Shared} {cap : Nat} (at2 : sh.heap.IsTupleIter it tu 2 ∧ sh.heap.IsTuple tu #[u, v])
    (hl : sh.heap.get? st = some { cls := .type "list", dict := none, data := .seq #[best, best] cap, slots := #[] }) (fin : ∀ (hp : Heap) (tk : Nat), (∀ c o, c ∉ [it] → c ≠ st → sh.heap.get? c = some o → hp.get? c = some o) → Res (.ok (.ret best)) { sh with heap := hp, toks := tk }) :
    codeAny (model pr wd) Ar (.builtin "max.loop" ⟨[.ref it, .none, .ref st], []⟩) Res sh := by
  have nit : st ∉ [it] := fun z => hst (Wk.sub _ z)
  apply codeAny_builtin PySem.F.entry_max_loop
  rw [Around.under_plainId PySem.F.plain_max_loop _]
  show wpAny _ Ar.in1 (seqItems? (.ref st) >>= _) _ _ sh
  apply wpAny_bind
  apply wpAny_seqItems hl rfl
  show wpAny _ Ar.in1 (tryCatch (pyNext (.ref it)) _ >>= _) _ _ sh
  apply wpAny_bind
  apply wpAny_tryCatch
  apply Wk.done sh _ _ at2
  intro hp tk keep
  have hl2 := keep st _ nit hl
  show wpAny _ Ar.in1 (updateSeq st (fun _ => #[]) >>= _) _ _ _
  apply wpAny_bind
  apply wpAny_updateSeq hl2 rfl
  apply wpAny_bind
  apply wpAny_letGo
  apply wpAny_pure
  exact fin _ tk fun c o nc ns e => (Heap.get?_update_other _ _ ns.symm).trans (keep c o nc e)
theorem max2_turn (Wk : Walks pr wd Ar.in1 it [it, tu] [it] (#[u, v] : Array Value).size (fun i x => (#[u, v] : Array Value)[i]? = some x) (fun i hp => hp.IsTupleIter it tu i ∧ hp.IsTuple tu #[u, v])) (hst : st ∉ [it, tu]) {sh : Shared} {cap : Nat} (at1 : sh.heap.IsTupleIter it tu 1 ∧ sh.heap.IsTuple tu #[u, v])
    (hl : sh.heap.get? st = some { cls := .type "list", dict := none, data := .seq #[u, u] cap, slots := #[] })
    (cmp : ∀ (hp : Heap) (tk : Nat), (∀ c o, c ∉ [it] → c ≠ st → sh.heap.get? c = some o → hp.get? c = some o) → RcOp .Gt Ar.in1 { sh with heap := hp, toks := tk } v u t)
    (fin : ∀ (hp : Heap) (tk : Nat), (∀ c o, c ∉ [it] → c ≠ st → sh.heap.get? c = some o → hp.get? c = some o) → Res (.ok (.ret (if t = true then v else u))) { sh with heap := hp, toks := tk }) :
    codeAny (model pr wd) Ar (.builtin "max.loop" ⟨[.ref it, .none, .ref st], []⟩) Res sh := by
  have nit : st ∉ [it] := fun z => hst (Wk.sub _ z)
  have nm1 : (toString "max" ++ toString ".loop" : String) = "max.loop" := by decide
  apply codeAny_builtin PySem.F.entry_max_loop
  rw [Around.under_plainId PySem.F.plain_max_loop _]
  show wpAny _ Ar.in1 (seqItems? (.ref st) >>= _) _ _ sh
  apply wpAny_bind
  apply wpAny_seqItems hl rfl
  show wpAny _ Ar.in1 (tryCatch (pyNext (.ref it)) _ >>= _) _ _ sh
  apply wpAny_bind
  apply wpAny_tryCatch
  apply Wk.item 1 sh _ _ (show 1 < 2 by decide) at1
  intro x hp tk hx at2 keep
  have ex : x = v := by
    have z : (#[u, v] : Array Value)[1]? = some v := rfl
    rw [z] at hx
    cases hx
    rfl
  subst ex
  have hl2 := keep st _ nit hl
  show wpAny _ Ar.in1 (tryCatch (holding [x, x] (richCompare .Gt x u >>= _)) _ >>= _) _ _ _
  apply wpAny_bind
  apply wpAny_tryCatch
  apply wpAny_holding
  apply wpAny_bind
  apply cmp hp tk fun c o nc _ e => keep c o nc e
  apply wpAny_bind
  apply wpAny_holding
  apply wpAny_truthy_bool
  apply wpAny_bind
  apply wpAny_letGo
  apply wpAny_pure
  cases t with
  | true =>
    simp only [if_true]
    apply wpAny_bind
    apply wpAny_updateSeq hl2 rfl
    apply wpAny_bind
    apply wpAny_letGo
    rw [nm1]
    apply wpAny_pure
    refine ⟨plainId_quiet PySem.F.plain_max_loop _, max2_end Wk hst (Wk.frame _ _ _ at2 fun c hc o e => ?_) (Heap.get?_update_self _ hl2 rfl) fun hp2 tk2 keep2 => ?_⟩
    · exact (Heap.get?_update_other _ _ (fun z : st = c => hst (z ▸ hc))).trans e
    · exact fin hp2 tk2 fun c o nc ns e => keep2 c o nc ns ((Heap.get?_update_other _ _ ns.symm).trans (keep c o nc e))
  | false =>
    simp only [Bool.false_eq_true, if_false]
    apply wpAny_bind
    apply wpAny_letGo
    rw [nm1]
    apply wpAny_pure
    exact ⟨plainId_quiet PySem.F.plain_max_loop _, max2_end Wk hst at2 hl2 fun hp2 tk2 keep2 => fin hp2 tk2 fun c o nc ns e => keep2 c o nc ns (keep c o nc e)⟩
theorem max2_first (Wk : Walks pr wd Ar.in1 it [it, tu] [it] (#[u, v] : Array Value).size (fun i x => (#[u, v] : Array Value)[i]? = some x) (fun i hp => hp.IsTupleIter it tu i ∧ hp.IsTuple tu #[u, v])) (hst : st ∉ [it, tu]) {sh : Shared} {cap : Nat} (at0 : sh.heap.IsTupleIter it tu 0 ∧ sh.heap.IsTuple tu #[u, v])
    (hl : sh.heap.get? st = some { cls := .type "list", dict := none, data := .seq #[] cap, slots := #[] })
    (cmp : ∀ (hp : Heap) (tk : Nat), (∀ c o, c ∉ [it] → c ≠ st → sh.heap.get? c = some o → hp.get? c = some o) → RcOp .Gt Ar.in1 { sh with heap := hp, toks := tk } v u t)
    (fin : ∀ (hp : Heap) (tk : Nat), (∀ c o, c ∉ [it] → c ≠ st → sh.heap.get? c = some o → hp.get? c = some o) → Res (.ok (.ret (if t = true then v else u))) { sh with heap := hp, toks := tk }) :
    codeAny (model pr wd) Ar (.builtin "max.loop" ⟨[.ref it, .none, .ref st], []⟩) Res sh := by
  have nit : st ∉ [it] := fun z => hst (Wk.sub _ z)
  have nm1 : (toString "max" ++ toString ".loop" : String) = "max.loop" := by decide
  apply codeAny_builtin PySem.F.entry_max_loop
  rw [Around.under_plainId PySem.F.plain_max_loop _]
  show wpAny _ Ar.in1 (seqItems? (.ref st) >>= _) _ _ sh
  apply wpAny_bind
  apply wpAny_seqItems hl rfl
  show wpAny _ Ar.in1 (tryCatch (pyNext (.ref it)) _ >>= _) _ _ sh
  apply wpAny_bind
  apply wpAny_tryCatch
  apply Wk.item 0 sh _ _ (show 0 < 2 by decide) at0
  intro x hp tk hx at1 keep
  have ex : x = u := by
    have z : (#[u, v] : Array Value)[0]? = some u := rfl
    rw [z] at hx
    cases hx
    rfl
  subst ex
  have hl2 := keep st _ nit hl
  show wpAny _ Ar.in1 (updateSeq st (fun _ => #[x, x]) >>= _) _ _ _
  apply wpAny_bind
  apply wpAny_updateSeq hl2 rfl
  rw [nm1]
  apply wpAny_pure
  refine ⟨plainId_quiet PySem.F.plain_max_loop _, max2_turn (t := t) Wk hst (Wk.frame _ _ _ at1 fun c hc o e => ?_) (Heap.get?_update_self _ hl2 rfl) (fun hp2 tk2 keep2 => ?_) fun hp2 tk2 keep2 => ?_⟩
  · exact (Heap.get?_update_other _ _ (fun z : st = c => hst (z ▸ hc))).trans e
  · exact cmp hp2 tk2 fun c o nc ns e => keep2 c o nc ns ((Heap.get?_update_other _ _ ns.symm).trans (keep c o nc e))
  · exact fin hp2 tk2 fun c o nc ns e => keep2 c o nc ns ((Heap.get?_update_other _ _ ns.symm).trans (keep c o nc e))
theorem max2_call {sh : Shared} {Ex : Value → Shared → Prop} {Q : Value → Shared → Prop} (hh : Ar.handled = none) (cmp : ∀ (hp : Heap) (tk : Nat), (∀ c o, sh.heap.get? c = some o → hp.get? c = some o) → RcOp .Gt Ar.in1 { sh with heap := hp, toks := tk } v u t)
    (fin : ∀ (hp : Heap) (tk : Nat), (∀ c o, sh.heap.get? c = some o → hp.get? c = some o) → Q (if t = true then v else u) { sh with heap := hp, toks := tk }) : wpAny (model pr wd) Ar (call (.builtin "max") [u, v]) Q Ex sh := by
  have nm1 : (toString "max" ++ toString ".loop" : String) = "max.loop" := by decide
  apply call_function_tree PySem.F.kind_max PySem.F.plain_max PySem.F.entry_max (PySem.F.args_max2 _ _)
  show wpAny _ Ar.in1 (Builtin.Builtins.bindParams "max" ["key", "default"] 0 ⟨[], []⟩ >>= _) _ _ sh
  apply wpAny_bind
  apply wpAny_of_eq (show Builtin.Builtins.bindParams "max" ["key", "default"] 0 ⟨[], []⟩ = pure [none, none] from rfl)
  show wpAny _ Ar.in1 (newTuple [u, v] >>= _) _ _ sh
  apply wpAny_bind
  refine wpAny_newObj_type ?_
  have hT : (sh.heap.push { cls := .type "tuple", data := .seq #[u, v] }).IsTuple sh.heap.objs.size #[u, v] := ⟨_, Heap.get?_push_size _ rfl, rfl, 0, rfl⟩
  have sz : (sh.heap.push { cls := .type "tuple", data := .seq #[u, v] }).objs.size = sh.heap.objs.size + 1 := Heap.size_push ..
  apply wpAny_bind
  apply wpAny_pyIter_tuple hT
  apply wpAny_bind
  refine wpAny_newObj_type ?_
  rw [nm1]
  apply wpAny_pure
  have ne1 : sh.heap.objs.size ≠ (sh.heap.push { cls := .type "tuple", data := .seq #[u, v] }).objs.size := by
    rw [sz]
    exact Nat.ne_of_lt (Nat.lt_succ_self _)
  have keep3 : ∀ {o1 o2 : Obj} (c : Addr) (o : Obj), sh.heap.get? c = some o → (((sh.heap.push { cls := .type "tuple", data := .seq #[u, v] }).push o1).push o2).get? c = some o := fun c o e => Heap.get?_push_of_some _ (Heap.get?_push_of_some _ (Heap.get?_push_of_some _ e))
  have old1 : ∀ (c : Addr) (o : Obj), sh.heap.get? c = some o → c ∉ [(sh.heap.push { cls := .type "tuple", data := .seq #[u, v] }).objs.size] := fun c o e => by
    rw [sz, List.mem_singleton]
    exact Nat.ne_of_lt (Nat.lt_succ_of_lt (Heap.lt_size e))
  have old2 : ∀ {o1 : Obj} (c : Addr) (o : Obj), sh.heap.get? c = some o → c ≠ ((sh.heap.push { cls := .type "tuple", data := .seq #[u, v] }).push o1).objs.size := fun {o1} c o e => by
    have sz2 : ((sh.heap.push { cls := .type "tuple", data := .seq #[u, v] }).push o1).objs.size = sh.heap.objs.size + 1 + 1 := by rw [Heap.size_push, sz]
    rw [sz2]
    exact Nat.ne_of_lt (Nat.lt_succ_of_lt (Nat.lt_succ_of_lt (Heap.lt_size e)))
  refine ⟨plainId_quiet PySem.F.plain_max_loop _, max2_first (t := t) (Walks.tuple (A := Ar.in1) hh _ sh.heap.objs.size ne1 #[u, v]) (fun hm => ?_) ⟨⟨_, Heap.get?_push_of_some _ (Heap.get?_push_size _ rfl), rfl, rfl⟩, (hT.push _).push _⟩ (Heap.get?_push_size _ rfl) (fun hp tk keep => ?_) fun hp tk keep => ?_⟩
  · rcases List.mem_cons.mp hm with e | hm
    · rw [Heap.size_push] at e
      exact absurd e (Nat.succ_ne_self _)
    · have e := List.mem_singleton.mp hm
      rw [Heap.size_push, sz] at e
      exact absurd e (Nat.ne_of_gt (Nat.lt_succ_of_lt (Nat.lt_succ_self _)))
  · exact cmp hp tk fun c o e => keep c o (old1 c o e) (old2 c o e) (keep3 c o e)
  · exact fin hp tk fun c o e => keep c o (old1 c o e) (old2 c o e) (keep3 c o e)
end
theorem dec_eq (a b : Int) : (a == b) = decide (a = b) := by
  by_cases q : a = b
  · rw [decide_eq_true q]
    exact beq_iff_eq.mpr q
  · rw [decide_eq_false q]
    exact beq_eq_false_iff_ne.mpr q
section
variable {X : Cx}
/-- the one of two int tuples of three that min, max give; told by the order of the lists -/
def rMin2T : List V → Hp → VK → Prop := fun vs H Q => ∃ (a b : Addr) (p q : PM.P3), vs = [.ref a, .ref b] ∧ H a = some (.tup p.vs) ∧ H b = some (.tup q.vs) ∧ Q (.ref (if HT.lexLt (ns q) (ns p) = true then b else a)) H
def rMax2T : List V → Hp → VK → Prop := fun vs H Q => ∃ (a b : Addr) (p q : PM.P3), vs = [.ref a, .ref b] ∧ H a = some (.tup p.vs) ∧ H b = some (.tup q.vs) ∧ Q (.ref (if HT.lexLt (ns p) (ns q) = true then b else a)) H
theorem tup_keep {s : Shared} {hp : Heap} {a : Addr} {items : Array Value} (x : s.heap.IsTuple a items) (keep : ∀ c o, s.heap.get? c = some o → hp.get? c = some o) : hp.IsTuple a items := by
  obtain ⟨o, e, c, n, d⟩ := x
  exact ⟨o, keep _ _ e, c, n, d⟩
theorem lexAt3 (p q : PM.P3) : lexAt (fun j => decide ((ns q).getD j 0 = (ns p).getD j 0)) (fun j => decide ((ns p).getD j 0 < (ns q).getD j 0)) (decide (3 > 3)) 0 (min 3 3) = HT.lexLt (ns p) (ns q) := by
  have e3 : min 3 3 = 3 := rfl
  rw [e3]
  simp only [lexAt, ns, HT.lexLt, List.getD_cons_zero, List.getD_cons_succ, decide_eq_true_eq]
  by_cases c1 : p.x = q.x
  · by_cases c2 : p.y = q.y
    · by_cases c3 : p.w = q.w
      · simp [c1, c2, c3]
      · simp [c1, c2, c3, Ne.symm c3]
    · simp [c1, c2, Ne.symm c2]
  · simp [c1, Ne.symm c1]
theorem call_min2T (hc : X.calm = true) (hu : X.A.units + 64 < cLine) : CallR X (.builtin "min") rMin2T := by
  intro pins s σ H vs us Q I r h
  obtain ⟨a, b, p, q, rfl, ha, hb, k⟩ := h
  obtain ⟨u1, u2, rfl, r1, r2⟩ := vals2 r
  cases r1
  cases r2
  obtain ⟨its, w1, p1, _⟩ := I.tuple (SqT.of ha)
  obtain ⟨its2, w2, p2, _⟩ := I.tuple (SqT.of hb)
  refine min2_call (t := HT.lexLt (ns q) (ns p)) (I.ok.hd hc) (fun hp tk keep => ?_) fun hp tk keep => ?_
  · intro pr wd Ex Q' q'
    exact HT.lt_tupInts (tup_keep p2 keep) (tup_keep p1 keep) (intsAre_of (ns := ns q) w2) (intsAre_of (ns := ns p) w1) (show X.A.in1.units < cLine from Nat.lt_of_le_of_lt (Nat.succ_le_of_lt (Nat.lt_add_of_pos_right (by decide))) hu) q'
  · have J := I.kept (t' := tk) keep
    cases c : HT.lexLt (ns q) (ns p) with
    | true =>
      rw [c] at k
      exact ⟨.ref b, H, J, (rfl : Value.ref b = Value.ref b), k⟩
    | false =>
      rw [c] at k
      exact ⟨.ref a, H, J, (rfl : Value.ref a = Value.ref a), k⟩
theorem call_max2T (hc : X.calm = true) (hu : X.A.units + 64 < cLine) : CallR X (.builtin "max") rMax2T := by
  intro pins s σ H vs us Q I r h
  obtain ⟨a, b, p, q, rfl, ha, hb, k⟩ := h
  obtain ⟨u1, u2, rfl, r1, r2⟩ := vals2 r
  cases r1
  cases r2
  obtain ⟨its, w1, p1, _⟩ := I.tuple (SqT.of ha)
  obtain ⟨its2, w2, p2, _⟩ := I.tuple (SqT.of hb)
  refine max2_call (t := HT.lexLt (ns p) (ns q)) (I.ok.hd hc) (fun hp tk keep => ?_) fun hp tk keep => ?_
  · have i1 : IntsAre its (ns p) := Vals.ints (ns := ns p) w1
    have i2 : IntsAre its2 (ns q) := Vals.ints (ns := ns q) w2
    have n1 : its.toArray.size = 3 := by rw [List.size_toArray]; exact i1.length
    have n2 : its2.toArray.size = 3 := by rw [List.size_toArray]; exact i2.length
    have f1 : ∀ j (h1 : j < its.toArray.size), ∃ t, its.toArray[j] = .int ((ns p).getD j 0) t := fun j h1 => PyProof.Rows.IntsAre.int_at i1 _ _ (by simp at h1; simp [h1])
    have f2 : ∀ j (h1 : j < its2.toArray.size), ∃ t, its2.toArray[j] = .int ((ns q).getD j 0) t := fun j h1 => PyProof.Rows.IntsAre.int_at i2 _ _ (by simp at h1; simp [h1])
    have z := RcOp.tuples_gt (A := X.A.in1) (s := { s with heap := hp, toks := tk }) (e := fun j => decide ((ns q).getD j 0 = (ns p).getD j 0)) (r := fun j => decide ((ns p).getD j 0 < (ns q).getD j 0)) (tup_keep p2 keep) (tup_keep p1 keep) (show X.A.in1.units < cLine from Nat.lt_of_le_of_lt (Nat.succ_le_of_lt (Nat.lt_add_of_pos_right (by decide))) hu) (fun j h1 h2 => by
      obtain ⟨t, et⟩ := f2 j h1
      obtain ⟨t', et'⟩ := f1 j h2
      rw [et, et', ← dec_eq]
      exact SeqAt.EqAt.int_int _ _ _ _) (fun j h1 h2 _ => by
      obtain ⟨t, et⟩ := f2 j h1
      obtain ⟨t', et'⟩ := f1 j h2
      rw [et, et']
      exact RcOp.gt_int _ _ _ _)
    rw [n1, n2, lexAt3] at z
    exact z
  · have J := I.kept (t' := tk) keep
    cases c : HT.lexLt (ns p) (ns q) with
    | true =>
      rw [c] at k
      exact ⟨.ref b, H, J, (rfl : Value.ref b = Value.ref b), k⟩
    | false =>
      rw [c] at k
      exact ⟨.ref a, H, J, (rfl : Value.ref a = Value.ref a), k⟩
end
end Q
set_option Elab.async false
set_option linter.all false
set_option maxRecDepth 100000
set_option maxHeartbeats 4000000
namespace PM
theorem low_scale {x y w t : Int} (hw : 0 < w) (ht : 0 < t) : low (x * t) (y * t) (w * t) = low x y w := by
  have h : 0 < w * t := Int.mul_pos hw ht
  refine of_eq (low_pt h) (low_pt hw) (low_of (by omega)) (low_of (by omega)) ?_ ?_
  · grind
  · grind
theorem lowS_neg {x y w : Int} (hw : 0 < w) : lowS (0 - x) (0 - y) (0 - w) = low x y w := by
  unfold lowS
  rw [if_pos (by omega)]
  congr 1 <;> omega
theorem lowS_scale {x y w t : Int} (hw : 0 < w) (ht : 0 < t) : lowS (x * t) (y * t) (w * t) = low x y w := by
  rw [lowS_pos (Int.mul_pos hw ht), low_scale hw ht]
theorem low_one (x y : Int) : lowS x y 1 = ⟨x, y, 1⟩ := by
  rw [lowS_pos (by decide)]
  unfold low
  have g : gc x y 1 = 1 := by
    unfold gc
    simp
  rw [g]
  simp
/-- a point told by more than its least numbers is none -/
theorem not_least {x y w t : Int} (hw : 0 < w) (ht : 2 ≤ t) : gc (x * t) (y * t) (w * t) ≠ 1 := by
  have e := gc_mul t x y w (by omega)
  rw [Int.mul_comm t x, Int.mul_comm t y, Int.mul_comm t w] at e
  have g := gc_pos (x := x) (y := y) (w := w) (by omega)
  rw [e]
  intro z
  have h2 : t * 1 ≤ t * gc x y w := Int.mul_le_mul_of_nonneg_left (by omega) (by omega)
  omega
theorem low_ne {x y w : Int} (hw : 0 < w) : low x y w ≠ low (x + 1) y w := by
  intro h
  have o1 := low_of (x := x) (y := y) (w := w) (by omega)
  have o2 := low_of (x := x + 1) (y := y) (w := w) (by omega)
  rw [h] at o1
  have z := (of_same o1 o2).1
  have : w = 0 := by grind
  omega
end PM
namespace Q
open PySem L2 PySem.Spec PyProof.Rows PySem.Calls
open PM Evl
abbrev sPtsR : Stmt := top 47
section
variable {K : PySem.W.Frag} {σ : L2.St} {H : Hp} {ta tb tc te : TE} {E : XK} {x y w : Int} {L p q : P3} {v : V} {b : Bool} {i j : Nat} {l : Addr}
theorem ept_ptof (h1 : Ev ta σ H (.int x)) (h2 : Ev tb σ H (.int y)) (h3 : Ev tc σ H (.int w)) (w0 : w ≠ 0) (bw : Bd 6000 w) (e : lowS x y w = L) (pL : Pt L) (bL : B3 1000 L) : EvPt (tCall spPtOf [] E (tCons ta (tCons tb (tCons tc tNil)))) σ H L := fun H1 e1 Q k =>
  h1 H1 e1 _ fun H2 e2 => h2 H2 (e1.trans e2) _ fun H3 e3 => h3 H3 ((e1.trans e2).trans e3) _ fun H4 e4 => ⟨x, y, w, rfl, w0, bw, fun l H5 _ e5 h => k l H5 (((e2.trans e3).trans e4).trans e5) ⟨by rw [← e]; exact h, pL, bL⟩⟩
theorem ept_ptof2 (h1 : Ev ta σ H (.int x)) (h2 : Ev tb σ H (.int y)) (e : lowS x y 1 = L) (pL : Pt L) (bL : B3 1000 L) : EvPt (tCall spPtOf [.int 1] E (tCons ta (tCons tb tNil))) σ H L := fun H1 e1 Q k =>
  h1 H1 e1 _ fun H2 e2 => h2 H2 (e1.trans e2) _ fun H3 e3 => ⟨x, y, 1, rfl, by decide, (⟨by decide⟩ : Bd 1 (1 : Int)).le (by decide), fun l H5 _ e5 h => k l H5 ((e2.trans e3).trans e5) ⟨by rw [← e]; exact h, pL, bL⟩⟩
theorem ev_ispt (h : Ev te σ H v) (x : Pv H v b) : Ev (tCall spIsPt [] E (tCons te tNil)) σ H (.bl b) := ev_call (ea_cons h ea_nil) fun H1 e Q q E => ⟨v, b, rfl, x.mono e, q H1 (Ex.refl _)⟩
theorem Ps.mono {H H' : Hp} {v : V} {b : Bool} (e : Same H H') (h : Ps H v b) : Ps H' v b := by
  cases h with
  | pair h hu hv => exact .pair (e _ _ h) (e _ _ hu) (e _ _ hv)
  | tup h hl => exact .tup (e _ _ h) hl
  | lst h => exact .lst (e _ _ h)
  | non => exact .non
theorem ev_side (h : Ev te σ H v) (x : Ps H v b) : Ev (tCall spSide [] E (tCons te tNil)) σ H (.bl b) := ev_call (ea_cons h ea_nil) fun H1 e Q q E => ⟨v, b, rfl, x.mono e, q H1 (Ex.refl _)⟩
/-- a point and a written tuple of its numbers -/
theorem ev_neU (h1 : EvPt ta σ H ⟨x, y, w⟩) (h2 : EvU tb σ H [.int x, .int y, .int w]) : Ev (tOp (rNeD K) ta tb) σ H (.bl false) := fun H1 e Q k =>
  h1 H1 e _ fun l1 H2 e2 x1 => h2 H2 (e.trans e2) _ fun l2 H3 _ e3 x2 => ⟨_, _, dp_of (pt_mono e3 x1).h, dp_of (p := ⟨x, y, w⟩) x2, shaped_dP _, shaped_dP _, by
    rw [(eqv_dP _ _).mpr rfl]
    exact k H3 (e2.trans e3)⟩
def dL3 (p : P3) : PyData := .list [dP p, dP p, dP p]
theorem shapedL3 (p : P3) : SeqAt.shaped (dL3 p) = true := rfl
theorem dp_l3 {a l1 l2 l3 : Addr} (h : H a = some (.lst [.ref l1, .ref l2, .ref l3])) (h1 : H l1 = some (.tup p.vs)) (h2 : H l2 = some (.tup p.vs)) (h3 : H l3 = some (.tup p.vs)) : Dp K H (.ref a) (dL3 p) := .lst (SqL.of h) (.cons (dp_of h1) (.cons (dp_of h2) (.cons (dp_of h3) .nil)))
theorem ev_neL3 {a l1 l2 l3 : Addr} (h : σ[i]? = some (some (.ref a))) (h' : σ[j]? = some (some (.ref l))) (ha : H a = some (.lst [.ref l1, .ref l2, .ref l3])) (h1 : PtA H l1 p) (h2 : PtA H l2 p) (h3 : PtA H l3 p) (hl : PtA H l p) :
    Ev (tOp (rNeD K) (tVar i) (tOp rRep (tLst (tCons (tVar j) tNil)) (tC (.int 3)))) σ H (.bl false) := fun H1 e Q k =>
  ⟨_, h, _, h', ⟨(by show 1 ≤ sizeLine; decide), fun m hm => ⟨m, 3, [.ref l], rfl, rfl, upd_same, by decide, by decide, (by show 3 ≤ sizeLine; decide), fun n hn => by
    have f := (Ex.new (o := .lst [.ref l]) hm).trans (Ex.new (o := .lst [.ref l, .ref l, .ref l]) hn)
    have g := e.trans f
    refine ⟨dL3 p, dL3 p, dp_l3 (g _ _ ha) (pt_mono g h1).h (pt_mono g h2).h (pt_mono g h3).h, dp_l3 upd_same (pt_mono g hl).h (pt_mono g hl).h (pt_mono g hl).h, shapedL3 _, shapedL3 _, ?_⟩
    have z : PyData.eqv (dL3 p) (dL3 p) = true := by
      have zp := (eqv_dP p p).mpr rfl
      unfold dL3
      simp [PyData.eqv, PyData.eqvAll, zp]
    rw [z]
    exact k _ f⟩⟩⟩
end
section
variable {K : PySem.W.Frag} {σ : L2.St} {H : Hp} {tl te : TE} {E : XK} {a : Addr} {xs : List V} {j : Nat} {vs : List Nat} {sp : Sp}
/-- nothing is taken: the new list is empty -/
theorem el_none {tt : TT} (h : Ev tl σ H (.ref a)) (hx : SqL K H a xs) (hz : xs.length ≤ 40000) (hw : ∀ x, wipe ((wipe σ vs).set j (some x)) vs = wipe σ vs) (ht : ∀ (i : Nat) (x : V) H1, Ex H H1 → xs[i]? = some x → EvT tt ((wipe σ vs).set j (some x)) H1 false) : EvL (tLc (iList K tl) (gName j) tt te vs) σ H [] := by
  have z := el_lcL (K := K) (te := te) (tl := tl) (j := j) (vs := vs) (fun _ => false) (fun _ => V.non) h hx hz hw ht fun i x H1 _ _ q => nomatch q
  have g : given xs.length (fun _ => false) (fun _ => V.non) = [] := by
    unfold given
    rw [List.filter_eq_nil_iff.mpr (by simp)]
    rfl
  rw [g] at z
  exact z
theorem shaped0 : SeqAt.shaped (.list []) = true := rfl
theorem ev_ne0 {ta tb : TE} (h1 : EvL ta σ H []) (h2 : EvL tb σ H []) : Ev (tOp (rNeD K) ta tb) σ H (.bl false) := ev_opLL h1 h2 fun p q H1 hp hq _ H2 e Q k => ⟨.list [], .list [], .lst (SqL.of (e _ _ hp)) .nil, .lst (SqL.of (e _ _ hq)) .nil, shaped0, shaped0, k H2 (Ex.refl _)⟩
theorem ev_eq0L {ta tb : TE} (h1 : EvL ta σ H []) (h2 : EvL tb σ H []) : Ev (tOp (rEqD K) ta tb) σ H (.bl true) := ev_opLL h1 h2 fun p q H1 hp hq _ H2 e Q k => ⟨.list [], .list [], .lst (SqL.of (e _ _ hp)) .nil, .lst (SqL.of (e _ _ hq)) .nil, shaped0, shaped0, k H2 (Ex.refl _)⟩
end
theorem st_near {K : PySem.W.Frag} {σ : L2.St} {H : Hp} {e1 e2 e3 : TE} {xs1 xs2 xs3 ys : List V} {Q : VK} {i : Nat} {l : Addr} (u1 : EvU e1 σ H xs1) (u2 : EvU e2 σ H xs2) (u3 : EvU e3 σ H xs3) (hs : σ[i]? = some (some (.ref l))) (hl : H l = some (.tup ys))
    (q : ∀ (nl a1 a2 a3 a4 : Addr) (G : Hp), Ex H G → G nl = some (.lst [.ref a1, .ref a2, .ref a3, .ref a4]) → G a1 = some (.tup xs1) → G a2 = some (.tup xs2) → G a3 = some (.tup xs3) → G a4 = some (.lst ys) → Q (.ref nl) G) :
    tLst (tCons e1 (tCons e2 (tCons e3 (tCons (tCB (fun xs H Q => ∃ p ys, xs = [.ref p] ∧ (SqL K H p ys ∨ SqT K H p ys) ∧ ∀ l, H l = none → Q (.ref l) (upd H l (.lst ys))) (tCons (tVar i) tNil)) tNil)))) σ H Q :=
  u1 H (Ex.refl _) _ fun a1 G1 _ f1 q1 => u2 G1 f1 _ fun a2 G2 _ f2 q2 => u3 G2 (f1.trans f2) _ fun a3 G3 _ f3 q3 => ⟨_, hs, l, ys, rfl, .inr (SqT.of (((f1.trans f2).trans f3) _ _ hl)), fun a4 h4 => ⟨(by show 4 ≤ sizeLine; decide), fun nl hnl => by
    have f4 := Ex.new (o := .lst ys) h4
    have f5 := Ex.new (o := .lst [.ref a1, .ref a2, .ref a3, .ref a4]) hnl
    exact q nl a1 a2 a3 a4 _ ((((f1.trans f2).trans f3).trans f4).trans f5) upd_same ((((f2.trans f3).trans f4).trans f5) _ _ q1) (((f3.trans f4).trans f5) _ _ q2) ((f4.trans f5) _ _ q3) (f5 _ _ upd_same)⟩⟩
section
variable {K : PySem.W.Frag} {σ : L2.St} {H : Hp} {i j : Nat} {l nl : Addr} {x y w : Int}
theorem eu_slice (hs : σ[i]? = some (some (.ref l))) (hl : H l = some (.tup [.int x, .int y, .int w])) : EvU (tSl (rSlT K) (tVar i) tNoPart (tPart (tC (.int 2)))) σ H [.int x, .int y] := fun H1 e Q q =>
  ⟨_, hs, _, rfl, l, [.int x, .int y, .int w], rfl, SqT.of (e _ _ hl), (by
    intro z
    have z2 := z.2
    revert z2
    show ¬ (HT.sIx 3 3 (some 2) = 3)
    decide), fun p hp => q p _ hp (Ex.new hp) upd_same⟩
theorem eu_cat1 (hs : σ[i]? = some (some (.ref l))) (hl : H l = some (.tup [.int x, .int y, .int w])) : EvU (tOp (rCatT K) (tVar i) (tTup (tCons (tC (.int 1)) tNil))) σ H [.int x, .int y, .int w, .int 1] := fun H1 e Q q =>
  ⟨_, hs, (by show 1 ≤ sizeLine; decide), fun t ht => ⟨l, t, [.int x, .int y, .int w], [.int 1], rfl, rfl, SqT.of (Ex.new ht _ _ (e _ _ hl)), SqT.of upd_same, (fun z => nomatch z), (by show 4 ≤ sizeLine; decide), (fun z => nomatch z), fun _ p hp => q p _ (fresh_back (Ex.new ht) hp) ((Ex.new ht).trans (Ex.new hp)) upd_same⟩⟩
theorem st_near2 {e1 e2 e3 e4 e5 : TE} {xs1 xs2 xs3 xs4 xs5 zs : List V} {Q : VK} (hn : σ[j]? = some (some (.ref nl))) (hz : H nl = some (.lst zs)) (hzl : zs.length ≤ 100) (u1 : EvU e1 σ H xs1) (u2 : EvU e2 σ H xs2) (u3 : EvU e3 σ H xs3) (u4 : EvU e4 σ H xs4) (u5 : EvU e5 σ H xs5)
    (q : ∀ (m b1 b2 b3 b4 b5 : Addr) (G : Hp), Ex H G → G m = some (.lst (zs ++ [.ref b1, .ref b2, .ref b3, .ref b4, .ref b5, .non])) → G b1 = some (.tup xs1) → G b2 = some (.tup xs2) → G b3 = some (.tup xs3) → G b4 = some (.tup xs4) → G b5 = some (.tup xs5) → Q (.ref m) G) :
    tOp rCat (tVar j) (tLst (tCons e1 (tCons e2 (tCons e3 (tCons e4 (tCons e5 (tCons (tC .non) tNil))))))) σ H Q :=
  ⟨_, hn, u1 H (Ex.refl _) _ fun b1 G1 _ f1 q1 => u2 G1 f1 _ fun b2 G2 _ f2 q2 => u3 G2 (f1.trans f2) _ fun b3 G3 _ f3 q3 => u4 G3 ((f1.trans f2).trans f3) _ fun b4 G4 _ f4 q4 => u5 G4 (((f1.trans f2).trans f3).trans f4) _ fun b5 G5 _ f5 q5 => ⟨(by show 6 ≤ sizeLine; decide), fun a ha => by
    have f6 := Ex.new (o := .lst [.ref b1, .ref b2, .ref b3, .ref b4, .ref b5, .non]) ha
    have f05 := ((((f1.trans f2).trans f3).trans f4).trans f5).trans f6
    refine ⟨nl, a, zs, [.ref b1, .ref b2, .ref b3, .ref b4, .ref b5, .non], rfl, rfl, f05 _ _ hz, upd_same, Nat.le_trans (Nat.add_le_add_right hzl _) (by show 100 + 6 ≤ sizeLine; decide), fun m hm => ?_⟩
    have f7 := Ex.new (o := .lst (zs ++ [.ref b1, .ref b2, .ref b3, .ref b4, .ref b5, .non])) hm
    exact q m b1 b2 b3 b4 b5 _ (f05.trans f7) upd_same (((((f2.trans f3).trans f4).trans f5).trans (f6.trans f7)) _ _ q1) ((((f3.trans f4).trans f5).trans (f6.trans f7)) _ _ q2) (((f4.trans f5).trans (f6.trans f7)) _ _ q3) ((f5.trans (f6.trans f7)) _ _ q4) ((f6.trans f7) _ _ q5)⟩⟩
end
theorem st_odd {σ : L2.St} {H : Hp} {e1 e2 e3 e4 e5 e6 : TE} {xs1 xs2 xs3 xs4 xs5 xs6 : List V} {Q : VK} (u1 : EvU e1 σ H xs1) (u2 : EvU e2 σ H xs2) (u3 : EvL e3 σ H xs3) (u4 : EvU e4 σ H xs4) (u5 : EvU e5 σ H xs5) (u6 : EvU e6 σ H xs6)
    (q : ∀ (m b1 b2 b3 b4 b5 b6 : Addr) (G : Hp), Ex H G → G m = some (.lst [.ref b1, .ref b2, .ref b3, .ref b4, .ref b5, .ref b6, .non]) → G b1 = some (.tup xs1) → G b2 = some (.tup xs2) → G b3 = some (.lst xs3) → G b4 = some (.tup xs4) → G b5 = some (.tup xs5) → G b6 = some (.tup xs6) → Q (.ref m) G) :
    tLst (tCons e1 (tCons e2 (tCons e3 (tCons e4 (tCons e5 (tCons e6 (tCons (tC .non) tNil))))))) σ H Q :=
  u1 H (Ex.refl _) _ fun b1 G1 _ f1 q1 => u2 G1 f1 _ fun b2 G2 _ f2 q2 => u3 G2 (f1.trans f2) _ fun b3 G3 _ f3 q3 => u4 G3 ((f1.trans f2).trans f3) _ fun b4 G4 _ f4 q4 => u5 G4 (((f1.trans f2).trans f3).trans f4) _ fun b5 G5 _ f5 q5 => u6 G5 ((((f1.trans f2).trans f3).trans f4).trans f5) _ fun b6 G6 _ f6 q6 => ⟨(by show 7 ≤ sizeLine; decide), fun m hm => by
    have f7 := Ex.new (o := .lst [.ref b1, .ref b2, .ref b3, .ref b4, .ref b5, .ref b6, .non]) hm
    exact q m b1 b2 b3 b4 b5 b6 _ ((((((f1.trans f2).trans f3).trans f4).trans f5).trans f6).trans f7) upd_same ((((((f2.trans f3).trans f4).trans f5).trans f6).trans f7) _ _ q1) (((((f3.trans f4).trans f5).trans f6).trans f7) _ _ q2) ((((f4.trans f5).trans f6).trans f7) _ _ q3) (((f5.trans f6).trans f7) _ _ q4) ((f6.trans f7) _ _ q5) (f7 _ _ q6)⟩
theorem isPt_of {p : P3} (h : Pt p) : isPt p = true := by
  unfold isPt
  rw [decide_eq_true h.w, decide_eq_true h.g]
  rfl
theorem ev_sideU {σ : L2.St} {H : Hp} {te : TE} {E : XK} {u v : Addr} {A B : P3} (h : EvU te σ H [.ref u, .ref v]) (hu : PtA H u A) (hv : PtA H v B) (c : HT.lexLt (ns A) (ns B) = true) : Ev (tCall spSide [] E (tCons te tNil)) σ H (.bl true) := fun H1 e Q q =>
  h H1 e _ fun a H2 _ e2 ha => ⟨.ref a, true, rfl, by
    have z := Ps.pair ha (pt_mono (e.trans e2) hu).h (pt_mono (e.trans e2) hv).h
    rw [isPt_of hu.pt, isPt_of hv.pt, c] at z
    exact z, q H2 e2⟩
theorem lex_irr (p : P3) : HT.lexLt (ns p) (ns p) = false := by
  simp [ns, HT.lexLt]
theorem lex_tri {p q : P3} (h : p ≠ q) : (HT.lexLt (ns p) (ns q) = true ∧ HT.lexLt (ns q) (ns p) = false) ∨ (HT.lexLt (ns p) (ns q) = false ∧ HT.lexLt (ns q) (ns p) = true) := by
  obtain ⟨a, b, c⟩ := p
  obtain ⟨d, e, f⟩ := q
  simp only [ns, HT.lexLt]
  by_cases c1 : a = d
  · by_cases c2 : b = e
    · by_cases c3 : c = f
      · exact absurd (by rw [c1, c2, c3]) h
      · rw [if_pos c1, if_pos c2, if_neg c3, if_pos c1.symm, if_pos c2.symm, if_neg (Ne.symm c3)]
        rcases Int.lt_or_gt_of_ne c3 with q | q
        · exact .inl ⟨decide_eq_true q, decide_eq_false (by omega)⟩
        · exact .inr ⟨decide_eq_false (by omega), decide_eq_true q⟩
    · rw [if_pos c1, if_neg c2, if_pos c1.symm, if_neg (Ne.symm c2)]
      rcases Int.lt_or_gt_of_ne c2 with q | q
      · exact .inl ⟨decide_eq_true q, decide_eq_false (by omega)⟩
      · exact .inr ⟨decide_eq_false (by omega), decide_eq_true q⟩
  · rw [if_neg c1, if_neg (Ne.symm c1)]
    rcases Int.lt_or_gt_of_ne c1 with q | q
    · exact .inl ⟨decide_eq_true q, decide_eq_false (by omega)⟩
    · exact .inr ⟨decide_eq_false (by omega), decide_eq_true q⟩
/-- point_of, whose last parameter has a default -/
structure ClP (P : Program) (w : World) (K : PySem.W.Frag) (mg : Str → Option Value) (base : Heap) : Prop where
  ex : ∃ (f : Addr) (fd : FuncData) (ds : List Value), FnOk P w K mg base CX0 2 f fd ["x", "y", "w"] spPtOf ∧ mg "point_of" = some (.ref f) ∧ PySem.W.keepIn K (.ref f) = true ∧ Binds K fd ["x", "y", "w"] [] ∧ Vals [.int 1] ds ∧ Binds K fd ["x", "y", "w"] ds
section
variable {X : Cx} {j : Nat} {p pos : Pos} {e : Expr} {es : List Expr} {t : TA}
theorem pe_p3 (c : ClP X.prog X.w X.K X.mg X.base) (hr : Room j X.A) (hk : 2 ≤ j) (hg : Gl X "point_of") (ha : PA X (e :: es) t)
    (he : starEach (e :: es) X.env = (false, eval e X.env) :: starEach es X.env := by rfl) (hpl : (backTo pos (starEach es X.env)).any (·.1) = false := by rfl) :
    PE X (.Call (.Name "point_of" p) (e :: es) [] pos) (tCall spPtOf [] E0 t) := by
  obtain ⟨f, fd, ds, F, hm, kp, b, _, _⟩ := c.ex
  exact pe_call F (hr.mono hk) hg hm kp b .nil pass0 ha (by decide) he hpl
theorem pe_p2 (c : ClP X.prog X.w X.K X.mg X.base) (hr : Room j X.A) (hk : 2 ≤ j) (hg : Gl X "point_of") (ha : PA X (e :: es) t)
    (he : starEach (e :: es) X.env = (false, eval e X.env) :: starEach es X.env := by rfl) (hpl : (backTo pos (starEach es X.env)).any (·.1) = false := by rfl) :
    PE X (.Call (.Name "point_of" p) (e :: es) [] pos) (tCall spPtOf [.int 1] E0 t) := by
  obtain ⟨f, fd, ds, F, hm, kp, _, d, b⟩ := c.ex
  exact pe_call F (hr.mono hk) hg hm kp b d pass0 ha (by decide) he hpl
end
section
variable {P : Program} {w : World} {K : PySem.W.Frag} {mg : Str → Option Value} {base : Heap}
theorem scPtsR : FnScope ["bag", "x", "y", "w", "times", "point", "told", "near", "other", "low", "high", "odd", "one"] ["bag"] (defScope sPtsR) := ⟨rfl, rfl, rfl, by decide +kernel, rfl, by decide +kernel, by decide +kernel⟩
theorem ok_ptsR {f : Addr} {fd : FuncData} (F : Fun K "_law_points_right" "_law_points_right" sPtsR f fd) (T : TL mg) (hlist : mg "list" = none) (CD : Cl P w K mg base 1 "_law_draw" spDraw) (CO : Cl P w K mg base 2 "_law_one_of" spOne) (CL : Cl P w K mg base 2 "_law_point" spPoint)
    (CP : ClP P w K mg base) (CI : Cl P w K mg base 2 "is_point" spIsPt) (CS : Cl P w K mg base 3 "is_side" spSide) : FnOk P w K mg base CX0 4 f fd ["bag"] spPtsR := by
  refine F.ok scPtsR (fun vs H Q E h => ?_) (fun cdv A outer s H vs Q E hr h => ?_)
  · obtain ⟨p, rfl, _⟩ := h
    rfl
  · obtain ⟨p, rfl, hb, k⟩ := h
    have hu := hr.units
    refine ⟨_, (Evl.pss_cut (ps_par (i := 1) (j := 2) (by rfl) scPtsR.nd rfl rfl (by decide) rfl rfl (pa_cons (pe_op op_sub (pe_cl CD hr (by decide) (by rfl) (pa_cons (pv 0) (pa_cons (pe_op op_powW pe_int pe_int) pa_nil))) (pe_op op_powW pe_int pe_int)) (pa_cons (pe_op op_sub (pe_cl CD hr (by decide) (by rfl) (pa_cons (pv 0) (pa_cons (pe_int) pa_nil))) pe_int) pa_nil)) (by rfl))
      (Evl.pss_cut (ps_par (i := 3) (j := 4) (by rfl) scPtsR.nd rfl rfl (by decide) rfl rfl (pa_cons (pe_op op_add pe_int (pe_cl CD hr (by decide) (by rfl) (pa_cons (pv 0) (pa_cons (pe_cl CO hr (by decide) (by rfl) (pa_cons (pv 0) (pa_cons (pe_lst (pa_cons (pe_int) (pa_cons (pe_int) (pa_cons (pe_op op_powW pe_int pe_int) pa_nil)))) pa_nil))) pa_nil)))) (pa_cons (pe_op op_add pe_int (pe_cl CD hr (by decide) (by rfl) (pa_cons (pv 0) (pa_cons (pe_int) pa_nil)))) pa_nil)) (by rfl))
      (Evl.pss_cut (ps_set (i := 5) scPtsR.nd rfl (Or.inl rfl) (pe_cl CL hr (by decide) (by rfl) (pa_cons (pv 1) (pa_cons (pv 2) (pa_cons (pv 3) pa_nil)))))
      (Evl.pss_cut (ps_set (i := 6) scPtsR.nd rfl (Or.inl rfl) (pe_lst (pa_cons (pe_p3 CP hr (by decide) (by rfl) (pa_cons (pv 1) (pa_cons (pv 2) (pa_cons (pv 3) pa_nil)))) (pa_cons (pe_p3 CP hr (by decide) (by rfl) (pa_cons (pe_op op_sub pe_int (pv 1)) (pa_cons (pe_op op_sub pe_int (pv 2)) (pa_cons (pe_op op_sub pe_int (pv 3)) pa_nil)))) (pa_cons (pe_p3 CP hr (by decide) (by rfl) (pa_cons (pe_op op_mulW (pv 1) (pv 4)) (pa_cons (pe_op op_mulW (pv 2) (pv 4)) (pa_cons (pe_op op_mulW (pv 3) (pv 4)) pa_nil)))) pa_nil)))))
      (Evl.pss_cut (ps_if (pw_or (pt_cmpR (op_neD hu) (pv 6) (pe_op op_rep (pe_lst (pa_cons (pv 5) pa_nil)) pe_int) (nomark _)) (pw_or (pt_cmpR (op_neD hu) (pe_p2 CP hr (by decide) (by rfl) (pa_cons (pv 1) (pa_cons (pv 2) pa_nil))) (pe_tup (pa_cons (pv 1) (pa_cons (pv 2) (pa_cons (pe_int) pa_nil)))) (nomark _)) (pw_or1 (pt_cmpR op_notBl (pe_cl CI hr (by decide) (by rfl) (pa_cons (pv 5) pa_nil)) pe_bl (nomark _))))).pt (pss_one (ps_ret pe_bl)) pss_nil)
      (Evl.pss_cut (ps_set (i := 7) scPtsR.nd rfl (Or.inl rfl) (pe_lst (pa_cons (pe_tup (pa_cons (pe_op op_mulW (pv 1) (pv 4)) (pa_cons (pe_op op_mulW (pv 2) (pv 4)) (pa_cons (pe_op op_mulW (pv 3) (pv 4)) pa_nil)))) (pa_cons (pe_tup (pa_cons ((pe_ix ix_tup (pv 5) pe_int (fun _ _ => rfl))) (pa_cons ((pe_ix ix_tup (pv 5) pe_int (fun _ _ => rfl))) (pa_cons (pe_int) pa_nil)))) (pa_cons (pe_tup (pa_cons ((pe_ix ix_tup (pv 5) pe_int (fun _ _ => rfl))) (pa_cons ((pe_ix ix_tup (pv 5) pe_int (fun _ _ => rfl))) (pa_cons (pe_op op_sub pe_int (pe_ix ix_tup (pv 5) pe_int (fun _ _ => rfl))) pa_nil)))) (pa_cons (pe_callTy call_list_of (by rfl) hlist (by decide +kernel) (pa_cons (pv 5) pa_nil)) pa_nil))))))
      (Evl.pss_cut (ps_set (i := 7) scPtsR.nd rfl (Or.inl rfl) (pe_op op_cat (pv 7) (pe_lst (pa_cons (pe_slice sl_tup (pv 5) po_none (po_some pe_int)) (pa_cons (pe_op op_catT (pv 5) (pe_tup (pa_cons (pe_int) pa_nil))) (pa_cons (pe_tup (pa_cons (pe_non) (pa_cons ((pe_ix ix_tup (pv 5) pe_int (fun _ _ => rfl))) (pa_cons (pe_int) pa_nil)))) (pa_cons (pe_tup (pa_cons (pe_bl) (pa_cons ((pe_ix ix_tup (pv 5) pe_int (fun _ _ => rfl))) (pa_cons (pe_int) pa_nil)))) (pa_cons (pe_tup (pa_cons ((pe_ix ix_tup (pv 5) pe_int (fun _ _ => rfl))) (pa_cons ((pe_ix ix_tup (pv 5) pe_int (fun _ _ => rfl))) (pa_cons (pe_bl) pa_nil)))) (pa_cons (pe_non) pa_nil)))))))))
      (Evl.pss_cut (ps_if (pt_cmpR (op_neD hu) (pe_lc (own := [("one", 12)]) (g := gName 12) (by rfl) scPtsR.nd (pi_list (pv 7))
            (blkOk_by (own := [("one", 12)]) (N := ["bag", "x", "y", "w", "times", "point", "told", "near", "other", "low", "high", "odd", "one"]) (sc := defScope sPtsR) (by decide +kernel))
            (fun _ _ _ _ _ => pg_name (i := 12) scPtsR.nd rfl (Or.inl rfl)) (fun _ _ _ _ _ => pts_one (by exact (pt_cmpR op_notBl (pe_cl CI hr (by decide) (by rfl) (pa_cons (pv 12) pa_nil)) pe_bl (nomark _))))
            (tt := tTest (tOp rNotB (tCall spIsPt [] E0 (tCons (tVar 12) tNil)) (tC (.bl false)))) (te := tVar 12) (fun _ _ _ _ _ => by exact (pv 12))) (pe_lst pa_nil) (nomark _)) (pss_one (ps_ret pe_bl)) pss_nil)
      (Evl.pss_cut (ps_set (i := 8) scPtsR.nd rfl (Or.inl rfl) (pe_cl CL hr (by decide) (by rfl) (pa_cons (pe_op op_add (pv 1) pe_int) (pa_cons (pv 2) (pa_cons (pv 3) pa_nil)))))
      (Evl.pss_cut (ps_par (i := 9) (j := 10) (by rfl) scPtsR.nd rfl rfl (by decide) rfl rfl (pa_cons (pe_callB (call_min2T rfl hu) (by rfl) T.min (by decide +kernel) (pa_cons (pv 5) (pa_cons (pv 8) pa_nil))) (pa_cons (pe_callB (call_max2T rfl hu) (by rfl) T.max (by decide +kernel) (pa_cons (pv 5) (pa_cons (pv 8) pa_nil))) pa_nil)) (by rfl))
      (Evl.pss_cut (ps_set (i := 11) scPtsR.nd rfl (Or.inl rfl) (pe_lst (pa_cons (pe_tup (pa_cons (pv 10) (pa_cons (pv 9) pa_nil))) (pa_cons (pe_tup (pa_cons (pv 9) (pa_cons (pv 9) pa_nil))) (pa_cons (pe_lst (pa_cons (pv 9) (pa_cons (pv 10) pa_nil))) (pa_cons (pe_tup (pa_cons (pv 9) (pa_cons ((pe_ix ix_list (pv 7) pe_int (fun _ _ => rfl))) pa_nil))) (pa_cons (pe_tup (pa_cons (pv 9) pa_nil)) (pa_cons (pe_tup (pa_cons (pv 9) (pa_cons (pv 10) (pa_cons (pv 10) pa_nil)))) (pa_cons (pe_non) pa_nil)))))))))
      (pss_one (ps_ret (pe_and (pe_cmpR op_isBl (pe_cl CS hr (by decide) (by rfl) (pa_cons (pe_tup (pa_cons (pv 9) (pa_cons (pv 10) pa_nil))) pa_nil)) pe_bl (nomark _)) (pe_one (pe_cmpR (op_eqD hu) (pe_lc (own := [("one", 12)]) (g := gName 12) (by rfl) scPtsR.nd (pi_list (pv 11))
            (blkOk_by (own := [("one", 12)]) (N := ["bag", "x", "y", "w", "times", "point", "told", "near", "other", "low", "high", "odd", "one"]) (sc := defScope sPtsR) (by decide +kernel))
            (fun _ _ _ _ _ => pg_name (i := 12) scPtsR.nd rfl (Or.inl rfl)) (fun _ _ _ _ _ => pts_one (by exact (pt_cmpR op_notBl (pe_cl CS hr (by decide) (by rfl) (pa_cons (pv 12) pa_nil)) pe_bl (nomark _))))
            (tt := tTest (tOp rNotB (tCall spSide [] E0 (tCons (tVar 12) tNil)) (tC (.bl false)))) (te := tVar 12) (fun _ _ _ _ _ => by exact (pv 12))) (pe_lst pa_nil) (nomark _))))))))))))))))), ?_⟩
    have bI : ∀ {n : Int}, InS (10 ^ 20) n → Bd 100 n := fun h => bd_of (by
      obtain ⟨a, b⟩ := h
      omega)
    refine q_cut (M := fun σ' H' => ∃ x y : Int, InS (10 ^ 20) x ∧ InS (10 ^ 20) y ∧ Bgd p H H' ∧ σ' = [some (.ref p), some (.int x), some (.int y), none, none, none, none, none, none, none, none, none, none]) ?_ ?_
    · have d1 : EvB p (tOp (rI0 fun i j => .int (i - j)) (tCall spDraw [] E0 (tCons (tVar 0) (tCons (tOp (rI CPowW fun i j => .int (i ^ j.toNat)) (tC (.int 10)) (tC (.int 20))) tNil))) (tOp (rI CPowW fun i j => .int (i ^ j.toNat)) (tC (.int 10)) (tC (.int 19)))) (L2.start ["bag", "x", "y", "w", "times", "point", "told", "near", "other", "low", "high", "odd", "one"] [.ref p]) (InS (10 ^ 20)) :=
        eb_op (g := fun i j => i - j) (S := fun n => n = 10 ^ 19) (eb_draw (N := 10 ^ 20) rfl (eb_val (n := 10 ^ 20) (fun H => val_op val_c val_c fun Q q => ⟨_, _, rfl, rfl, ⟨by decide, by decide +kernel⟩, q⟩) ⟨by decide, by decide, log_of (by decide)⟩)) (eb_val (n := 10 ^ 19) (fun H => val_op val_c val_c fun Q q => ⟨_, _, rfl, rfl, ⟨by decide, by decide +kernel⟩, q⟩) rfl) (fun m n hm hn => by
          subst hn
          exact ⟨by omega, by omega⟩)
      have d2 : EvB p (tOp (rI0 fun i j => .int (i - j)) (tCall spDraw [] E0 (tCons (tVar 0) (tCons (tC (.int 200)) tNil))) (tC (.int 100))) (L2.start ["bag", "x", "y", "w", "times", "point", "told", "near", "other", "low", "high", "odd", "one"] [.ref p]) (InS (10 ^ 20)) :=
        eb_op (g := fun i j => i - j) (S := fun n => n = 100) (eb_draw (N := 200) rfl (eb_c ⟨by decide, by decide, log_of (by decide)⟩)) (eb_c rfl) (fun m n hm hn => by
          subst hn
          exact ⟨by omega, by omega⟩)
      exact d1 H hb _ fun x H1 rx g1 => d2 H1 g1.bag _ fun y H2 ry g2 => ⟨_, _, rfl, x, y, rx, ry, g1.trans g2, rfl⟩
    rintro σ1 H1 ⟨x, y, ix, iy, g1, rfl⟩
    refine q_cut (M := fun σ' H' => ∃ w t : Int, (1 ≤ w ∧ w ≤ 10 ^ 13) ∧ (2 ≤ t ∧ t ≤ 9) ∧ Bgd p H H' ∧ σ' = [some (.ref p), some (.int x), some (.int y), some (.int w), some (.int t), none, none, none, none, none, none, none, none]) ?_ ?_
    · have d1 : EvB p (tOp (rI0 fun i j => .int (i + j)) (tC (.int 1)) (tCall spDraw [] E0 (tCons (tVar 0) (tCons (tCall spOne [] E0 (tCons (tVar 0) (tCons (tLst (tCons (tC (.int 1)) (tCons (tC (.int 9)) (tCons (tOp (rI CPowW fun i j => .int (i ^ j.toNat)) (tC (.int 10)) (tC (.int 12))) tNil)))) tNil))) tNil)))) [some (.ref p), some (.int x), some (.int y), none, none, none, none, none, none, none, none, none, none] (fun n => 1 ≤ n ∧ n ≤ 10 ^ 13) :=
        eb_op (g := fun i j => i + j) (R := fun n => n = 1) (eb_c rfl) (eb_draw (N := 10 ^ 12) rfl (eb_one (xs := [1, 9, 10 ^ 12]) rfl (fun H1 => va_cons val_c (va_cons val_c (va_cons (val_op val_c val_c fun Q q => ⟨_, _, rfl, rfl, ⟨by decide, by decide +kernel⟩, q⟩) va_nil))) (by decide) (by decide) (fun n hn => by
          simp only [List.mem_cons, List.not_mem_nil, or_false] at hn
          have : 1 ≤ n ∧ n ≤ 10 ^ 12 := by omega
          exact ⟨by omega, this.2, log_of (by omega)⟩))) (fun m n hm hn => by
          subst hm
          exact ⟨by omega, by omega⟩)
      have d2 : EvB p (tOp (rI0 fun i j => .int (i + j)) (tC (.int 2)) (tCall spDraw [] E0 (tCons (tVar 0) (tCons (tC (.int 8)) tNil)))) [some (.ref p), some (.int x), some (.int y), none, none, none, none, none, none, none, none, none, none] (fun n => 2 ≤ n ∧ n ≤ 9) :=
        eb_op (g := fun i j => i + j) (R := fun n => n = 2) (eb_c rfl) (eb_draw (N := 8) rfl (eb_c ⟨by decide, by decide, log_of (by decide)⟩)) (fun m n hm hn => by
          subst hm
          exact ⟨by omega, by omega⟩)
      exact d1 H1 g1.bag _ fun w H2 rw' g2 => d2 H2 g2.bag _ fun t H3 rt g3 => ⟨_, _, rfl, w, t, rw', rt, (g1.trans g2).trans g3, rfl⟩
    rintro σ2 H2 ⟨w, t, iw, it, g2, rfl⟩
    have bx := bI ix
    have by_ := bI iy
    have bw : Bd 100 w := bd_of (by omega)
    have bt : Bd 4 t := ⟨Nat.lt_of_le_of_lt (show _ ≤ 9 by omega) (by decide)⟩
    have w0 : 0 < w := by omega
    have pP : Pt (low x y w) := low_pt w0
    have bP : B3 1000 (low x y w) := by
      have z := B3.low bx by_ bw
      exact ⟨z.x.le (by decide), z.y.le (by decide), z.w.le (by decide)⟩
    generalize hLow : low x y w = L at pP bP
    refine q_cut (M := fun σ' H' => ∃ l : Addr, PtA H' l L ∧ Ex H2 H' ∧ σ' = [some (.ref p), some (.int x), some (.int y), some (.int w), some (.int t), some (.ref l), none, none, none, none, none, none, none]) ?_ ?_
    · exact ⟨_, rfl, _, rfl, _, rfl, x, y, w, rfl, w0, bw.le (by decide), fun l H3 _ e h => ⟨l, ⟨by rw [← hLow]; exact h, pP, bP⟩, e, rfl⟩⟩
    rintro σ3 H3 ⟨l, hl, e3, rfl⟩
    have tw : Bd 104 (w * t) := bw.mul bt
    refine q_cut (M := fun σ' H' => ∃ tl l1 l2 l3 : Addr, H' tl = some (.lst [.ref l1, .ref l2, .ref l3]) ∧ PtA H' l1 L ∧ PtA H' l2 L ∧ PtA H' l3 L ∧ Ex H3 H' ∧ σ' = [some (.ref p), some (.int x), some (.int y), some (.int w), some (.int t), some (.ref l), some (.ref tl), none, none, none, none, none, none]) ?_ ?_
    · have p1 := ept_ptof (E := E0) (σ := [some (.ref p), some (.int x), some (.int y), some (.int w), some (.int t), some (.ref l), none, none, none, none, none, none, none]) (H := H3) (ev_var (i := 1) rfl) (ev_var (i := 2) rfl) (ev_var (i := 3) rfl) (by omega) (bw.le (by decide)) ((lowS_pos w0).trans hLow) pP bP
      have p2 := ept_ptof (E := E0) (σ := [some (.ref p), some (.int x), some (.int y), some (.int w), some (.int t), some (.ref l), none, none, none, none, none, none, none]) (H := H3) (ev_op (ev_c (v := .int 0)) (ev_var (i := 1) rfl) (rv_I0 (g := fun i j => .int (i - j)))) (ev_op (ev_c (v := .int 0)) (ev_var (i := 2) rfl) (rv_I0 (g := fun i j => .int (i - j)))) (ev_op (ev_c (v := .int 0)) (ev_var (i := 3) rfl) (rv_I0 (g := fun i j => .int (i - j)))) (by omega) (by rw [Int.zero_sub]; exact (bw.neg).le (by decide)) ((lowS_neg w0).trans hLow) pP bP
      have p3 := ept_ptof (E := E0) (σ := [some (.ref p), some (.int x), some (.int y), some (.int w), some (.int t), some (.ref l), none, none, none, none, none, none, none]) (H := H3) (EI.mul (ei_var (i := 1) rfl bx) (ei_var (i := 4) rfl bt)).v (EI.mul (ei_var (i := 2) rfl by_) (ei_var (i := 4) rfl bt)).v (EI.mul (ei_var (i := 3) rfl bw) (ei_var (i := 4) rfl bt)).v (Int.mul_ne_zero (by omega) (by omega)) (tw.le (by decide)) ((lowS_scale w0 (by omega)).trans hLow) pP bP
      exact p1 H3 (Ex.refl _) _ fun l1 G1 f1 x1 => p2 G1 f1 _ fun l2 G2 f2 x2 => p3 G2 (f1.trans f2) _ fun l3 G3 f3 x3 => ⟨(by show 3 ≤ sizeLine; decide), fun a ha => ⟨a, l1, l2, l3, upd_same, pt_mono ((f2.trans f3).trans (Ex.new ha)) x1, pt_mono (f3.trans (Ex.new ha)) x2, pt_mono (Ex.new ha) x3, (((f1.trans f2).trans f3).trans (Ex.new ha)), rfl⟩⟩
    rintro σ4 H4 ⟨tl, l1, l2, l3, htl, x1, x2, x3, e4, rfl⟩
    have hl4 := pt_mono e4 hl
    refine q_cut (M := fun σ' H' => Ex H4 H' ∧ σ' = [some (.ref p), some (.int x), some (.int y), some (.int w), some (.int t), some (.ref l), some (.ref tl), none, none, none, none, none, none]) ?_ ?_
    · have gc1 : gc x y 1 = 1 := by
        unfold gc
        simp
      have b1 : B3 1000 ⟨x, y, 1⟩ := ⟨bx.le (by decide), by_.le (by decide), (⟨by decide⟩ : Bd 1 (1 : Int)).le (by decide)⟩
      refine s_when (et_or (et_test (ev_neL3 (i := 6) (j := 5) rfl rfl htl x1 x2 x3 hl4)) fun _ => et_or (et_test (ev_neU (ept_ptof2 (ev_var (i := 1) rfl) (ev_var (i := 2) rfl) (low_one x y) ⟨(by show (1 : Int) ≤ 1; decide), gc1⟩ b1) (eu_tup (ea_cons (ev_var rfl) (ea_cons (ev_var rfl) (ea_cons ev_c ea_nil))) (by show 3 ≤ 100000; decide)))) fun _ => et_test (ev_notB (d := false) (ev_ispt (ev_var (i := 5) rfl) (Pv.pt hl4.h hl4.pt)) rfl)) (fun z => nomatch z) fun _ H5 e5 => ⟨e5, rfl⟩
    rintro σ5 H5 ⟨e5, rfl⟩
    have e35 := e4.trans e5
    have hl5 := pt_mono e5 hl4
    refine q_cut (M := fun σ' H' => ∃ nl a1 a2 a3 a4 : Addr, H' nl = some (.lst [.ref a1, .ref a2, .ref a3, .ref a4]) ∧ H' a1 = some (.tup (P3.mk (x * t) (y * t) (w * t)).vs) ∧ H' a2 = some (.tup (P3.mk L.x L.y 0).vs) ∧ H' a3 = some (.tup (P3.mk L.x L.y (0 - L.w)).vs) ∧ H' a4 = some (.lst L.vs) ∧ Ex H5 H' ∧
        σ' = [some (.ref p), some (.int x), some (.int y), some (.int w), some (.int t), some (.ref l), some (.ref tl), some (.ref nl), none, none, none, none, none]) ?_ ?_
    · have i0 : ∀ {G : Hp}, Ex H5 G → Ev (tOp (rIxT K) (tVar 5) (tC (.int 0))) [some (.ref p), some (.int x), some (.int y), some (.int w), some (.int t), some (.ref l), some (.ref tl), none, none, none, none, none, none] G (.int L.x) := fun e => ev_ixT (ev_var rfl) (e _ _ hl5.h) rfl
      have i1 : ∀ {G : Hp}, Ex H5 G → Ev (tOp (rIxT K) (tVar 5) (tC (.int 1))) [some (.ref p), some (.int x), some (.int y), some (.int w), some (.int t), some (.ref l), some (.ref tl), none, none, none, none, none, none] G (.int L.y) := fun e => ev_ixT (ev_var rfl) (e _ _ hl5.h) rfl
      have i2 : ∀ {G : Hp}, Ex H5 G → Ev (tOp (rIxT K) (tVar 5) (tC (.int 2))) [some (.ref p), some (.int x), some (.int y), some (.int w), some (.int t), some (.ref l), some (.ref tl), none, none, none, none, none, none] G (.int L.w) := fun e => ev_ixT (ev_var rfl) (e _ _ hl5.h) rfl
      have u1 := eu_tup (σ := [some (.ref p), some (.int x), some (.int y), some (.int w), some (.int t), some (.ref l), some (.ref tl), none, none, none, none, none, none]) (H := H5) (ea_cons (EI.mul (ei_var (i := 1) rfl bx) (ei_var (i := 4) rfl bt)).v (ea_cons (EI.mul (ei_var (i := 2) rfl by_) (ei_var (i := 4) rfl bt)).v (ea_cons (EI.mul (ei_var (i := 3) rfl bw) (ei_var (i := 4) rfl bt)).v ea_nil))) (by show 3 ≤ 100000; decide)
      have u2 := eu_tup (ea_cons (i0 (Ex.refl _)) (ea_cons (i1 (Ex.refl _)) (ea_cons (ev_c (v := .int 0)) ea_nil))) (by show 3 ≤ 100000; decide)
      have u3 := eu_tup (ea_cons (i0 (Ex.refl _)) (ea_cons (i1 (Ex.refl _)) (ea_cons (ev_op (ev_c (v := .int 0)) (i2 (Ex.refl _)) (rv_I0 (g := fun i j => .int (i - j)))) ea_nil))) (by show 3 ≤ 100000; decide)
      exact st_near u1 u2 u3 (i := 5) rfl hl5.h fun nl a1 a2 a3 a4 G e hn z1 z2 z3 z4 => ⟨nl, a1, a2, a3, a4, hn, z1, z2, z3, z4, e, rfl⟩
    rintro σ6 H6 ⟨nl, a1, a2, a3, a4, hnl, q1, q2, q3, q4, e6, rfl⟩
    have hl6 := pt_mono e6 hl5
    refine q_cut (M := fun σ' H' => ∃ (n2 : Addr) (zs : List V), H' n2 = some (.lst (.ref a1 :: zs)) ∧ zs.length = 9 ∧ (∀ v ∈ V.ref a1 :: zs, Pv H' v false) ∧ Ex H6 H' ∧
        σ' = [some (.ref p), some (.int x), some (.int y), some (.int w), some (.int t), some (.ref l), some (.ref tl), some (.ref n2), none, none, none, none, none]) ?_ ?_
    · have i0 := ev_ixT (K := K) (σ := [some (.ref p), some (.int x), some (.int y), some (.int w), some (.int t), some (.ref l), some (.ref tl), some (.ref nl), none, none, none, none, none]) (ev_var (i := 5) rfl) hl6.h (k := 0) rfl
      have i1 := ev_ixT (K := K) (σ := [some (.ref p), some (.int x), some (.int y), some (.int w), some (.int t), some (.ref l), some (.ref tl), some (.ref nl), none, none, none, none, none]) (ev_var (i := 5) rfl) hl6.h (k := 1) rfl
      have u3 := eu_tup (ea_cons (ev_c (v := .non)) (ea_cons i1 (ea_cons (ev_c (v := .int 1)) ea_nil))) (by show 3 ≤ 100000; decide)
      have u4 := eu_tup (ea_cons (ev_c (v := .bl true)) (ea_cons i1 (ea_cons (ev_c (v := .int 1)) ea_nil))) (by show 3 ≤ 100000; decide)
      have u5 := eu_tup (ea_cons i0 (ea_cons i1 (ea_cons (ev_c (v := .bl true)) ea_nil))) (by show 3 ≤ 100000; decide)
      refine st_near2 (j := 7) rfl hnl (by show 4 ≤ 100; decide) (eu_slice (i := 5) rfl hl6.h) (eu_cat1 (i := 5) rfl hl6.h) u3 u4 u5 fun m b1 b2 b3 b4 b5 G e hm z1 z2 z3 z4 z5 => ⟨m, [.ref a2, .ref a3, .ref a4, .ref b1, .ref b2, .ref b3, .ref b4, .ref b5, .non], hm, rfl, fun v hv => ?_, e, rfl⟩
      have n1 : Pv G (.ref a1) false := by
        have z := Pv.int3 (e _ _ q1)
        have c : decide (gc (x * t) (y * t) (w * t) = 1) = false := decide_eq_false (not_least w0 it.1)
        rw [c, Bool.and_false] at z
        exact z
      have n2 : Pv G (.ref a2) false := Pv.int3 (e _ _ q2)
      have n3 : Pv G (.ref a3) false := by
        have z := Pv.int3 (e _ _ q3)
        have c : decide ((1 : Int) ≤ 0 - L.w) = false := decide_eq_false (by have := pP.w; omega)
        rw [c, Bool.false_and] at z
        exact z
      rcases List.mem_cons.mp hv with rfl | hv
      · exact n1
      simp only [List.mem_cons, List.not_mem_nil, or_false, List.cons_append, List.nil_append] at hv
      rcases hv with rfl | rfl | rfl | rfl | rfl | rfl | rfl | rfl | rfl
      · exact n2
      · exact n3
      · exact .lst (e _ _ q4)
      · exact .tup z1 (by show ¬ 2 = 3; decide)
      · exact .tup z2 (by show ¬ 4 = 3; decide)
      · exact .odd3 z3 .non (.int _) (.int _) rfl
      · exact .odd3 z4 (.bl _) (.int _) (.int _) rfl
      · exact .odd3 z5 (.int _) (.int _) (.bl _) rfl
      · exact .non
    rintro σ7 H7 ⟨n2, zs, hn2, hzs, hpv, e7, rfl⟩
    refine q_cut (M := fun σ' H' => Ex H7 H' ∧ σ' = [some (.ref p), some (.int x), some (.int y), some (.int w), some (.int t), some (.ref l), some (.ref tl), some (.ref n2), none, none, none, none, none]) ?_ ?_
    · refine s_when (et_test (ev_ne0 (el_none (ev_var rfl) (SqL.of hn2) (by rw [List.length_cons, hzs]; decide) (fun _ => rfl) fun i v G e hv => et_test (ev_notB (d := false) (ev_ispt (ev_var rfl) ((hpv v (List.mem_of_getElem? hv)).mono e)) rfl)) (el_lst ea_nil (by show 0 ≤ 100000; decide)))) (fun z => nomatch z) fun _ H8 e8 => ⟨e8, rfl⟩
    rintro σ8 H8 ⟨e8, rfl⟩
    have e38 := ((e5.trans e6).trans e7).trans e8
    have hl8 := pt_mono e38 hl4
    have pO : Pt (low (x + 1) y w) := low_pt w0
    have bO : B3 1000 (low (x + 1) y w) := by
      have z := B3.low (bx.add (⟨by decide⟩ : Bd 100 (1 : Int))) (by_.le (by decide : 100 ≤ 101)) (bw.le (by decide : 100 ≤ 101))
      exact ⟨z.x.le (by decide), z.y.le (by decide), z.w.le (by decide)⟩
    have hne : L ≠ low (x + 1) y w := by
      rw [← hLow]
      exact low_ne w0
    generalize hO : low (x + 1) y w = O at pO bO hne
    refine q_cut (M := fun σ' H' => ∃ o : Addr, PtA H' o O ∧ Ex H8 H' ∧ σ' = [some (.ref p), some (.int x), some (.int y), some (.int w), some (.int t), some (.ref l), some (.ref tl), some (.ref n2), some (.ref o), none, none, none, none]) ?_ ?_
    · exact ⟨_, rfl, _, _, rfl, rfl, _, rfl, _, rfl, x + 1, y, w, rfl, w0, bw.le (by decide), fun o H9 _ e h => ⟨o, ⟨by rw [← hO]; exact h, pO, bO⟩, e, rfl⟩⟩
    rintro σ9 H9 ⟨o, ho, e9, rfl⟩
    have hl9 := pt_mono e9 hl8
    refine q_cut (M := fun σ' H' => H' = H9 ∧ ∃ (lo hi : Addr) (A B : P3), PtA H9 lo A ∧ PtA H9 hi B ∧ HT.lexLt (ns A) (ns B) = true ∧ HT.lexLt (ns B) (ns A) = false ∧ σ' = [some (.ref p), some (.int x), some (.int y), some (.int w), some (.int t), some (.ref l), some (.ref tl), some (.ref n2), some (.ref o), some (.ref lo), some (.ref hi), none, none]) ?_ ?_
    · refine ⟨_, rfl, _, rfl, l, o, L, O, rfl, hl9.h, ho.h, _, rfl, _, rfl, l, o, L, O, rfl, hl9.h, ho.h, _, _, rfl, rfl, ?_⟩
      rcases lex_tri hne with ⟨c1, c2⟩ | ⟨c1, c2⟩
      · rw [c1, c2]
        exact ⟨l, o, L, O, hl9, ho, c1, c2, rfl⟩
      · rw [c1, c2]
        exact ⟨o, l, O, L, ho, hl9, c2, c1, rfl⟩
    rintro σ10 H10 ⟨rfl, lo, hi, A', B', hA, hB, c1, c2, rfl⟩
    have hn10 : H10 n2 = some (.lst (.ref a1 :: zs)) := e9 _ _ (e8 _ _ hn2)
    have q10 : H10 a1 = some (.tup (P3.mk (x * t) (y * t) (w * t)).vs) := e9 _ _ (e8 _ _ (e7 _ _ q1))
    refine q_cut (M := fun σ' H' => ∃ (m : Addr) (os : List V), H' m = some (.lst os) ∧ os.length = 7 ∧ (∀ v ∈ os, Ps H' v false) ∧ Ex H10 H' ∧
        σ' = [some (.ref p), some (.int x), some (.int y), some (.int w), some (.int t), some (.ref l), some (.ref tl), some (.ref n2), some (.ref o), some (.ref lo), some (.ref hi), some (.ref m), none]) ?_ ?_
    · have vl : Ev (tVar 9) [some (.ref p), some (.int x), some (.int y), some (.int w), some (.int t), some (.ref l), some (.ref tl), some (.ref n2), some (.ref o), some (.ref lo), some (.ref hi), none, none] H10 (.ref lo) := ev_var rfl
      have vh : Ev (tVar 10) [some (.ref p), some (.int x), some (.int y), some (.int w), some (.int t), some (.ref l), some (.ref tl), some (.ref n2), some (.ref o), some (.ref lo), some (.ref hi), none, none] H10 (.ref hi) := ev_var rfl
      have vn := ev_ixL (K := K) (σ := [some (.ref p), some (.int x), some (.int y), some (.int w), some (.int t), some (.ref l), some (.ref tl), some (.ref n2), some (.ref o), some (.ref lo), some (.ref hi), none, none]) (ev_var (i := 7) rfl) hn10 (k := 0) (v := .ref a1) (by show atI (V.ref a1 :: zs) ((0 : Nat) : Int) = _; rw [atI_nat]; rfl)
      refine st_odd (eu_tup (ea_cons vh (ea_cons vl ea_nil)) (by show 2 ≤ 100000; decide)) (eu_tup (ea_cons vl (ea_cons vl ea_nil)) (by show 2 ≤ 100000; decide)) (el_lst (ea_cons vl (ea_cons vh ea_nil)) (by show 2 ≤ 100000; decide)) (eu_tup (ea_cons vl (ea_cons vn ea_nil)) (by show 2 ≤ 100000; decide)) (eu_tup (ea_cons vl ea_nil) (by show 1 ≤ 100000; decide)) (eu_tup (ea_cons vl (ea_cons vh (ea_cons vh ea_nil))) (by show 3 ≤ 100000; decide))
        fun m b1 b2 b3 b4 b5 b6 G e hm z1 z2 z3 z4 z5 z6 => ⟨m, [.ref b1, .ref b2, .ref b3, .ref b4, .ref b5, .ref b6, .non], hm, rfl, fun v hv => ?_, e, rfl⟩
      simp only [List.mem_cons, List.not_mem_nil, or_false] at hv
      rcases hv with rfl | rfl | rfl | rfl | rfl | rfl | rfl
      · have z := Ps.pair z1 (pt_mono e hB).h (pt_mono e hA).h
        rw [c2, Bool.and_false, Bool.and_false] at z
        exact z
      · have z := Ps.pair z2 (pt_mono e hA).h (pt_mono e hA).h
        rw [lex_irr, Bool.and_false, Bool.and_false] at z
        exact z
      · exact .lst z3
      · have z := Ps.pair z4 (pt_mono e hA).h (e _ _ q10)
        have c : isPt (P3.mk (x * t) (y * t) (w * t)) = false := by
          unfold isPt
          rw [decide_eq_false (not_least w0 it.1), Bool.and_false]
        rw [c, Bool.false_and, Bool.and_false] at z
        exact z
      · exact .tup z5 (by show ¬ 1 = 2; decide)
      · exact .tup z6 (by show ¬ 3 = 2; decide)
      · exact .non
    rintro σ11 H11 ⟨m, os, hm, hos, hps, e11, rfl⟩
    have hA11 := pt_mono e11 hA
    have hB11 := pt_mono e11 hB
    refine s_ret (ev_andV (ev_isB (d := true) (ev_sideU (eu_tup (ea_cons (ev_var rfl) (ea_cons (ev_var rfl) ea_nil)) (by show 2 ≤ 100000; decide)) hA11 hB11 c1) rfl) fun _ => ev_eq0L (el_none (ev_var rfl) (SqL.of hm) (by rw [hos]; decide) (fun _ => rfl) fun i v G e hv => et_test (ev_notB (d := false) (ev_side (ev_var rfl) ((hps v (List.mem_of_getElem? hv)).mono e)) rfl)) (el_lst ea_nil (by show 0 ≤ 100000; decide))) fun H12 e12 => ?_
    exact k H12 (g2.trans (bag_ex ((((((e3.trans e4).trans e38).trans e9).trans e11)).trans e12) g2.bag))
end
end Q
set_option Elab.async false
set_option linter.all false
set_option maxRecDepth 100000
set_option maxHeartbeats 8000000
namespace Q
open PySem L2 PySem.Spec PyProof.Rows PySem.Calls
theorem me_of {K : PySem.W.Frag} {C : Addr} (h : PySem.W.subIn K (.ref C) (.type "BaseException") = some true) (t : PySem.W.typeIn K (.ref C) = some (.type "type")) (m : PySem.W.subIn K (.ref C) (.ref C) = some true) : PySem.W.exmOne K (.ref C) (.ref C) = some true := by
  have hc : (PySem.W.clsIn K C).isSome = true := by
    have z : PySem.W.mroIn K C (.type "BaseException") = some true := h
    unfold PySem.W.mroIn at z
    cases q : PySem.W.clsIn K C with
    | none =>
      rw [q] at z
      cases z
    | some _ => rfl
  show (if (PySem.W.subIn K (.ref C) (.type "BaseException") == some true) = true then (if ((PySem.W.clsIn K C).isSome && PySem.W.typeIn K (.ref C) == some (.type "type")) = true then PySem.W.subIn K (.ref C) (.ref C) else none) else none) = _
  rw [h, if_pos (by rfl), hc, t, if_pos (by simp), m]
theorem all_mk {l : PySem.W.OpenLaw} {w : World} {K : PySem.W.Frag} {h : Heap} {mg : Str → Option Value} {fa : Addr} (XX : K.In h) (GG : h.Ns mainGlobals mg) (hfa : mg "law" = some (.ref fa))
    {cE : Addr} {g7 : Addr} {oc7 kV7 dc7 pm7 cd7 ct7 : Value} {od7 an7 : Option Addr} {sl7 : Array (Option Value)} {g8 : Addr} {oc8 kV8 dc8 pm8 cd8 ct8 : Value} {od8 an8 : Option Addr} {sl8 : Array (Option Value)} {g9 : Addr} {oc9 kV9 dc9 pm9 cd9 ct9 : Value} {od9 an9 : Option Addr} {sl9 : Array (Option Value)} {g10 : Addr} {oc10 kV10 dc10 pm10 cd10 ct10 : Value} {od10 an10 : Option Addr} {sl10 : Array (Option Value)} {g11 : Addr} {oc11 kV11 dc11 pm11 cd11 ct11 : Value} {od11 an11 : Option Addr} {sl11 : Array (Option Value)} {g12 : Addr} {oc12 kV12 dc12 pm12 cd12 ct12 : Value} {od12 an12 : Option Addr} {sl12 : Array (Option Value)} {g13 : Addr} {oc13 kV13 dc13 pm13 cd13 ct13 : Value} {od13 an13 : Option Addr} {sl13 : Array (Option Value)} {g14 : Addr} {oc14 kV14 dc14 pm14 cd14 ct14 : Value} {od14 an14 : Option Addr} {sl14 : Array (Option Value)} {g15 : Addr} {oc15 kV15 dc15 pm15 cd15 ct15 : Value} {od15 an15 : Option Addr} {sl15 : Array (Option Value)} {g16 : Addr} {oc16 kV16 dc16 pm16 cd16 ct16 : Value} {od16 an16 : Option Addr} {sl16 : Array (Option Value)} {g18 : Addr} {oc18 kV18 dc18 pm18 cd18 ct18 : Value} {od18 an18 : Option Addr} {sl18 : Array (Option Value)} {g19 : Addr} {oc19 kV19 dc19 pm19 cd19 ct19 : Value} {od19 an19 : Option Addr} {sl19 : Array (Option Value)} {g20 : Addr} {oc20 kV20 dc20 pm20 cd20 ct20 : Value} {od20 an20 : Option Addr} {sl20 : Array (Option Value)} {g22 : Addr} {oc22 kV22 dc22 pm22 cd22 ct22 : Value} {od22 an22 : Option Addr} {sl22 : Array (Option Value)} {g23 : Addr} {oc23 kV23 dc23 pm23 cd23 ct23 : Value} {od23 an23 : Option Addr} {sl23 : Array (Option Value)} {g24 : Addr} {oc24 kV24 dc24 pm24 cd24 ct24 : Value} {od24 an24 : Option Addr} {sl24 : Array (Option Value)} {g25 : Addr} {oc25 kV25 dc25 pm25 cd25 ct25 : Value} {od25 an25 : Option Addr} {sl25 : Array (Option Value)} {gT : Addr} {ocT : Value} {odT : Option Addr} {nT : Nat} {slT : Array (Option Value)} {tkT : Tok} {g26 : Addr} {oc26 kV26 dc26 pm26 cd26 ct26 : Value} {od26 an26 : Option Addr} {sl26 : Array (Option Value)} {g27 : Addr} {oc27 kV27 dc27 pm27 cd27 ct27 : Value} {od27 an27 : Option Addr} {sl27 : Array (Option Value)} {g28 : Addr} {oc28 kV28 dc28 pm28 cd28 ct28 : Value} {od28 an28 : Option Addr} {sl28 : Array (Option Value)} {g29 : Addr} {oc29 kV29 dc29 pm29 cd29 ct29 : Value} {od29 an29 : Option Addr} {sl29 : Array (Option Value)} {g30 : Addr} {oc30 kV30 dc30 pm30 cd30 ct30 : Value} {od30 an30 : Option Addr} {sl30 : Array (Option Value)} {g31 : Addr} {oc31 kV31 dc31 pm31 cd31 ct31 : Value} {od31 an31 : Option Addr} {sl31 : Array (Option Value)} {g33 : Addr} {oc33 kV33 dc33 pm33 cd33 ct33 : Value} {od33 an33 : Option Addr} {sl33 : Array (Option Value)} {g34 : Addr} {oc34 kV34 dc34 pm34 cd34 ct34 : Value} {od34 an34 : Option Addr} {sl34 : Array (Option Value)} {g35 : Addr} {oc35 kV35 dc35 pm35 cd35 ct35 : Value} {od35 an35 : Option Addr} {sl35 : Array (Option Value)} {g36 : Addr} {oc36 kV36 dc36 pm36 cd36 ct36 : Value} {od36 an36 : Option Addr} {sl36 : Array (Option Value)} {g37 : Addr} {oc37 kV37 dc37 pm37 cd37 ct37 : Value} {od37 an37 : Option Addr} {sl37 : Array (Option Value)} {g38 : Addr} {oc38 kV38 dc38 pm38 cd38 ct38 : Value} {od38 an38 : Option Addr} {sl38 : Array (Option Value)} {g39 : Addr} {oc39 kV39 dc39 pm39 cd39 ct39 : Value} {od39 an39 : Option Addr} {sl39 : Array (Option Value)} {g40 : Addr} {oc40 kV40 dc40 pm40 cd40 ct40 : Value} {od40 an40 : Option Addr} {sl40 : Array (Option Value)} {g41 : Addr} {oc41 kV41 dc41 pm41 cd41 ct41 : Value} {od41 an41 : Option Addr} {sl41 : Array (Option Value)} {g42 : Addr} {oc42 kV42 dc42 pm42 cd42 ct42 : Value} {od42 an42 : Option Addr} {sl42 : Array (Option Value)} {g43 : Addr} {oc43 kV43 dc43 pm43 cd43 ct43 : Value} {od43 an43 : Option Addr} {sl43 : Array (Option Value)} {g44 : Addr} {oc44 kV44 dc44 pm44 cd44 ct44 : Value} {od44 an44 : Option Addr} {sl44 : Array (Option Value)} {g45 : Addr} {oc45 kV45 dc45 pm45 cd45 ct45 : Value} {od45 an45 : Option Addr} {sl45 : Array (Option Value)} {g46 : Addr} {oc46 kV46 dc46 pm46 cd46 ct46 : Value} {od46 an46 : Option Addr} {sl46 : Array (Option Value)} {g47 : Addr} {oc47 kV47 dc47 pm47 cd47 ct47 : Value} {od47 an47 : Option Addr} {sl47 : Array (Option Value)} {g48 : Addr} {oc48 kV48 dc48 pm48 cd48 ct48 : Value} {od48 an48 : Option Addr} {sl48 : Array (Option Value)}
    (A0 : PySem.W.nsIn K mainGlobals "InvalidOperation" = some (some (.ref cE)))
    (T0 : PySem.W.typeIn K (.ref cE) = some (.type "type"))
    (K0 : PySem.W.keepIn K (.ref cE) = true)
    (S0 : PySem.W.subIn K (.ref cE) (.type "BaseException") = some true)
    (M0 : PySem.W.subIn K (.ref cE) (.ref cE) = some true)
    (P0 : PySem.W.excIn K cE [.type "ValueError", .type "Exception", .type "BaseException", .type "object"] "ValueError.__new__" = true)
    (gc0 : PySem.W.nsIn K mainGlobals "gcd" = some (some (.builtin "math.gcd")))
    (a7 : PySem.W.nsIn K mainGlobals "lowest_point" = some (some (.ref g7)))
    (l7 : K.lookup g7 = some ⟨oc7, od7, .func (PySem.W.fnOf "lowest_point" "lowest_point" (defArgs sLow) (defBody sLow) (defScope sLow) .none kV7 dc7 pm7 an7 cd7 ct7), sl7⟩)
    (c7d : PySem.W.codeIn K cd7 "lowest_point" = true)
    (k7 : PySem.W.keepIn K (.ref g7) = true)
    (a8 : PySem.W.nsIn K mainGlobals "crossed" = some (some (.ref g8)))
    (l8 : K.lookup g8 = some ⟨oc8, od8, .func (PySem.W.fnOf "crossed" "crossed" (defArgs sCrd) (defBody sCrd) (defScope sCrd) .none kV8 dc8 pm8 an8 cd8 ct8), sl8⟩)
    (c8d : PySem.W.codeIn K cd8 "crossed" = true)
    (k8 : PySem.W.keepIn K (.ref g8) = true)
    (a9 : PySem.W.nsIn K mainGlobals "line_through" = some (some (.ref g9)))
    (l9 : K.lookup g9 = some ⟨oc9, od9, .func (PySem.W.fnOf "line_through" "line_through" (defArgs sLine) (defBody sLine) (defScope sLine) .none kV9 dc9 pm9 an9 cd9 ct9), sl9⟩)
    (c9d : PySem.W.codeIn K cd9 "line_through" = true)
    (k9 : PySem.W.keepIn K (.ref g9) = true)
    (a10 : PySem.W.nsIn K mainGlobals "value_at" = some (some (.ref g10)))
    (l10 : K.lookup g10 = some ⟨oc10, od10, .func (PySem.W.fnOf "value_at" "value_at" (defArgs sVal) (defBody sVal) (defScope sVal) .none kV10 dc10 pm10 an10 cd10 ct10), sl10⟩)
    (c10d : PySem.W.codeIn K cd10 "value_at" = true)
    (k10 : PySem.W.keepIn K (.ref g10) = true)
    (a11 : PySem.W.nsIn K mainGlobals "cross_point" = some (some (.ref g11)))
    (l11 : K.lookup g11 = some ⟨oc11, od11, .func (PySem.W.fnOf "cross_point" "cross_point" (defArgs sCross) (defBody sCross) (defScope sCross) .none kV11 dc11 pm11 an11 cd11 ct11), sl11⟩)
    (c11d : PySem.W.codeIn K cd11 "cross_point" = true)
    (k11 : PySem.W.keepIn K (.ref g11) = true)
    (a12 : PySem.W.nsIn K mainGlobals "sign_of" = some (some (.ref g12)))
    (l12 : K.lookup g12 = some ⟨oc12, od12, .func (PySem.W.fnOf "sign_of" "sign_of" (defArgs sSign) (defBody sSign) (defScope sSign) .none kV12 dc12 pm12 an12 cd12 ct12), sl12⟩)
    (c12d : PySem.W.codeIn K cd12 "sign_of" = true)
    (k12 : PySem.W.keepIn K (.ref g12) = true)
    (a13 : PySem.W.nsIn K mainGlobals "turn" = some (some (.ref g13)))
    (l13 : K.lookup g13 = some ⟨oc13, od13, .func (PySem.W.fnOf "turn" "turn" (defArgs sTurn) (defBody sTurn) (defScope sTurn) .none kV13 dc13 pm13 an13 cd13 ct13), sl13⟩)
    (c13d : PySem.W.codeIn K cd13 "turn" = true)
    (k13 : PySem.W.keepIn K (.ref g13) = true)
    (a14 : PySem.W.nsIn K mainGlobals "way" = some (some (.ref g14)))
    (l14 : K.lookup g14 = some ⟨oc14, od14, .func (PySem.W.fnOf "way" "way" (defArgs sWay) (defBody sWay) (defScope sWay) .none kV14 dc14 pm14 an14 cd14 ct14), sl14⟩)
    (c14d : PySem.W.codeIn K cd14 "way" = true)
    (k14 : PySem.W.keepIn K (.ref g14) = true)
    (a15 : PySem.W.nsIn K mainGlobals "lies_between" = some (some (.ref g15)))
    (l15 : K.lookup g15 = some ⟨oc15, od15, .func (PySem.W.fnOf "lies_between" "lies_between" (defArgs sLies) (defBody sLies) (defScope sLies) .none kV15 dc15 pm15 an15 cd15 ct15), sl15⟩)
    (c15d : PySem.W.codeIn K cd15 "lies_between" = true)
    (k15 : PySem.W.keepIn K (.ref g15) = true)
    (a16 : PySem.W.nsIn K mainGlobals "half_way" = some (some (.ref g16)))
    (l16 : K.lookup g16 = some ⟨oc16, od16, .func (PySem.W.fnOf "half_way" "half_way" (defArgs sHalf) (defBody sHalf) (defScope sHalf) .none kV16 dc16 pm16 an16 cd16 ct16), sl16⟩)
    (c16d : PySem.W.codeIn K cd16 "half_way" = true)
    (k16 : PySem.W.keepIn K (.ref g16) = true)
    (a18 : PySem.W.nsIn K mainGlobals "is_integer" = some (some (.ref g18)))
    (l18 : K.lookup g18 = some ⟨oc18, od18, .func (PySem.W.fnOf "is_integer" "is_integer" (defArgs sIsInt) (defBody sIsInt) (defScope sIsInt) .none kV18 dc18 pm18 an18 cd18 ct18), sl18⟩)
    (c18d : PySem.W.codeIn K cd18 "is_integer" = true)
    (k18 : PySem.W.keepIn K (.ref g18) = true)
    (a19 : PySem.W.nsIn K mainGlobals "lowest_of" = some (some (.ref g19)))
    (l19 : K.lookup g19 = some ⟨oc19, od19, .func (PySem.W.fnOf "lowest_of" "lowest_of" (defArgs sLowOf) (defBody sLowOf) (defScope sLowOf) .none kV19 dc19 pm19 an19 cd19 ct19), sl19⟩)
    (c19d : PySem.W.codeIn K cd19 "lowest_of" = true)
    (k19 : PySem.W.keepIn K (.ref g19) = true)
    (a20 : PySem.W.nsIn K mainGlobals "_lowest" = some (some (.ref g20)))
    (l20 : K.lookup g20 = some ⟨oc20, od20, .func (PySem.W.fnOf "_lowest" "_lowest" (defArgs sLow2) (defBody sLow2) (defScope sLow2) .none kV20 dc20 pm20 an20 cd20 ct20), sl20⟩)
    (c20d : PySem.W.codeIn K cd20 "_lowest" = true)
    (k20 : PySem.W.keepIn K (.ref g20) = true)
    (a22 : PySem.W.nsIn K mainGlobals "is_point" = some (some (.ref g22)))
    (l22 : K.lookup g22 = some ⟨oc22, od22, .func (PySem.W.fnOf "is_point" "is_point" (defArgs sIsPt) (defBody sIsPt) (defScope sIsPt) .none kV22 dc22 pm22 an22 cd22 ct22), sl22⟩)
    (c22d : PySem.W.codeIn K cd22 "is_point" = true)
    (k22 : PySem.W.keepIn K (.ref g22) = true)
    (a23 : PySem.W.nsIn K mainGlobals "is_side" = some (some (.ref g23)))
    (l23 : K.lookup g23 = some ⟨oc23, od23, .func (PySem.W.fnOf "is_side" "is_side" (defArgs sSide) (defBody sSide) (defScope sSide) .none kV23 dc23 pm23 an23 cd23 ct23), sl23⟩)
    (c23d : PySem.W.codeIn K cd23 "is_side" = true)
    (k23 : PySem.W.keepIn K (.ref g23) = true)
    (a24 : PySem.W.nsIn K mainGlobals "check_points" = some (some (.ref g24)))
    (l24 : K.lookup g24 = some ⟨oc24, od24, .func (PySem.W.fnOf "check_points" "check_points" (defArgs sChk) (defBody sChk) (defScope sChk) .none kV24 dc24 pm24 an24 cd24 ct24), sl24⟩)
    (c24d : PySem.W.codeIn K cd24 "check_points" = true)
    (k24 : PySem.W.keepIn K (.ref g24) = true)
    (lT : K.lookup gT = some ⟨ocT, odT, .seq #[.int 1 tkT] nT, slT⟩)
    (a25 : PySem.W.nsIn K mainGlobals "point_of" = some (some (.ref g25)))
    (l25 : K.lookup g25 = some ⟨oc25, od25, .func (PySem.W.fnOf "point_of" "point_of" (defArgs sPtOf) (defBody sPtOf) (defScope sPtOf) (.ref gT) kV25 dc25 pm25 an25 cd25 ct25), sl25⟩)
    (c25d : PySem.W.codeIn K cd25 "point_of" = true)
    (k25 : PySem.W.keepIn K (.ref g25) = true)
    (a26 : PySem.W.nsIn K mainGlobals "turn_of" = some (some (.ref g26)))
    (l26 : K.lookup g26 = some ⟨oc26, od26, .func (PySem.W.fnOf "turn_of" "turn_of" (defArgs sTurnOf) (defBody sTurnOf) (defScope sTurnOf) .none kV26 dc26 pm26 an26 cd26 ct26), sl26⟩)
    (c26d : PySem.W.codeIn K cd26 "turn_of" = true)
    (k26 : PySem.W.keepIn K (.ref g26) = true)
    (a27 : PySem.W.nsIn K mainGlobals "is_between" = some (some (.ref g27)))
    (l27 : K.lookup g27 = some ⟨oc27, od27, .func (PySem.W.fnOf "is_between" "is_between" (defArgs sBetw) (defBody sBetw) (defScope sBetw) .none kV27 dc27 pm27 an27 cd27 ct27), sl27⟩)
    (c27d : PySem.W.codeIn K cd27 "is_between" = true)
    (k27 : PySem.W.keepIn K (.ref g27) = true)
    (a28 : PySem.W.nsIn K mainGlobals "line_meet" = some (some (.ref g28)))
    (l28 : K.lookup g28 = some ⟨oc28, od28, .func (PySem.W.fnOf "line_meet" "line_meet" (defArgs sMeet) (defBody sMeet) (defScope sMeet) .none kV28 dc28 pm28 an28 cd28 ct28), sl28⟩)
    (c28d : PySem.W.codeIn K cd28 "line_meet" = true)
    (k28 : PySem.W.keepIn K (.ref g28) = true)
    (a29 : PySem.W.nsIn K mainGlobals "middle_of" = some (some (.ref g29)))
    (l29 : K.lookup g29 = some ⟨oc29, od29, .func (PySem.W.fnOf "middle_of" "middle_of" (defArgs sMid) (defBody sMid) (defScope sMid) .none kV29 dc29 pm29 an29 cd29 ct29), sl29⟩)
    (c29d : PySem.W.codeIn K cd29 "middle_of" = true)
    (k29 : PySem.W.keepIn K (.ref g29) = true)
    (a30 : PySem.W.nsIn K mainGlobals "square_between" = some (some (.ref g30)))
    (l30 : K.lookup g30 = some ⟨oc30, od30, .func (PySem.W.fnOf "square_between" "square_between" (defArgs sSqB) (defBody sSqB) (defScope sSqB) .none kV30 dc30 pm30 an30 cd30 ct30), sl30⟩)
    (c30d : PySem.W.codeIn K cd30 "square_between" = true)
    (k30 : PySem.W.keepIn K (.ref g30) = true)
    (a31 : PySem.W.nsIn K mainGlobals "_square" = some (some (.ref g31)))
    (l31 : K.lookup g31 = some ⟨oc31, od31, .func (PySem.W.fnOf "_square" "_square" (defArgs sSquare) (defBody sSquare) (defScope sSquare) .none kV31 dc31 pm31 an31 cd31 ct31), sl31⟩)
    (c31d : PySem.W.codeIn K cd31 "_square" = true)
    (k31 : PySem.W.keepIn K (.ref g31) = true)
    (a33 : PySem.W.nsIn K mainGlobals "_law_bag" = some (some (.ref g33)))
    (l33 : K.lookup g33 = some ⟨oc33, od33, .func (PySem.W.fnOf "_law_bag" "_law_bag" (defArgs sBag) (defBody sBag) (defScope sBag) .none kV33 dc33 pm33 an33 cd33 ct33), sl33⟩)
    (c33d : PySem.W.codeIn K cd33 "_law_bag" = true)
    (k33 : PySem.W.keepIn K (.ref g33) = true)
    (a34 : PySem.W.nsIn K mainGlobals "_law_draw" = some (some (.ref g34)))
    (l34 : K.lookup g34 = some ⟨oc34, od34, .func (PySem.W.fnOf "_law_draw" "_law_draw" (defArgs sDraw) (defBody sDraw) (defScope sDraw) .none kV34 dc34 pm34 an34 cd34 ct34), sl34⟩)
    (c34d : PySem.W.codeIn K cd34 "_law_draw" = true)
    (k34 : PySem.W.keepIn K (.ref g34) = true)
    (a35 : PySem.W.nsIn K mainGlobals "_law_one_of" = some (some (.ref g35)))
    (l35 : K.lookup g35 = some ⟨oc35, od35, .func (PySem.W.fnOf "_law_one_of" "_law_one_of" (defArgs sOne) (defBody sOne) (defScope sOne) .none kV35 dc35 pm35 an35 cd35 ct35), sl35⟩)
    (c35d : PySem.W.codeIn K cd35 "_law_one_of" = true)
    (k35 : PySem.W.keepIn K (.ref g35) = true)
    (a36 : PySem.W.nsIn K mainGlobals "_law_shared" = some (some (.ref g36)))
    (l36 : K.lookup g36 = some ⟨oc36, od36, .func (PySem.W.fnOf "_law_shared" "_law_shared" (defArgs sShared) (defBody sShared) (defScope sShared) .none kV36 dc36 pm36 an36 cd36 ct36), sl36⟩)
    (c36d : PySem.W.codeIn K cd36 "_law_shared" = true)
    (k36 : PySem.W.keepIn K (.ref g36) = true)
    (a37 : PySem.W.nsIn K mainGlobals "_law_point" = some (some (.ref g37)))
    (l37 : K.lookup g37 = some ⟨oc37, od37, .func (PySem.W.fnOf "_law_point" "_law_point" (defArgs sPoint) (defBody sPoint) (defScope sPoint) .none kV37 dc37 pm37 an37 cd37 ct37), sl37⟩)
    (c37d : PySem.W.codeIn K cd37 "_law_point" = true)
    (k37 : PySem.W.keepIn K (.ref g37) = true)
    (a38 : PySem.W.nsIn K mainGlobals "_law_frame" = some (some (.ref g38)))
    (l38 : K.lookup g38 = some ⟨oc38, od38, .func (PySem.W.fnOf "_law_frame" "_law_frame" (defArgs sFrame) (defBody sFrame) (defScope sFrame) .none kV38 dc38 pm38 an38 cd38 ct38), sl38⟩)
    (c38d : PySem.W.codeIn K cd38 "_law_frame" = true)
    (k38 : PySem.W.keepIn K (.ref g38) = true)
    (a39 : PySem.W.nsIn K mainGlobals "_law_spot" = some (some (.ref g39)))
    (l39 : K.lookup g39 = some ⟨oc39, od39, .func (PySem.W.fnOf "_law_spot" "_law_spot" (defArgs sSpot) (defBody sSpot) (defScope sSpot) .none kV39 dc39 pm39 an39 cd39 ct39), sl39⟩)
    (c39d : PySem.W.codeIn K cd39 "_law_spot" = true)
    (k39 : PySem.W.keepIn K (.ref g39) = true)
    (a40 : PySem.W.nsIn K mainGlobals "_law_sense" = some (some (.ref g40)))
    (l40 : K.lookup g40 = some ⟨oc40, od40, .func (PySem.W.fnOf "_law_sense" "_law_sense" (defArgs sSense) (defBody sSense) (defScope sSense) .none kV40 dc40 pm40 an40 cd40 ct40), sl40⟩)
    (c40d : PySem.W.codeIn K cd40 "_law_sense" = true)
    (k40 : PySem.W.keepIn K (.ref g40) = true)
    (a41 : PySem.W.nsIn K mainGlobals "_law_sign" = some (some (.ref g41)))
    (l41 : K.lookup g41 = some ⟨oc41, od41, .func (PySem.W.fnOf "_law_sign" "_law_sign" (defArgs sLSign) (defBody sLSign) (defScope sLSign) .none kV41 dc41 pm41 an41 cd41 ct41), sl41⟩)
    (c41d : PySem.W.codeIn K cd41 "_law_sign" = true)
    (k41 : PySem.W.keepIn K (.ref g41) = true)
    (a42 : PySem.W.nsIn K mainGlobals "_law_turns_right" = some (some (.ref g42)))
    (l42 : K.lookup g42 = some ⟨oc42, od42, .func (PySem.W.fnOf "_law_turns_right" "_law_turns_right" (defArgs sTurns) (defBody sTurns) (defScope sTurns) .none kV42 dc42 pm42 an42 cd42 ct42), sl42⟩)
    (c42d : PySem.W.codeIn K cd42 "_law_turns_right" = true)
    (k42 : PySem.W.keepIn K (.ref g42) = true)
    (a43 : PySem.W.nsIn K mainGlobals "_law_between_right" = some (some (.ref g43)))
    (l43 : K.lookup g43 = some ⟨oc43, od43, .func (PySem.W.fnOf "_law_between_right" "_law_between_right" (defArgs sBetwR) (defBody sBetwR) (defScope sBetwR) .none kV43 dc43 pm43 an43 cd43 ct43), sl43⟩)
    (c43d : PySem.W.codeIn K cd43 "_law_between_right" = true)
    (k43 : PySem.W.keepIn K (.ref g43) = true)
    (a44 : PySem.W.nsIn K mainGlobals "_law_squares_right" = some (some (.ref g44)))
    (l44 : K.lookup g44 = some ⟨oc44, od44, .func (PySem.W.fnOf "_law_squares_right" "_law_squares_right" (defArgs sSqR) (defBody sSqR) (defScope sSqR) .none kV44 dc44 pm44 an44 cd44 ct44), sl44⟩)
    (c44d : PySem.W.codeIn K cd44 "_law_squares_right" = true)
    (k44 : PySem.W.keepIn K (.ref g44) = true)
    (a45 : PySem.W.nsIn K mainGlobals "_law_lines_right" = some (some (.ref g45)))
    (l45 : K.lookup g45 = some ⟨oc45, od45, .func (PySem.W.fnOf "_law_lines_right" "_law_lines_right" (defArgs sLinR) (defBody sLinR) (defScope sLinR) .none kV45 dc45 pm45 an45 cd45 ct45), sl45⟩)
    (c45d : PySem.W.codeIn K cd45 "_law_lines_right" = true)
    (k45 : PySem.W.keepIn K (.ref g45) = true)
    (a46 : PySem.W.nsIn K mainGlobals "_law_is_refused" = some (some (.ref g46)))
    (l46 : K.lookup g46 = some ⟨oc46, od46, .func (PySem.W.fnOf "_law_is_refused" "_law_is_refused" (defArgs sRef) (defBody sRef) (defScope sRef) .none kV46 dc46 pm46 an46 cd46 ct46), sl46⟩)
    (c46d : PySem.W.codeIn K cd46 "_law_is_refused" = true)
    (k46 : PySem.W.keepIn K (.ref g46) = true)
    (a47 : PySem.W.nsIn K mainGlobals "_law_points_right" = some (some (.ref g47)))
    (l47 : K.lookup g47 = some ⟨oc47, od47, .func (PySem.W.fnOf "_law_points_right" "_law_points_right" (defArgs sPtsR) (defBody sPtsR) (defScope sPtsR) .none kV47 dc47 pm47 an47 cd47 ct47), sl47⟩)
    (c47d : PySem.W.codeIn K cd47 "_law_points_right" = true)
    (k47 : PySem.W.keepIn K (.ref g47) = true)
    (a48 : PySem.W.nsIn K mainGlobals "law" = some (some (.ref g48)))
    (l48 : K.lookup g48 = some ⟨oc48, od48, .func (PySem.W.fnOf "law" "law" (defArgs sLaw) (defBody sLaw) (defScope sLaw) .none kV48 dc48 pm48 an48 cd48 ct48), sl48⟩)
    (c48d : PySem.W.codeIn K cd48 "law" = true)
    (k48 : PySem.W.keepIn K (.ref g48) = true)
    (z_isinstance : PySem.W.nsIn K mainGlobals "isinstance" = some none)
    (z_len : PySem.W.nsIn K mainGlobals "len" = some none)
    (z_sum : PySem.W.nsIn K mainGlobals "sum" = some none)
    (z_int : PySem.W.nsIn K mainGlobals "int" = some none)
    (z_abs : PySem.W.nsIn K mainGlobals "abs" = some none)
    (z_max : PySem.W.nsIn K mainGlobals "max" = some none)
    (z_min : PySem.W.nsIn K mainGlobals "min" = some none)
    (z_range : PySem.W.nsIn K mainGlobals "range" = some none)
    (z_list : PySem.W.nsIn K mainGlobals "list" = some none)
    (z_tuple : PySem.W.nsIn K mainGlobals "tuple" = some none)
    (z_bool : PySem.W.nsIn K mainGlobals "bool" = some none)
    (z_repr : PySem.W.nsIn K mainGlobals "repr" = some none)
    : ∃ fd : FuncData, (∀ (s : Shared) (v : Value), BindsTo s fd ⟨[v], []⟩ [("script", v)]) ∧ ∀ base : Heap, K.In base → base.Ns mainGlobals mg → FnOk l.prog w K mg base CX0 7 fa fd ["script"] (spLaw K) := by
  have e := hfa.symm.trans (PySem.W.mg_of XX GG a48)
  cases e
  have mgn : ∀ {x : Str}, PySem.W.nsIn K mainGlobals x = some none → mg x = none := fun e => PySem.W.mg_none_of XX GG e
  have TB1 : TB mg := ⟨mgn z_len, mgn z_sum, mgn z_int, mgn z_abs, mgn z_max, mgn z_range, mgn z_list⟩
  have T1 : TL mg := ⟨TB1, mgn z_min, mgn z_tuple, mgn z_repr⟩
  have TI1 : TI mg := ⟨mgn z_isinstance, mgn z_int, mgn z_bool, mgn z_tuple, mgn z_len⟩
  have TM1 : TM mg := ⟨PySem.W.mg_of XX GG gc0⟩
  have IO : IOe K mg cE := ⟨P0, PySem.W.mg_of XX GG A0, K0, S0, T0, me_of S0 T0 M0⟩
  have F7_ := fun_mk (st := sLow) l7 c7d k7
  have g7_ := PySem.W.mg_of XX GG a7
  have b7_ := F7_.binds (ps := ["x", "y", "w"]) fun _ _ _ _ _ _ us hl => match us, hl with | [_, _, _], _ => rfl
  have F8_ := fun_mk (st := sCrd) l8 c8d k8
  have g8_ := PySem.W.mg_of XX GG a8
  have b8_ := F8_.binds (ps := ["one", "two"]) fun _ _ _ _ _ _ us hl => match us, hl with | [_, _], _ => rfl
  have F9_ := fun_mk (st := sLine) l9 c9d k9
  have g9_ := PySem.W.mg_of XX GG a9
  have b9_ := F9_.binds (ps := ["one", "two"]) fun _ _ _ _ _ _ us hl => match us, hl with | [_, _], _ => rfl
  have F10_ := fun_mk (st := sVal) l10 c10d k10
  have g10_ := PySem.W.mg_of XX GG a10
  have b10_ := F10_.binds (ps := ["ruler", "point"]) fun _ _ _ _ _ _ us hl => match us, hl with | [_, _], _ => rfl
  have F11_ := fun_mk (st := sCross) l11 c11d k11
  have g11_ := PySem.W.mg_of XX GG a11
  have b11_ := F11_.binds (ps := ["ruler", "other"]) fun _ _ _ _ _ _ us hl => match us, hl with | [_, _], _ => rfl
  have F12_ := fun_mk (st := sSign) l12 c12d k12
  have g12_ := PySem.W.mg_of XX GG a12
  have b12_ := F12_.binds (ps := ["number"]) fun _ _ _ _ _ _ us hl => match us, hl with | [_], _ => rfl
  have F13_ := fun_mk (st := sTurn) l13 c13d k13
  have g13_ := PySem.W.mg_of XX GG a13
  have b13_ := F13_.binds (ps := ["one", "two", "three"]) fun _ _ _ _ _ _ us hl => match us, hl with | [_, _, _], _ => rfl
  have F14_ := fun_mk (st := sWay) l14 c14d k14
  have g14_ := PySem.W.mg_of XX GG a14
  have b14_ := F14_.binds (ps := ["start", "end"]) fun _ _ _ _ _ _ us hl => match us, hl with | [_, _], _ => rfl
  have F15_ := fun_mk (st := sLies) l15 c15d k15
  have g15_ := PySem.W.mg_of XX GG a15
  have b15_ := F15_.binds (ps := ["point", "one", "two"]) fun _ _ _ _ _ _ us hl => match us, hl with | [_, _, _], _ => rfl
  have F16_ := fun_mk (st := sHalf) l16 c16d k16
  have g16_ := PySem.W.mg_of XX GG a16
  have b16_ := F16_.binds (ps := ["one", "two"]) fun _ _ _ _ _ _ us hl => match us, hl with | [_, _], _ => rfl
  have F18_ := fun_mk (st := sIsInt) l18 c18d k18
  have g18_ := PySem.W.mg_of XX GG a18
  have b18_ := F18_.binds (ps := ["value"]) fun _ _ _ _ _ _ us hl => match us, hl with | [_], _ => rfl
  have F19_ := fun_mk (st := sLowOf) l19 c19d k19
  have g19_ := PySem.W.mg_of XX GG a19
  have b19_ := F19_.binds (ps := ["top", "bottom"]) fun _ _ _ _ _ _ us hl => match us, hl with | [_, _], _ => rfl
  have F20_ := fun_mk (st := sLow2) l20 c20d k20
  have g20_ := PySem.W.mg_of XX GG a20
  have b20_ := F20_.binds (ps := ["top", "bottom"]) fun _ _ _ _ _ _ us hl => match us, hl with | [_, _], _ => rfl
  have F22_ := fun_mk (st := sIsPt) l22 c22d k22
  have g22_ := PySem.W.mg_of XX GG a22
  have b22_ := F22_.binds (ps := ["value"]) fun _ _ _ _ _ _ us hl => match us, hl with | [_], _ => rfl
  have F23_ := fun_mk (st := sSide) l23 c23d k23
  have g23_ := PySem.W.mg_of XX GG a23
  have b23_ := F23_.binds (ps := ["value"]) fun _ _ _ _ _ _ us hl => match us, hl with | [_], _ => rfl
  have F24_ := fun_mk (st := sChk) l24 c24d k24
  have g24_ := PySem.W.mg_of XX GG a24
  have F26_ := fun_mk (st := sTurnOf) l26 c26d k26
  have g26_ := PySem.W.mg_of XX GG a26
  have b26_ := F26_.binds (ps := ["one", "two", "three"]) fun _ _ _ _ _ _ us hl => match us, hl with | [_, _, _], _ => rfl
  have F27_ := fun_mk (st := sBetw) l27 c27d k27
  have g27_ := PySem.W.mg_of XX GG a27
  have b27_ := F27_.binds (ps := ["point", "one", "two"]) fun _ _ _ _ _ _ us hl => match us, hl with | [_, _, _], _ => rfl
  have F28_ := fun_mk (st := sMeet) l28 c28d k28
  have g28_ := PySem.W.mg_of XX GG a28
  have b28_ := F28_.binds (ps := ["one", "two", "three", "four"]) fun _ _ _ _ _ _ us hl => match us, hl with | [_, _, _, _], _ => rfl
  have F29_ := fun_mk (st := sMid) l29 c29d k29
  have g29_ := PySem.W.mg_of XX GG a29
  have b29_ := F29_.binds (ps := ["one", "two"]) fun _ _ _ _ _ _ us hl => match us, hl with | [_, _], _ => rfl
  have F30_ := fun_mk (st := sSqB) l30 c30d k30
  have g30_ := PySem.W.mg_of XX GG a30
  have b30_ := F30_.binds (ps := ["one", "two"]) fun _ _ _ _ _ _ us hl => match us, hl with | [_, _], _ => rfl
  have F31_ := fun_mk (st := sSquare) l31 c31d k31
  have g31_ := PySem.W.mg_of XX GG a31
  have b31_ := F31_.binds (ps := ["one", "two"]) fun _ _ _ _ _ _ us hl => match us, hl with | [_, _], _ => rfl
  have F33_ := fun_mk (st := sBag) l33 c33d k33
  have g33_ := PySem.W.mg_of XX GG a33
  have b33_ := F33_.binds (ps := ["script", "at"]) fun _ _ _ _ _ _ us hl => match us, hl with | [_, _], _ => rfl
  have F34_ := fun_mk (st := sDraw) l34 c34d k34
  have g34_ := PySem.W.mg_of XX GG a34
  have b34_ := F34_.binds (ps := ["bag", "total"]) fun _ _ _ _ _ _ us hl => match us, hl with | [_, _], _ => rfl
  have F35_ := fun_mk (st := sOne) l35 c35d k35
  have g35_ := PySem.W.mg_of XX GG a35
  have b35_ := F35_.binds (ps := ["bag", "items"]) fun _ _ _ _ _ _ us hl => match us, hl with | [_, _], _ => rfl
  have F36_ := fun_mk (st := sShared) l36 c36d k36
  have g36_ := PySem.W.mg_of XX GG a36
  have b36_ := F36_.binds (ps := ["one", "other"]) fun _ _ _ _ _ _ us hl => match us, hl with | [_, _], _ => rfl
  have F37_ := fun_mk (st := sPoint) l37 c37d k37
  have g37_ := PySem.W.mg_of XX GG a37
  have b37_ := F37_.binds (ps := ["x", "y", "w"]) fun _ _ _ _ _ _ us hl => match us, hl with | [_, _, _], _ => rfl
  have F38_ := fun_mk (st := sFrame) l38 c38d k38
  have g38_ := PySem.W.mg_of XX GG a38
  have b38_ := F38_.binds (ps := ["bag"]) fun _ _ _ _ _ _ us hl => match us, hl with | [_], _ => rfl
  have F39_ := fun_mk (st := sSpot) l39 c39d k39
  have g39_ := PySem.W.mg_of XX GG a39
  have b39_ := F39_.binds (ps := ["frame", "part", "other", "over"]) fun _ _ _ _ _ _ us hl => match us, hl with | [_, _, _, _], _ => rfl
  have F40_ := fun_mk (st := sSense) l40 c40d k40
  have g40_ := PySem.W.mg_of XX GG a40
  have b40_ := F40_.binds (ps := ["frame"]) fun _ _ _ _ _ _ us hl => match us, hl with | [_], _ => rfl
  have F41_ := fun_mk (st := sLSign) l41 c41d k41
  have g41_ := PySem.W.mg_of XX GG a41
  have b41_ := F41_.binds (ps := ["number"]) fun _ _ _ _ _ _ us hl => match us, hl with | [_], _ => rfl
  have F42_ := fun_mk (st := sTurns) l42 c42d k42
  have g42_ := PySem.W.mg_of XX GG a42
  have b42_ := F42_.binds (ps := ["frame", "parts", "over"]) fun _ _ _ _ _ _ us hl => match us, hl with | [_, _, _], _ => rfl
  have F43_ := fun_mk (st := sBetwR) l43 c43d k43
  have g43_ := PySem.W.mg_of XX GG a43
  have b43_ := F43_.binds (ps := ["frame", "a", "b", "c", "side", "over"]) fun _ _ _ _ _ _ us hl => match us, hl with | [_, _, _, _, _, _], _ => rfl
  have F44_ := fun_mk (st := sSqR) l44 c44d k44
  have g44_ := PySem.W.mg_of XX GG a44
  have b44_ := F44_.binds (ps := ["frame", "a", "b", "c", "d", "over"]) fun _ _ _ _ _ _ us hl => match us, hl with | [_, _, _, _, _, _], _ => rfl
  have F45_ := fun_mk (st := sLinR) l45 c45d k45
  have g45_ := PySem.W.mg_of XX GG a45
  have b45_ := F45_.binds (ps := ["frame", "a", "b", "c", "d", "over"]) fun _ _ _ _ _ _ us hl => match us, hl with | [_, _, _, _, _, _], _ => rfl
  have F46_ := fun_mk (st := sRef) l46 c46d k46
  have g46_ := PySem.W.mg_of XX GG a46
  have b46_ := F46_.binds (ps := ["one", "two", "three", "four"]) fun _ _ _ _ _ _ us hl => match us, hl with | [_, _, _, _], _ => rfl
  have F47_ := fun_mk (st := sPtsR) l47 c47d k47
  have g47_ := PySem.W.mg_of XX GG a47
  have b47_ := F47_.binds (ps := ["bag"]) fun _ _ _ _ _ _ us hl => match us, hl with | [_], _ => rfl
  have F48_ := fun_mk (st := sLaw) l48 c48d k48
  have g48_ := PySem.W.mg_of XX GG a48
  have b48_ := F48_.binds (ps := ["script"]) fun _ _ _ _ _ _ us hl => match us, hl with | [_], _ => rfl
  have F25_ : FunD K "point_of" "point_of" (defArgs sPtOf) (defBody sPtOf) (defScope sPtOf) [.int 1] [] g25 _ := ⟨⟨_, _, _, _, _, _, _, _, _, _, rfl, l25, c25d, .inr ⟨(fun z => nomatch z), gT, _, [.int 1 tkT], nT, rfl, lT, rfl, .cons ⟨tkT, rfl⟩ .nil⟩, .inl rfl⟩, k25⟩
  have g25_ := PySem.W.mg_of XX GG a25
  obtain ⟨ds2, v2, b2_⟩ := F25_.binds1 (ps := ["x", "y", "w"]) 2 0 (fun z => nomatch z) rfl fun _ _ _ _ _ _ _ us its h1 h2 => match us, its, h1, h2 with | [_, _], [_], _, _ => ⟨_, rfl, rfl⟩
  obtain ⟨ds3, v3, b3_⟩ := F25_.binds1 (ps := ["x", "y", "w"]) 3 1 (fun z => nomatch z) rfl fun _ _ _ _ _ _ _ us its h1 h2 => match us, its, h1, h2 with | [_, _, _], [_], _, _ => ⟨_, rfl, rfl⟩
  cases v3
  refine ⟨PySem.W.fnOf "law" "law" (defArgs sLaw) (defBody sLaw) (defScope sLaw) .none kV48 dc48 pm48 an48 cd48 ct48, fun s v => .of_eq rfl, fun base _ _ => ?_⟩
  have C7 : Cl l.prog w K mg base 1 "lowest_point" _ := ⟨⟨_, _, _, ok_low F7_ TM1, g7_, k7, b7_⟩⟩
  have C8 : Cl l.prog w K mg base 1 "crossed" _ := ⟨⟨_, _, _, ok_crd F8_, g8_, k8, b8_⟩⟩
  have C9 : Cl l.prog w K mg base 2 "line_through" _ := ⟨⟨_, _, _, ok_line F9_ TM1 C8, g9_, k9, b9_⟩⟩
  have C10 : Cl l.prog w K mg base 1 "value_at" _ := ⟨⟨_, _, _, ok_val F10_, g10_, k10, b10_⟩⟩
  have C11 : Cl l.prog w K mg base 2 "cross_point" _ := ⟨⟨_, _, _, ok_cross F11_ C7, g11_, k11, b11_⟩⟩
  have C12 : Cl l.prog w K mg base 1 "sign_of" _ := ⟨⟨_, _, _, ok_sign F12_, g12_, k12, b12_⟩⟩
  have C13 : Cl l.prog w K mg base 2 "turn" _ := ⟨⟨_, _, _, ok_turn F13_ C12 C10 C8, g13_, k13, b13_⟩⟩
  have C14 : Cl l.prog w K mg base 1 "way" _ := ⟨⟨_, _, _, ok_way F14_, g14_, k14, b14_⟩⟩
  have C15 : Cl l.prog w K mg base 3 "lies_between" _ := ⟨⟨_, _, _, ok_lies F15_ C13 C14, g15_, k15, b15_⟩⟩
  have C16 : Cl l.prog w K mg base 2 "half_way" _ := ⟨⟨_, _, _, ok_half F16_ C7, g16_, k16, b16_⟩⟩
  have C18 : Cl l.prog w K mg base 1 "is_integer" _ := ⟨⟨_, _, _, ok_isint F18_ TI1, g18_, k18, b18_⟩⟩
  have C20 : Cl l.prog w K mg base 1 "_lowest" _ := ⟨⟨_, _, _, ok_low2 F20_ TM1, g20_, k20, b20_⟩⟩
  have C19 : Cl l.prog w K mg base 2 "lowest_of" _ := ⟨⟨_, _, _, ok_lowof F19_ C18 C20, g19_, k19, b19_⟩⟩
  have C31 : Cl l.prog w K mg base 3 "_square" _ := ⟨⟨_, _, _, ok_square F31_ C14 C19, g31_, k31, b31_⟩⟩
  have C22 : Cl l.prog w K mg base 2 "is_point" _ := ⟨⟨_, _, _, ok_ispt F22_ TI1 TM1 C18, g22_, k22, b22_⟩⟩
  have C23 : Cl l.prog w K mg base 3 "is_side" _ := ⟨⟨_, _, _, ok_side F23_ TI1 C22, g23_, k23, b23_⟩⟩
  have C24 : ClR l.prog w K mg base 3 "check_points" spChk := ⟨⟨_, ok_chk F24_ C22, g24_, k24⟩⟩
  have C25 : ClP l.prog w K mg base := ⟨⟨_, _, ds2, ok_ptof F25_ C18 C7, g25_, k25, b3_, v2, b2_⟩⟩
  have C26 : Cl l.prog w K mg base 4 "turn_of" _ := ⟨⟨_, _, _, ok_turnof F26_ C24 C13, g26_, k26, b26_⟩⟩
  have C27 : Cl l.prog w K mg base 4 "is_between" _ := ⟨⟨_, _, _, ok_betw F27_ C24 C15, g27_, k27, b27_⟩⟩
  have C29 : Cl l.prog w K mg base 4 "middle_of" _ := ⟨⟨_, _, _, ok_mid F29_ C24 C16, g29_, k29, b29_⟩⟩
  have C30 : Cl l.prog w K mg base 4 "square_between" _ := ⟨⟨_, _, _, ok_sqb F30_ C24 C31, g30_, k30, b30_⟩⟩
  have M28 := ok_meet (P := l.prog) (w := w) (base := base) F28_ IO C24 C9 C11
  have C28 : ClX l.prog w K mg base 4 "line_meet" (spMeet cE) := ⟨⟨_, _, _, M28, g28_, k28, b28_⟩⟩
  have C33 : Cl l.prog w K mg base 1 "_law_bag" _ := ⟨⟨_, _, _, ok_bag F33_ TB1, g33_, k33, b33_⟩⟩
  have D1 := ok_draw (P := l.prog) (w := w) (base := base) F34_ TB1
  have C34 : Cl l.prog w K mg base 1 "_law_draw" _ := ⟨⟨_, _, _, D1, g34_, k34, b34_⟩⟩
  have C35 : Cl l.prog w K mg base 2 "_law_one_of" _ := ⟨⟨_, _, _, ok_one F35_ TB1 D1 b34_ g34_ k34, g35_, k35, b35_⟩⟩
  have C36 : Cl l.prog w K mg base 1 "_law_shared" _ := ⟨⟨_, _, _, ok_shared F36_ TB1, g36_, k36, b36_⟩⟩
  have C37 : Cl l.prog w K mg base 2 "_law_point" _ := ⟨⟨_, _, _, ok_point F37_ C36, g37_, k37, b37_⟩⟩
  have C38 : Cl l.prog w K mg base 3 "_law_frame" _ := ⟨⟨_, _, _, ok_frame F38_ C34 C35, g38_, k38, b38_⟩⟩
  have C39 : Cl l.prog w K mg base 3 "_law_spot" _ := ⟨⟨_, _, _, ok_spot F39_ C37, g39_, k39, b39_⟩⟩
  have C40 : Cl l.prog w K mg base 1 "_law_sense" _ := ⟨⟨_, _, _, ok_sense F40_, g40_, k40, b40_⟩⟩
  have C41 : Cl l.prog w K mg base 1 "_law_sign" _ := ⟨⟨_, _, _, ok_lsign F41_ TB1, g41_, k41, b41_⟩⟩
  have C42 : Cl l.prog w K mg base 5 "_law_turns_right" _ := ⟨⟨_, _, _, ok_turns F42_ C41 C40 C39 C26, g42_, k42, b42_⟩⟩
  have C43 : Cl l.prog w K mg base 5 "_law_between_right" _ := ⟨⟨_, _, _, ok_betwR F43_ T1 C39 C27 C29, g43_, k43, b43_⟩⟩
  have C44 : Cl l.prog w K mg base 5 "_law_squares_right" _ := ⟨⟨_, _, _, ok_sqR F44_ C39 C36 C30, g44_, k44, b44_⟩⟩
  have C46 : Cl l.prog w K mg base 5 "_law_is_refused" _ := ⟨⟨_, _, _, ok_refused F46_ IO M28 b28_ g28_ k28, g46_, k46, b46_⟩⟩
  have C45 : Cl l.prog w K mg base 6 "_law_lines_right" _ := ⟨⟨_, _, _, ok_linR F45_ C39 C46 C28, g45_, k45, b45_⟩⟩
  have C47 : Cl l.prog w K mg base 4 "_law_points_right" _ := ⟨⟨_, _, _, ok_ptsR F47_ T1 (mgn z_list) C34 C35 C37 C25 C22 C23, g47_, k47, b47_⟩⟩
  exact ok_law F48_ T1 C33 C34 C35 C38 C42 C43 C44 C45 C47
theorem walk {l : PySem.W.OpenLaw} {q : Program} {loose : List Str} {XP : (Str → Option Value) → Heap → Prop} {YP : World → Heap → Prop} {d : DefRec} {K : Params → PySem.W.Frag} (hn : l.most = some 63) (hdf : d.params.defaults = [])
    (hY : ∀ (w : World) (h : Heap), YP w h → (K w.params).In h)
    (F : ∀ (w : World) (mg : Str → Option Value) (fa : Addr) (h : Heap), (K w.params).In h → h.Ns mainGlobals mg → mg d.name = some (.ref fa) →
      ∃ fd : FuncData, (∀ (s : Shared) (u : Value), BindsTo s fd ⟨[u], []⟩ [("script", u)]) ∧ ∀ base : Heap, (K w.params).In base → base.Ns mainGlobals mg → FnOk l.prog w (K w.params) mg base CX0 7 fa fd ["script"] (spLaw (K w.params))) :
    PySem.W.WalkO q loose XP YP l.row.toRowW d [] (fun f vs => PySem.call f vs) :=
  L2.walk_of (n := 63) (k := 7) (x := "script") (CX := fun _ => CX0) (sp := fun w => spLaw (K w.params)) hn (by decide) hdf ⟨rfl, by decide, by decide⟩ hY F (fun _ _ a ns hl _ hS => ⟨a, ns, rfl, hS, hl, fun _ => rfl⟩) fun _ _ _ _ _ z => z
end Q
set_option Elab.async false
set_option linter.all false
set_option maxRecDepth 100000
open PySem PySem.W PyProof.Rows
set_option maxRecDepth 100000 in
set_option maxHeartbeats 0 in
theorem PySem.Challenge.cw_wherebase_k02_whole_turns_and_lines_holds : PySem.Challenge.rw_wherebase_k02_whole_turns_and_lines.Holds := by
  w_on; o_law; k_head; (case hw => w_witness2)
  k_fill
  refine Q.walk (l := PySem.Challenge.rw_wherebase_k02_whole_turns_and_lines) rfl rfl (fun w h Y => PySem.W.kIn_of Y) ?F
  case F =>
    intro w mg fa h KX G hmg
    refine' Q.all_mk KX G hmg ?A0 ?T0 ?K0 ?S0 ?M0 ?P0 ?gc0 ?a7 ?l7 ?c7d ?k7 ?a8 ?l8 ?c8d ?k8 ?a9 ?l9 ?c9d ?k9 ?a10 ?l10 ?c10d ?k10 ?a11 ?l11 ?c11d ?k11 ?a12 ?l12 ?c12d ?k12 ?a13 ?l13 ?c13d ?k13 ?a14 ?l14 ?c14d ?k14 ?a15 ?l15 ?c15d ?k15 ?a16 ?l16 ?c16d ?k16 ?a18 ?l18 ?c18d ?k18 ?a19 ?l19 ?c19d ?k19 ?a20 ?l20 ?c20d ?k20 ?a22 ?l22 ?c22d ?k22 ?a23 ?l23 ?c23d ?k23 ?a24 ?l24 ?c24d ?k24 ?lT ?a25 ?l25 ?c25d ?k25 ?a26 ?l26 ?c26d ?k26 ?a27 ?l27 ?c27d ?k27 ?a28 ?l28 ?c28d ?k28 ?a29 ?l29 ?c29d ?k29 ?a30 ?l30 ?c30d ?k30 ?a31 ?l31 ?c31d ?k31 ?a33 ?l33 ?c33d ?k33 ?a34 ?l34 ?c34d ?k34 ?a35 ?l35 ?c35d ?k35 ?a36 ?l36 ?c36d ?k36 ?a37 ?l37 ?c37d ?k37 ?a38 ?l38 ?c38d ?k38 ?a39 ?l39 ?c39d ?k39 ?a40 ?l40 ?c40d ?k40 ?a41 ?l41 ?c41d ?k41 ?a42 ?l42 ?c42d ?k42 ?a43 ?l43 ?c43d ?k43 ?a44 ?l44 ?c44d ?k44 ?a45 ?l45 ?c45d ?k45 ?a46 ?l46 ?c46d ?k46 ?a47 ?l47 ?c47d ?k47 ?a48 ?l48 ?c48d ?k48 ?z_isinstance ?z_len ?z_sum ?z_int ?z_abs ?z_max ?z_min ?z_range ?z_list ?z_tuple ?z_bool ?z_repr
    (case A0 => k_is)
    (case T0 => k_is)
    (case K0 => k_is)
    (case S0 => k_is)
    (case M0 => k_is)
    (case P0 => k_exc)
    (case gc0 => k_is)
    (case a7 => k_is)
    (case l7 => k_is)
    (case c7d => k_is)
    (case k7 => k_is)
    (case a8 => k_is)
    (case l8 => k_is)
    (case c8d => k_is)
    (case k8 => k_is)
    (case a9 => k_is)
    (case l9 => k_is)
    (case c9d => k_is)
    (case k9 => k_is)
    (case a10 => k_is)
    (case l10 => k_is)
    (case c10d => k_is)
    (case k10 => k_is)
    (case a11 => k_is)
    (case l11 => k_is)
    (case c11d => k_is)
    (case k11 => k_is)
    (case a12 => k_is)
    (case l12 => k_is)
    (case c12d => k_is)
    (case k12 => k_is)
    (case a13 => k_is)
    (case l13 => k_is)
    (case c13d => k_is)
    (case k13 => k_is)
    (case a14 => k_is)
    (case l14 => k_is)
    (case c14d => k_is)
    (case k14 => k_is)
    (case a15 => k_is)
    (case l15 => k_is)
    (case c15d => k_is)
    (case k15 => k_is)
    (case a16 => k_is)
    (case l16 => k_is)
    (case c16d => k_is)
    (case k16 => k_is)
    (case a18 => k_is)
    (case l18 => k_is)
    (case c18d => k_is)
    (case k18 => k_is)
    (case a19 => k_is)
    (case l19 => k_is)
    (case c19d => k_is)
    (case k19 => k_is)
    (case a20 => k_is)
    (case l20 => k_is)
    (case c20d => k_is)
    (case k20 => k_is)
    (case a22 => k_is)
    (case l22 => k_is)
    (case c22d => k_is)
    (case k22 => k_is)
    (case a23 => k_is)
    (case l23 => k_is)
    (case c23d => k_is)
    (case k23 => k_is)
    (case a24 => k_is)
    (case l24 => k_is)
    (case c24d => k_is)
    (case k24 => k_is)
    (case a25 => k_is)
    (case l25 => k_is)
    (case c25d => k_is)
    (case k25 => k_is)
    (case a26 => k_is)
    (case l26 => k_is)
    (case c26d => k_is)
    (case k26 => k_is)
    (case a27 => k_is)
    (case l27 => k_is)
    (case c27d => k_is)
    (case k27 => k_is)
    (case a28 => k_is)
    (case l28 => k_is)
    (case c28d => k_is)
    (case k28 => k_is)
    (case a29 => k_is)
    (case l29 => k_is)
    (case c29d => k_is)
    (case k29 => k_is)
    (case a30 => k_is)
    (case l30 => k_is)
    (case c30d => k_is)
    (case k30 => k_is)
    (case a31 => k_is)
    (case l31 => k_is)
    (case c31d => k_is)
    (case k31 => k_is)
    (case a33 => k_is)
    (case l33 => k_is)
    (case c33d => k_is)
    (case k33 => k_is)
    (case a34 => k_is)
    (case l34 => k_is)
    (case c34d => k_is)
    (case k34 => k_is)
    (case a35 => k_is)
    (case l35 => k_is)
    (case c35d => k_is)
    (case k35 => k_is)
    (case a36 => k_is)
    (case l36 => k_is)
    (case c36d => k_is)
    (case k36 => k_is)
    (case a37 => k_is)
    (case l37 => k_is)
    (case c37d => k_is)
    (case k37 => k_is)
    (case a38 => k_is)
    (case l38 => k_is)
    (case c38d => k_is)
    (case k38 => k_is)
    (case a39 => k_is)
    (case l39 => k_is)
    (case c39d => k_is)
    (case k39 => k_is)
    (case a40 => k_is)
    (case l40 => k_is)
    (case c40d => k_is)
    (case k40 => k_is)
    (case a41 => k_is)
    (case l41 => k_is)
    (case c41d => k_is)
    (case k41 => k_is)
    (case a42 => k_is)
    (case l42 => k_is)
    (case c42d => k_is)
    (case k42 => k_is)
    (case a43 => k_is)
    (case l43 => k_is)
    (case c43d => k_is)
    (case k43 => k_is)
    (case a44 => k_is)
    (case l44 => k_is)
    (case c44d => k_is)
    (case k44 => k_is)
    (case a45 => k_is)
    (case l45 => k_is)
    (case c45d => k_is)
    (case k45 => k_is)
    (case a46 => k_is)
    (case l46 => k_is)
    (case c46d => k_is)
    (case k46 => k_is)
    (case a47 => k_is)
    (case l47 => k_is)
    (case c47d => k_is)
    (case k47 => k_is)
    (case a48 => k_is)
    (case l48 => k_is)
    (case c48d => k_is)
    (case k48 => k_is)
    (case z_isinstance => k_is)
    (case z_len => k_is)
    (case z_sum => k_is)
    (case z_int => k_is)
    (case z_abs => k_is)
    (case z_max => k_is)
    (case z_min => k_is)
    (case z_range => k_is)
    (case z_list => k_is)
    (case z_tuple => k_is)
    (case z_bool => k_is)
    (case z_repr => k_is)
    (case lT => k_is)
