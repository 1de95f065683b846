import PyProof.Rows.All
import Wide.All
import OpenK.AllK
import Wide.FinOn
import HandS.ForMost
import HandS.ForExc
import HandS.Wide
import HandS.Evl
import HandS.Gcd
import HandS.Style
import HandS.NoneIn
import HandS.IsInst
import HandS.TryOnly
import HandS.Star
import HandS.Defaults
import HandS.Conv
import HandS.ForSpec
import KE.KMathG
import HandS.Steps
import HandS.More
import HandS.RaiseMore
import HandS.ExcOwn
import HandS.Walk
import HandS.WordsExc
import HandS.TryMany
import KE.KExcInit
import HandS.ExcInit
import PyProof.ReprRoads
import PyProof.ReprBulk
import KE.DataEq
import PyProof.ListStr
import PySem.Challenge.RW_wherebase_k01_whole_fractions_and_names
set_option Elab.async false
set_option linter.all false
set_option maxRecDepth 100000
set_option maxHeartbeats 2000000
namespace Q
open PySem L2
def top (i : Nat) : Stmt := PySem.Challenge.pw_wherebase_k01_whole_fractions_and_names.main.body.getD i (.Pass ⟨0, 0, 0, 0⟩)
abbrev sBag : Stmt := top 18
abbrev sDraw : Stmt := top 19
abbrev sOne : Stmt := top 20
/-! ### powers of any size that fits -/
def CPowW (i j : Int) : Prop := 0 ≤ j ∧ (Builtin.Int.intBits i : Int) * j ≤ 2 ^ 27
theorem op_powW {X : Cx} : OpR X (binaryOp .Pow) (rI CPowW fun i j => .int (i ^ j.toNat)) := opI fun _ _ _ _ _ _ _ hc q => PyProof.Rows.pow_int hc.1 hc.2 q
/-! ### what a draw changes -/
structure Bgd (p : Addr) (H H' : Hp) : Prop where
  bag : ∃ a b c : Int, H' p = some (.lst [.int a, .int b, .int c])
  keep : ∀ l o, l ≠ p → H l = some o → H' l = some o
theorem Bgd.rfl' {p : Addr} {H : Hp} {a b c : Int} (h : H p = some (.lst [.int a, .int b, .int c])) : Bgd p H H := ⟨⟨a, b, c, h⟩, fun _ _ _ e => e⟩
theorem Bgd.trans {p : Addr} {H H1 H2 : Hp} (x : Bgd p H H1) (y : Bgd p H1 H2) : Bgd p H H2 := ⟨y.bag, fun l o n e => y.keep l o n (x.keep l o n e)⟩
theorem Bgd.free {p l : Addr} {H H1 : Hp} (x : Bgd p H H1) (h : H1 l = none) : H l = none := by
  obtain ⟨a, b, c, e⟩ := x.bag
  by_cases z : l = p
  · rw [z, e] at h
    cases h
  · cases q : H l with
    | none => rfl
    | some o =>
      rw [x.keep l o z q] at h
      cases h
theorem Bgd.new {p l : Addr} {H H1 : Hp} {o : HO} (x : Bgd p H H1) (h : H1 l = none) : Bgd p H (upd H1 l o) := by
  obtain ⟨a, b, c, e⟩ := x.bag
  refine ⟨⟨a, b, c, ?_⟩, fun m u n q => ?_⟩
  · rw [upd_ne (ne_of_none e h)]
    exact e
  · have q1 := x.keep m u n q
    rw [upd_ne (ne_of_none q1 h)]
    exact q1
theorem Bgd.put {p : Addr} {H H1 : Hp} (x : Bgd p H H1) (a b c : Int) : Bgd p H (upd H1 p (.lst [.int a, .int b, .int c])) := by
  refine ⟨⟨a, b, c, upd_same⟩, fun m u n q => ?_⟩
  rw [upd_ne n]
  exact x.keep m u n q
theorem Bgd.same {p : Addr} {H0 H H1 : Hp} (s : Same H0 H) (n : H0 p = none) (x : Bgd p H H1) : Same H0 H1 := fun l o e => x.keep l o (ne_of_none e n) (s l o e)
theorem atI_in {xs : List V} {r : Int} (h0 : 0 ≤ r) (h : r < xs.length) : ∃ v, atI xs r = some v ∧ xs[r.toNat]? = some v := by
  obtain ⟨n, rfl⟩ := Int.eq_ofNat_of_zero_le h0
  have hn : n < xs.length := by omega
  refine ⟨xs[n], ?_, ?_⟩
  · rw [atI_nat]
    simp [hn]
  · simp [hn]
theorem cut_ints (ns : List Int) (lo hi : Option Int) : ∃ ms : List Int, cutV (ns.map V.int) lo hi = ms.map V.int := by
  have cut : ∀ i j : Nat, ((ns.map V.int).drop i).take j = ((ns.drop i).take j).map V.int := fun i j => by rw [← List.map_drop, ← List.map_take]
  exact ⟨_, cut _ _⟩
theorem log_len {n : Nat} (h : n ≤ 1000) : ((n : Nat) : Int).natAbs.log2 < 9000 := by
  rw [Int.natAbs_natCast]
  exact Nat.lt_of_le_of_lt (Nat.le_trans (Nat.log2_le_self n) h) (by decide)
/-! ### the promises -/
def spBag (K : PySem.W.Frag) : Sp := fun vs H Q _ => ∃ (a : Addr) (ns : List Int) (i : Nat), vs = [.ref a, .int i] ∧ SqL K H a (ns.map V.int) ∧ i < 1000 ∧
  ∀ (p : Addr) (H' : Hp), H p = none → Same H H' → (∃ a b c : Int, H' p = some (.lst [.int a, .int b, .int c])) → Q (.ref p) H'
def spDraw : Sp := fun vs H Q _ => ∃ (p : Addr) (a b c n : Int), vs = [.ref p, .int n] ∧ H p = some (.lst [.int a, .int b, .int c]) ∧ 0 < n ∧ n.natAbs.log2 < 9000 ∧
  ∀ (r : Int) (H' : Hp), 0 ≤ r → r < n → Bgd p H H' → Q (.int r) H'
def spOne : Sp := fun vs H Q _ => ∃ (p q : Addr) (a b c : Int) (xs : List V), vs = [.ref p, .ref q] ∧ H p = some (.lst [.int a, .int b, .int c]) ∧ q ≠ p ∧ H q = some (.lst xs) ∧ 0 < xs.length ∧ xs.length ≤ 1000 ∧
  ∀ (i : Nat) (v : V) (H' : Hp), xs[i]? = some v → Bgd p H H' → Q v H'
def spShuf : Sp := fun vs H Q _ => ∃ (p q : Addr) (a b c : Int) (xs : List V), vs = [.ref p, .ref q] ∧ H p = some (.lst [.int a, .int b, .int c]) ∧ q ≠ p ∧ H q = some (.lst xs) ∧ xs.length ≤ 1000 ∧
  ∀ (l : Addr) (ys : List V) (H' : Hp), ys.Perm xs → H' l = some (.lst ys) → H l = none → Bgd p H H' → Q (.ref l) H'
structure TB (mg : Str → Option Value) : Prop where
  len : mg "len" = none
  sum : mg "sum" = none
  int : mg "int" = none
  abs : mg "abs" = none
  max : mg "max" = none
  range : mg "range" = none
  list : mg "list" = none
section
variable {P : Program} {w : World} {K : PySem.W.Frag} {mg : Str → Option Value} {base : Heap}
theorem scBag : FnScope ["script", "at", "cell", "great", "mixed"] ["script", "at"] (defScope sBag) := ⟨rfl, rfl, rfl, by decide +kernel, rfl, by decide +kernel, by decide +kernel⟩
theorem bigM : ((((10 : Int) ^ (Int.toNat 47)) ^ (Int.toNat 13))) ≠ 0 := by decide +kernel
theorem ok_bag {f : Addr} {fd : FuncData} (F : Fun K "_law_bag" "_law_bag" sBag f fd) (T : TB mg) : FnOk P w K mg base CX0 1 f fd ["script", "at"] (spBag K) := by
  refine F.ok scBag (fun vs H Q E h => ?_) (fun cdv A outer s H vs Q E hr h => ?_)
  · obtain ⟨a, ns, i, rfl, _⟩ := h
    rfl
  · obtain ⟨a, ns, i, rfl, hS, hi, k⟩ := h
    refine ⟨_, Evl.pss_cut (ps_set (i := 2) scBag.nd rfl (Or.inl rfl) (pe_ifExp (pt_cmpR op_lt (pv 1) (pe_callB call_len_seq (by rfl) T.len PySem.boot_len (pa_cons (pv 0) pa_nil)) (nomark _))
        (pe_ix ix_list (pv 0) (pv 1) (fun _ _ => rfl))
        (pe_op op_add (pe_op op_add (pe_callB (cr_sum rfl) (by rfl) T.sum (by decide +kernel) (pa_cons (pe_slice sl_list (pv 0) po_none (po_some pe_int)) pa_nil)) (pe_op op_mul pe_int (pv 1))) pe_int)))
      (pss_cons (ps_set (i := 3) scBag.nd rfl (Or.inl rfl) (pe_op op_modN (pe_callTy call_int1 (by rfl) T.int (by decide +kernel) (pa_cons (pe_callB call_abs (by rfl) T.abs (by decide +kernel) (pa_cons (pv 2) pa_nil)) pa_nil)) (pe_op op_powW (pe_op op_powW pe_int pe_int) pe_int)))
      (pss_cons (ps_set (i := 4) scBag.nd rfl (Or.inl rfl) (pe_op op_add (pe_op op_add (pe_op op_add (pe_op op_mul (pe_op op_mod (pe_callTy call_int1 (by rfl) T.int (by decide +kernel) (pa_cons (pv 3) pa_nil)) pe_int) pe_int) (pe_op op_mul pe_int (pv 1))) (pe_op op_mul pe_int (pe_callTy call_int1 (by rfl) T.int (by decide +kernel) (pa_cons (pe_cmpR op_lt (pv 2) pe_int (nomark _)) pa_nil)))) pe_int))
      (pss_one (ps_ret (pe_lst (pa_cons (pe_callB (call_max2 rfl) (by rfl) T.max (by decide +kernel) (pa_cons pe_int (pa_cons (pe_op op_sub (pv 3) (pe_op op_powW pe_int pe_int)) pa_nil))) (pa_cons (pe_op op_mod (pe_callTy call_int1 (by rfl) T.int (by decide +kernel) (pa_cons (pv 4) pa_nil)) pe_int) (pa_cons pe_int pa_nil)))))))), ?_⟩
    refine ⟨fun σ' H' => Same H H' ∧ ∃ c : Int, σ' = [some (.ref a), some (.int i), some (.int c), none, none], ?_, ?_⟩
    · refine ⟨_, rfl, _, rfl, a, _, rfl, .inl hS, _, _, rfl, rfl, _, rfl, ?_⟩
      refine ite2 (fun hlt => ?_) (fun _ => ?_)
      · have hlt := of_decide_eq_true hlt
        rw [List.length_map] at hlt
        have hl : i < ns.length := by omega
        refine ⟨_, rfl, _, rfl, a, _, _, V.int ns[i], rfl, rfl, hS, ?_, ?_⟩
        · rw [atI_nat]
          simp [hl]
        · exact ⟨Same.refl H, _, rfl⟩
      · refine ⟨_, rfl, _, rfl, a, ns.map V.int, rfl, hS, fun l hl => ?_⟩
        obtain ⟨ms, em⟩ := cut_ints ns none (some 1)
        rw [em]
        refine ⟨l, ms, rfl, SqL.of upd_same, _, rfl, _, _, rfl, rfl, .inl ?_, _, _, rfl, rfl, _, _, rfl, rfl, ?_⟩
        · show -(2 ^ 64) < (103 : Int) ∧ (103 : Int) < 2 ^ 64
          decide
        · exact ⟨fun b o e => by rw [upd_ne (ne_of_none e hl)]; exact e, _, rfl⟩
    · rintro σ' H1 ⟨s1, cell, rfl⟩
      refine ⟨_, rfl, cell, rfl, .inl ⟨_, rfl, ?_⟩⟩
      refine ⟨_, _, rfl, rfl, ⟨by decide, by decide +kernel⟩, _, _, rfl, rfl, ⟨by decide, by decide +kernel⟩, _, _, rfl, rfl, bigM, ?_⟩
      refine ⟨_, rfl, .inl ⟨_, rfl, _, _, rfl, rfl, (by show (0 : Int) < 2305843009213693723; decide), _, _, rfl, rfl, .inr ?_, _, rfl, _, _, rfl, rfl, .inl ?_, _, _, rfl, rfl, ?_⟩⟩
      · show -(2 ^ 64) < (1000231 : Int) ∧ (1000231 : Int) < 2 ^ 64
        decide
      · show -(2 ^ 64) < (9011 : Int) ∧ (9011 : Int) < 2 ^ 64
        decide
      · refine ⟨_, rfl, _, _, rfl, rfl, .inr ⟨_, rfl, _, _, rfl, rfl, .inl ?_, _, _, rfl, rfl, _, _, rfl, rfl, ?_⟩⟩
        · show -(2 ^ 64) < (41 : Int) ∧ (41 : Int) < 2 ^ 64
          decide
        · refine ⟨_, rfl, _, _, rfl, rfl, ⟨by decide, by decide +kernel⟩, _, _, rfl, rfl, _, _, rfl, ?_⟩
          refine ⟨_, rfl, .inl ⟨_, rfl, _, _, rfl, rfl, ?_, (by show 3 ≤ sizeLine; decide), fun p hp => ?_⟩⟩
          · show (0 : Int) < 2305843009213693951
            decide
          · exact k p _ (s1.free hp) (fun b o e => by rw [upd_ne (ne_of_none (s1 b o e) hp)]; exact s1 b o e) ⟨_, _, _, upd_same⟩
theorem scDraw : FnScope ["bag", "total", "found", "one", "two"] ["bag", "total"] (defScope sDraw) := ⟨rfl, rfl, rfl, by decide +kernel, rfl, by decide +kernel, by decide +kernel⟩
theorem ok_draw {f : Addr} {fd : FuncData} (F : Fun K "_law_draw" "_law_draw" sDraw f fd) (T : TB mg) : FnOk P w K mg base CX0 1 f fd ["bag", "total"] spDraw := by
  refine F.ok scDraw (fun vs H Q E h => ?_) (fun cdv A outer s H vs Q E hr h => ?_)
  · obtain ⟨p, a, b, c, n, rfl, _⟩ := h
    rfl
  · obtain ⟨p, a, b, c, n, rfl, hp, hn, hw, k⟩ := h
    have B0 : Bgd p H H := Bgd.rfl' hp
    refine ⟨_, pss_cons (ps_if (pt_cmpR op_gt (pe_ix ix_list (pv 0) pe_int (fun _ _ => rfl)) pe_int (nomark _))
        (pss_cons (ps_set (i := 2) scDraw.nd rfl (Or.inl rfl) (pe_op op_mod (pe_callTy call_int1 (by rfl) T.int (by decide +kernel) (pa_cons (pe_ix ix_list (pv 0) pe_int (fun _ _ => rfl)) pa_nil)) (pv 1)))
        (pss_cons (ps_asg (pe_op op_fdivW (pe_ix ix_list (pv 0) pe_int (fun _ _ => rfl)) (pv 1)) (pg_sub (pv 0) pe_int set_list))
        (pss_one (ps_ret (pv 2))))) pss_nil)
      (pss_cons (ps_asg (pe_op op_add (pe_ix ix_list (pv 0) pe_int (fun _ _ => rfl)) pe_int) (pg_sub (pv 0) pe_int set_list))
      (pss_cons (ps_set (i := 3) scDraw.nd rfl (Or.inl rfl) (pe_op op_mod (pe_callTy call_int1 (by rfl) T.int (by decide +kernel) (pa_cons (pe_op op_add (pe_ix ix_list (pv 0) pe_int (fun _ _ => rfl)) (pe_op op_mul pe_int (pe_ix ix_list (pv 0) pe_int (fun _ _ => rfl)))) pa_nil)) pe_int))
      (pss_cons (ps_set (i := 4) scDraw.nd rfl (Or.inl rfl) (pe_op op_add (pe_op op_mul (pe_op op_mod (pe_callTy call_int1 (by rfl) T.int (by decide +kernel) (pa_cons (pe_op op_mul (pv 3) (pv 3)) pa_nil)) pe_int) (pv 3)) (pe_op op_mul pe_int (pe_ix ix_list (pv 0) pe_int (fun _ _ => rfl)))))
      (pss_one (ps_ret (pe_op op_mod (pe_callTy call_int1 (by rfl) T.int (by decide +kernel) (pa_cons (pe_op op_fdiv (pe_op op_mod (pe_callTy call_int1 (by rfl) T.int (by decide +kernel) (pa_cons (pv 4) pa_nil)) pe_int) pe_int) pa_nil)) (pv 1))))))), ?_⟩
    refine ⟨_, rfl, p, _, _, V.int a, rfl, rfl, SqL.of hp, rfl, _, _, rfl, rfl, _, rfl, ?_⟩
    refine ite2 (fun _ => ?_) (fun _ => ?_)
    · refine ⟨_, rfl, p, _, _, V.int a, rfl, rfl, SqL.of hp, rfl, .inl ⟨_, rfl, _, rfl, _, _, rfl, rfl, hn, ?_⟩⟩
      refine ⟨_, rfl, p, _, _, V.int a, rfl, rfl, SqL.of hp, rfl, _, rfl, _, _, rfl, rfl, ⟨hn, hw⟩, ?_⟩
      refine ⟨_, rfl, p, _, _, 0, rfl, rfl, hp, rfl, _, rfl, ?_⟩
      exact k _ _ (Int.emod_nonneg _ (by omega)) (Int.emod_lt_of_pos _ hn) (B0.put _ _ _)
    · refine ⟨_, rfl, p, _, _, V.int c, rfl, rfl, SqL.of hp, rfl, _, _, rfl, rfl, ?_⟩
      refine ⟨_, rfl, p, _, _, 2, rfl, rfl, hp, rfl, ?_⟩
      refine ⟨_, rfl, p, _, _, V.int b, rfl, rfl, SqL.of upd_same, rfl, _, rfl, p, _, _, V.int (c + 1), rfl, rfl, SqL.of upd_same, rfl, _, _, rfl, rfl, .inl ?_, _, _, rfl, rfl, .inl ⟨_, rfl, _, _, rfl, rfl, ?_, ?_⟩⟩
      · show -(2 ^ 64) < (1048609 : Int) ∧ (1048609 : Int) < 2 ^ 64
        decide
      · show (0 : Int) < 2305843009213693951
        decide
      have o1 : 0 ≤ (b + 1048609 * (c + 1)) % 2305843009213693951 := Int.emod_nonneg _ (by decide)
      have o2 : (b + 1048609 * (c + 1)) % 2305843009213693951 < 2305843009213693951 := Int.emod_lt_of_pos _ (by decide)
      generalize (b + 1048609 * (c + 1)) % 2305843009213693951 = one at o1 o2 ⊢
      refine ⟨_, rfl, _, rfl, _, _, rfl, rfl, .inl ⟨by omega, by omega⟩, .inl ⟨_, rfl, _, _, rfl, rfl, ?_, ?_⟩⟩
      · show (0 : Int) < 2305843009213693723
        decide
      have t1 : 0 ≤ one * one % 2305843009213693723 := Int.emod_nonneg _ (by decide)
      have t2 : one * one % 2305843009213693723 < 2305843009213693723 := Int.emod_lt_of_pos _ (by decide)
      generalize one * one % 2305843009213693723 = sq at t1 t2 ⊢
      refine ⟨_, rfl, _, _, rfl, rfl, .inl ⟨by omega, by omega⟩, _, rfl, p, _, _, V.int (c + 1), rfl, rfl, SqL.of upd_same, rfl, _, _, rfl, rfl, .inl ?_, _, _, rfl, rfl, ?_⟩
      · show -(2 ^ 64) < (8117 : Int) ∧ (8117 : Int) < 2 ^ 64
        decide
      generalize sq * one + 8117 * (c + 1) = two
      refine ⟨_, rfl, .inl ⟨_, rfl, _, _, rfl, rfl, ?_, _, _, rfl, rfl, ?_, .inl ⟨_, rfl, _, rfl, _, _, rfl, rfl, hn, ?_⟩⟩⟩
      · show (0 : Int) < 2305843009213693921
        decide
      · exact ⟨by decide, by decide⟩
      exact k _ _ (Int.emod_nonneg _ (by omega)) (Int.emod_lt_of_pos _ hn) (B0.put _ _ _)
theorem scOne : FnScope ["bag", "items"] ["bag", "items"] (defScope sOne) := ⟨rfl, rfl, rfl, by decide +kernel, rfl, by decide +kernel, by decide +kernel⟩
theorem ok_one {f fD : Addr} {fd fdD : FuncData} (F : Fun K "_law_one_of" "_law_one_of" sOne f fd) (T : TB mg) (FD : FnOk P w K mg base CX0 1 fD fdD ["bag", "total"] spDraw) (bD : Binds K fdD ["bag", "total"] []) (gD : mg "_law_draw" = some (.ref fD)) (kD : PySem.W.keepIn K (.ref fD) = true) :
    FnOk P w K mg base CX0 2 f fd ["bag", "items"] spOne := by
  refine F.ok scOne (fun vs H Q E h => ?_) (fun cdv A outer s H vs Q E hr h => ?_)
  · obtain ⟨p, q, a, b, c, xs, rfl, _⟩ := h
    rfl
  · obtain ⟨p, q, a, b, c, xs, rfl, hp, hne, hq, h0, h1, k⟩ := h
    refine ⟨_, pss_one (ps_ret (pe_ix ix_list (pv 1) (pe_call FD hr (by rfl) gD kD bD .nil pass0 (pa_cons (pv 0) (pa_cons (pe_callB call_len_seq (by rfl) T.len PySem.boot_len (pa_cons (pv 1) pa_nil)) pa_nil))) (fun _ _ => rfl))), ?_⟩
    refine ⟨_, rfl, _, rfl, _, rfl, q, _, rfl, .inl (SqL.of hq), p, a, b, c, _, rfl, hp, by omega, log_len h1, ?_⟩
    · intro r H' r0 r1 B
      obtain ⟨v, e1, e2⟩ := atI_in r0 r1
      exact ⟨q, xs, _, v, rfl, rfl, SqL.of (B.keep _ _ hne hq), e1, k r.toNat _ _ e2 B⟩
end
end Q
set_option Elab.async false
set_option linter.all false
set_option maxRecDepth 100000
set_option maxHeartbeats 2000000
namespace PM
def gc (x y w : Int) : Int := ((Nat.gcd (Nat.gcd x.natAbs y.natAbs) w.natAbs : Nat) : Int)
end PM
namespace Q
open PySem L2 PySem.Spec PyProof.Rows PySem.Calls
theorem args_gcd3 (a b c : Value) : argsOk "math.gcd" ⟨[a, b, c], []⟩ := by unfold argsOk; kernel_rfl
theorem run_gcd3 (a : Int) (t : Tok) (b : Int) (u : Tok) (c : Int) (v : Tok) :
    Gives (Builtin.«math.gcd» ⟨[.int a t, .int b u, .int c v], []⟩) (.int ((((Nat.gcd 0 a.natAbs).gcd b.natAbs).gcd c.natAbs : Nat) : Int)) :=
  .of_wp fun M A E s Q h => by obtain ⟨hp, g, d, tk, os⟩ := s; wp_walk; exact ⟨_, rfl, h⟩
section
variable {X : Cx}
def rGcd3 : List V → Hp → VK → Prop := fun vs H Q => ∃ a b c : Int, vs = [.int a, .int b, .int c] ∧ Q (.int (PM.gc a b c)) H
theorem cr_gcd3 : CallR X (.builtin "math.gcd") rGcd3 := by
  intro pins s σ H vs us Q I r h
  obtain ⟨a, b, c, rfl, q⟩ := h
  cases r with
  | cons r1 r =>
    cases r with
    | cons r2 r =>
      cases r with
      | cons r3 r =>
        cases r
        obtain ⟨t1, rfl⟩ := r1
        obtain ⟨t2, rfl⟩ := r2
        obtain ⟨t3, rfl⟩ := r3
        have g := run_gcd3 a t1 b t2 c t3
        rw [Nat.gcd_zero_left] at g
        exact call_function_meets PySem.W.MGF.kind_gcd PySem.W.MGF.plain_gcd PySem.W.MGF.entry_gcd (args_gcd3 _ _ _) g.meets ⟨.int _, H, I.tok _, ⟨_, rfl⟩, q⟩
/-- // by any divisor but 0, below 2 ^ 9000 -/
def CDv (_ j : Int) : Prop := j ≠ 0 ∧ j.natAbs.log2 < 9000
theorem op_dv : OpR X (binaryOp .FloorDiv) (rI CDv fun i j => .int (i.fdiv j)) := opI fun i j _ _ _ _ _ hc q => floordiv_int hc.1 q (.inl (PyProof.noPylong_of_log2 hc.2))
end
/-! ### how wide numbers are -/
structure Bd (k : Nat) (i : Int) : Prop where
  lt : i.natAbs < 2 ^ k
theorem Bd.le {a b : Nat} {i : Int} (x : Bd a i) (h : a ≤ b) : Bd b i := ⟨Nat.lt_of_lt_of_le x.lt (Nat.pow_le_pow_right (by decide) h)⟩
theorem Bd.neg {a : Nat} {i : Int} (x : Bd a i) : Bd a (-i) := ⟨by rw [Int.natAbs_neg]; exact x.lt⟩
theorem Bd.mul {a b : Nat} {i j : Int} (x : Bd a i) (y : Bd b j) : Bd (a + b) (i * j) := ⟨wide_lt x.lt y.lt⟩
theorem Bd.add {a : Nat} {i j : Int} (x : Bd a i) (y : Bd a j) : Bd (a + 1) (i + j) := ⟨by
  have h1 := x.lt
  have h2 := y.lt
  have h3 := Int.natAbs_add_le i j
  rw [Nat.pow_succ]
  omega⟩
theorem Bd.sub {a : Nat} {i j : Int} (x : Bd a i) (y : Bd a j) : Bd (a + 1) (i - j) := by
  rw [Int.sub_eq_add_neg]
  exact x.add y.neg
theorem Bd.pos {a : Nat} {i : Int} (x : Bd a i) : Bd (a + 1) i := x.le (Nat.le_succ a)
theorem Bd.mw {a b : Nat} {i j : Int} (x : Bd a i) (y : Bd b j) (h : a + b + 2 ≤ 1000000) : CMulW i j := wide_mul x.pos.lt y.pos.lt (Nat.succ_pos _) (Nat.succ_pos _) (by omega)
theorem Bd.log {a : Nat} {i : Int} (x : Bd a i) (h : a + 1 ≤ 9000) : i.natAbs.log2 < 9000 := Nat.lt_of_lt_of_le (PySem.Flt.log2_lt_of (Nat.succ_pos _) x.pos.lt) h
theorem Bd.of_le {a : Nat} {i j : Int} (x : Bd a j) (h : i.natAbs ≤ j.natAbs) : Bd a i := ⟨Nat.lt_of_le_of_lt h x.lt⟩
theorem gc_le {x y w : Int} (h : w ≠ 0) : (PM.gc x y w).natAbs ≤ w.natAbs := by
  unfold PM.gc
  rw [Int.natAbs_natCast]
  exact Nat.le_of_dvd (Int.natAbs_pos.mpr h) (Nat.gcd_dvd_right _ _)
end Q
set_option Elab.async false
set_option linter.all false
set_option maxRecDepth 100000
set_option maxHeartbeats 2000000
namespace Q
open PySem L2 PySem.Spec PyProof.Rows PySem.Calls Evl
theorem scal_int {i j : Int} : scal (.int i) (.int j) = true := rfl
theorem no_dec {p : Prop} [Decidable p] (h : ¬ decide p = true) : ¬ p := fun hp => h (decide_eq_true hp)
theorem same_new {H : Hp} {p : Addr} {o : HO} (hp : H p = none) : Same H (upd H p o) := fun b u e => by rw [upd_ne (ne_of_none e hp)]; exact e
/-- a def that may be called by its name -/
structure Cl (P : Program) (w : World) (K : PySem.W.Frag) (mg : Str → Option Value) (base : Heap) (k : Nat) (x : Str) (sp : Sp) : Prop where
  ex : ∃ (f : Addr) (fd : FuncData) (ps : List Str), FnOk P w K mg base CX0 k f fd ps sp ∧ mg x = some (.ref f) ∧ PySem.W.keepIn K (.ref f) = true ∧ Binds K fd ps []
/-- one that may raise -/
structure ClX (P : Program) (w : World) (K : PySem.W.Frag) (mg : Str → Option Value) (base : Heap) (k : Nat) (x : Str) (sp : Sp) : Prop where
  ex : ∃ (f : Addr) (fd : FuncData) (ps : List Str), FnOk P w K mg base (L2.CX P w) k f fd ps sp ∧ mg x = some (.ref f) ∧ PySem.W.keepIn K (.ref f) = true ∧ Binds K fd ps []
theorem passX0 {X : Cx} : Passes (L2.CX X.prog X.w) X E0 := by
  intro pins σ H s e s' I h
  obtain ⟨a, B, H', cls, d, ea, fl, hok, ub, na, os, ag, he⟩ := h
  exact False.elim he
section
variable {X : Cx} {k j : Nat} {x : Str} {sp : Sp} {p pos : Pos} {e : Expr} {es : List Expr} {t : TA} {W : WX}
theorem pe_cl (c : Cl X.prog X.w X.K X.mg X.base k x sp) (hr : Room j X.A) (hk : k ≤ j) (hg : Gl X x) (ha : PA X (e :: es) t)
    (hdb : (x == ("__debug__" : Str)) = false := by decide) (he : starEach (e :: es) X.env = (false, eval e X.env) :: starEach es X.env := by rfl) (hpl : (backTo pos (starEach es X.env)).any (·.1) = false := by rfl) :
    PE X (.Call (.Name x p) (e :: es) [] pos) (tCall sp [] E0 t) := by
  obtain ⟨f, fd, ps, F, hm, kp, b⟩ := c.ex
  exact pe_call F (hr.mono hk) hg hm kp b .nil pass0 ha hdb he hpl
/-- called where it doesn't raise -/
theorem pe_clX (c : ClX X.prog X.w X.K X.mg X.base k x sp) (hr : Room j X.A) (hk : k ≤ j) (hg : Gl X x) (ha : PA X (e :: es) t)
    (hdb : (x == ("__debug__" : Str)) = false := by decide) (he : starEach (e :: es) X.env = (false, eval e X.env) :: starEach es X.env := by rfl) (hpl : (backTo pos (starEach es X.env)).any (·.1) = false := by rfl) :
    PE X (.Call (.Name x p) (e :: es) [] pos) (tCall sp [] E0 t) := by
  obtain ⟨f, fd, ps, F, hm, kp, b⟩ := c.ex
  exact pe_call F (hr.mono hk) hg hm kp b .nil passX0 ha hdb he hpl
/-- called where what it raises goes on by W -/
theorem pe_clS (c : ClX X.prog X.w X.K X.mg X.base k x sp) (hr : Room j X.A) (hk : k ≤ j) (hg : Gl X x) (tk : Takes X W) (ha : PA X (e :: es) t)
    (hdb : (x == ("__debug__" : Str)) = false := by decide) (he : starEach (e :: es) X.env = (false, eval e X.env) :: starEach es X.env := by rfl) (hpl : (backTo pos (starEach es X.env)).any (·.1) = false := by rfl) :
    PE X (.Call (.Name x p) (e :: es) [] pos) (tCallS sp (WE W) t) := by
  obtain ⟨f, fd, ps, F, hm, kp, b⟩ := c.ex
  exact pe_callS F (hr.mono hk) hg hm kp b (fun σ => passAt tk σ) ha hdb he hpl
end
structure TM (mg : Str → Option Value) : Prop where
  gcd : mg "gcd" = some (.builtin "math.gcd")
structure TI (mg : Str → Option Value) : Prop where
  isi : mg "isinstance" = none
  int : mg "int" = none
  bool : mg "bool" = none
  tuple : mg "tuple" = none
  str : mg "str" = none
  len : mg "len" = none
  all : mg "all" = none
/-! ### numbers of bounded width -/
structure VI (k : Nat) (te : TE) (σ : L2.St) (H : Hp) (n : Int) : Prop where
  v : Val te σ H (.int n)
  b : Bd k n
section
variable {K : PySem.W.Frag} {σ : L2.St} {H : Hp} {ta tb : TE} {a b : Nat} {m n : Int}
theorem VI.mul (x : VI a ta σ H m) (y : VI b tb σ H n) (h : a + b + 2 ≤ 1000000 := by decide) : VI (a + b) (tOp (rI CMulW fun i j => .int (i * j)) ta tb) σ H (m * n) :=
  ⟨val_op x.v y.v fun _ q => ⟨_, _, rfl, rfl, x.b.mw y.b h, q⟩, x.b.mul y.b⟩
theorem VI.sub (x : VI a ta σ H m) (y : VI a tb σ H n) : VI (a + 1) (tOp (rI0 fun i j => .int (i - j)) ta tb) σ H (m - n) :=
  ⟨val_op x.v y.v fun _ q => ⟨_, _, rfl, rfl, q⟩, x.b.sub y.b⟩
theorem VI.add (x : VI a ta σ H m) (y : VI a tb σ H n) : VI (a + 1) (tOp (rI0 fun i j => .int (i + j)) ta tb) σ H (m + n) :=
  ⟨val_op x.v y.v fun _ q => ⟨_, _, rfl, rfl, q⟩, x.b.add y.b⟩
theorem VI.le (x : VI a ta σ H m) (h : a ≤ b) : VI b ta σ H m := ⟨x.v, x.b.le h⟩
theorem vi_var {i : Nat} (h : σ[i]? = some (some (.int n))) (hb : Bd a n) : VI a (tVar i) σ H n := ⟨val_var h, hb⟩
theorem vi_ix {i : Nat} {p : Addr} {xs : List V} {j : Int} (h : σ[i]? = some (some (.ref p))) (hq : SqT K H p xs) (he : atI xs j = some (.int n)) (hb : Bd a n) : VI a (tOp (rIxT K) (tVar i) (tC (.int j))) σ H n :=
  ⟨val_op (val_var h) val_c fun _ q => ⟨_, _, _, _, rfl, rfl, hq, he, q⟩, hb⟩
end
def ValA (ta : TA) (σ : L2.St) (H : Hp) (vs : List V) : Prop := ∀ Q : List V → Hp → Prop, Q vs H → ta σ H Q
section
variable {σ : L2.St} {H : Hp} {te ta tb : TE} {t : TA} {v m n : V} {vs : List V} {sp : Sp} {PV : V → Hp → Prop} {E : XK} {r : List V → Hp → VK → Prop} {c d : Bool} {i j : Nat} {D : Ends} {K : PySem.W.Frag}
theorem va_nil : ValA tNil σ H [] := fun _ q => q
theorem va_cons (h : Val te σ H v) (ht : ValA t σ H vs) : ValA (tCons te t) σ H (v :: vs) := by
  intro Q q
  refine h _ ?_
  exact ht _ q
theorem vh_call (ha : ValA t σ H vs) (hs : ∀ Q : VK, (∀ v H', PV v H' → Q v H') → sp vs H Q E) : ValH (tCall sp [] E t) σ H PV := by
  intro Q q
  refine ha _ ?_
  rw [List.append_nil]
  exact hs Q q
theorem val_call (ha : ValA t σ H vs) (hs : ∀ Q : VK, Q v H → sp vs H Q E) : Val (tCall sp [] E t) σ H v := by
  intro Q q
  refine ha _ ?_
  rw [List.append_nil]
  exact hs Q q
theorem val_cb (ha : ValA t σ H vs) (hs : ∀ Q : VK, Q v H → r vs H Q) : Val (tCB r t) σ H v := by
  intro Q q
  refine ha _ ?_
  exact hs Q q
theorem vh_tup (ha : ValA t σ H vs) (hl : vs.length ≤ sizeLine) (k : ∀ p, H p = none → PV (.ref p) (upd H p (.tup vs))) : ValH (tTup t) σ H PV := by
  intro Q q
  refine ha _ ⟨hl, fun p hp => q _ _ (k p hp)⟩
theorem val_dv {m g : Int} (ha : Val ta σ H (.int m)) (hb : Val tb σ H (.int g)) (h0 : g ≠ 0) (hl : g.natAbs.log2 < 9000) : Val (tOp (rI CDv fun i j => .int (i.fdiv j)) ta tb) σ H (.int (m.fdiv g)) :=
  val_op ha hb fun _ q => ⟨_, _, rfl, rfl, ⟨h0, hl⟩, q⟩
theorem ret_h {D : Ends} (h : ValH te σ H PV) (q : ∀ v H', PV v H' → D.rt v H') : tRet te D σ H := h _ q
theorem val_and (h1 : Val ta σ H (.bl c)) (h2 : c = true → Val tb σ H (.bl d)) : Val (tAndV ta tb) σ H (.bl (c && d)) := by
  intro Q q
  refine h1 _ ⟨c, rfl, ?_⟩
  cases c with
  | true => exact h2 rfl _ q
  | false => exact q
theorem val_not (h1 : Val ta σ H (.bl c)) : Val (tNotV ta) σ H (.bl (!c)) := by
  intro Q q
  exact h1 _ ⟨c, rfl, q⟩
theorem ans_i {g : Int → Int → V} {i j : Int} {b : Bool} (ha : Val ta σ H (.int i)) (hb : Val tb σ H (.int j)) (hg : g i j = .bl b) : Ans (tTest (tOp (rI0 g) ta tb)) σ H b :=
  ans_cmp ha hb fun Q q => ⟨_, _, rfl, rfl, by rw [hg]; exact q⟩
theorem val_pair (h1 : Val ta σ H m) (h2 : Val tb σ H n) : ValA (tCons ta (tCons tb tNil)) σ H [m, n] := va_cons h1 (va_cons h2 va_nil)
theorem val_isi {ta : TE} {v : V} {T U : String} {b : Bool} (h : Val ta σ H v) (t : TyX K H v (.type U)) (e : PySem.W.kitOne K (.type U) (.type T) = some b) : Val (tCB (rIsi K) (tCons ta (tCons (tC (.ty T)) tNil))) σ H (.bl b) :=
  val_cb (val_pair h val_c) fun Q q => ⟨_, _, _, _, _, rfl, .ty _, t, e, q⟩
theorem val_neg {n : Int} (h : Val te σ H (.int n)) : Val (tUn (rU fun i => .int (-i)) te) σ H (.int (-n)) := fun Q q => h _ ⟨n, rfl, q⟩
theorem st_par {v w : V} (h1 : Val ta σ H v) (h2 : Val tb σ H w) (k : D.nx ((σ.set i (some v)).set j (some w)) H) : tPar i j (tCons ta (tCons tb tNil)) D σ H := h1 _ (h2 _ ⟨v, w, rfl, k⟩)
/-- a call that may raise, where it gives a value -/
theorem vals_call {W : WX} (ha : ValA t σ H vs) (hs : ∀ Q : VK, Q v H → sp vs H Q (WE W σ)) : Val (tCallS sp (WE W) t) σ H v := by
  intro Q q
  exact ha _ (hs Q q)
end
end Q
set_option Elab.async false
set_option linter.all false
set_option maxRecDepth 100000
set_option maxHeartbeats 4000000
/-! own exceptions with an __init__ that keeps one or three values, over any built-in base -/
namespace PySem
namespace OwnX
open PySem.W PySem.Calls PyProof.Rows PySem.HandSPX Builtin Builtin.ObjectAttr
structure OwnTxt (K : Frag) (C fI : Addr) (bmB : List Value) (newId : String) : Prop where
  cls : ∃ nm q N bs bm sn sub ab col dd k0 k1 k2 k3 k5, K.lookup C = some (excClassObj nm q C N bs bm true sn sub ab col dd k0 k1 k2 k3 k5 newId) ∧ excTail bmB bm = true
  sa : findIn K (.ref C) "__setattr__" = some (some (.builtin "object.__setattr__"))
  ga : findIn K (.ref C) "__getattribute__" = some (some (.builtin "BaseException.__getattribute__"))
  gg : findIn K (.ref C) "__getattr__" = some none
  iC : findIn K (.ref C) "__init__" = some (some (.ref fI))
  tC : typeIn K (.ref fI) = some (.type "function")
  kC : keepIn K (.ref C) = true
  exC : subIn K (.ref C) (.type "BaseException") = some true
  tyC : typeIn K (.ref C) = some (.type "type")
  hdC : hasDictIn K C = true
section
variable {prog : Program} {w : World} {A : Around} {E : Value → Shared → Prop} {R : Result → Shared → Prop} {K : Frag} {C fI : Addr} {bmB : List Value} {newId : String}
theorem OwnTxt.over (T : OwnTxt K C fI bmB newId) : excOver K C bmB = true := by
  obtain ⟨nm, q, N, bs, bm, sn, sub, ab, col, dd, k0, k1, k2, k3, k5, hC, hbm⟩ := T.cls
  have e : clsIn K C = some { name := nm, bases := bs, mro := .ref C :: bm, ns := N, qualname := q, hasDict := true, slotNames := sn, subclasses := sub, abstract := ab, collection := col, hasDel := false } := by
    unfold clsIn
    rw [hC]
    all_goals rfl
  unfold excOver
  rw [e]
  show ((C == C) && excTail bmB bm) = true
  rw [hbm, beq_self_eq_true]
  rfl
theorem taker_none {name : Str} (ha : findIn K (.ref C) name = some none) : takerIn K C name = some none := by
  unfold takerIn
  rw [ha]
  rfl
variable {hp : Heap} {g : Array GenState} {d : Drawn} {t : Nat} {os : OsState} {B initId : String}
/-- the first value kept: the error's own dict is laid -/
theorem keep_first (SF : StoreFacts B bmB "object.__setattr__" "object") (T : OwnTxt K C fI bmB newId) {name : Str} {tk : Tok} {v : Value} {x : Addr} {fv : Array Value} (X : K.In hp)
    (hx : hp.get? x = some { cls := .ref C, data := .fields fv }) (ha : findIn K (.ref C) name = some none)
    (hq : ∀ h' tk' dx, (∀ b o, b ≠ x → hp.get? b = some o → h'.get? b = some o) → hp.objs.size ≤ dx → dx ≠ x → h'.get? x = some { cls := .ref C, dict := some dx, data := .fields fv } →
      h'.Ns1 dx (fun y => if y = name then some v else none) → R (.ok (.ret .none)) ⟨h', g, d, tk', os⟩) :
    codeAny (model prog w) A (.call (.builtin "object.__setattr__") ⟨[.ref x, .str name tk, v], []⟩) R ⟨hp, g, d, t, os⟩ := by
  obtain ⟨nm, q, N, bs, bm, sn, sub, ab, col, dd, k0, k1, k2, k3, k5, hC, hbm⟩ := T.cls
  have ec : clsIn K C = some { name := nm, bases := bs, mro := .ref C :: bm, ns := N, qualname := q, hasDict := true, slotNames := sn, subclasses := sub, abstract := ab, collection := col, hasDel := false } := by
    unfold clsIn
    rw [hC]
    all_goals rfl
  have hxs : x ≠ hp.objs.size := Nat.ne_of_lt (Heap.lt_size hx)
  refine osa_openX (od := none) SF X ⟨hx, rfl, rfl, trivial⟩ T.over (taker_none ha) fun b => ?_
  have LC := looks_clsIn (M := model prog w) X ec
  show wpAny _ _ (storeInOwnDict _ _ _ _ _ _) _ _ _
  unfold storeInOwnDict ownDictForStores
  repeat (first
    | with_reducible refine HandSPX.store_in_new ?_ ?_
    | with_reducible refine wpAny_loadPart_at hx ?_
    | with_reducible refine LC.at ?_
    | wp_step)
  · exact ⟨_, #[], _, (Heap.get?_update_ne _ _ _ _ (Ne.symm hxs)).trans (Heap.get?_push_at rfl rfl), rfl, fun e he => absurd he (by simp), fun _ => rfl⟩
  · intro h' tk' hn' hs
    have hy : (hp.push { cls := .type "dict", data := .dict #[] }).get? x = some { cls := .ref C, data := .fields fv } := Heap.get?_push_of_some _ hx
    refine hq h' tk' hp.objs.size (fun b o hb ho => ?_) (Nat.le_refl _) (Ne.symm hxs) ?_ hn'
    · exact (hs.2 b (Nat.ne_of_lt (Heap.lt_size ho))).trans ((Heap.get?_update_ne _ _ _ _ hb).trans (Heap.get?_push_of_some _ ho))
    · exact (hs.2 x hxs).trans (Heap.get?_update_self _ hy rfl)
/-- a further value -/
theorem keep_more (SF : StoreFacts B bmB "object.__setattr__" "object") (T : OwnTxt K C fI bmB newId) {name : Str} {tk : Tok} {v : Value} {x dx : Addr} {fv : Array Value} {m0 : Str → Option Value} {nl : List Str} (X : K.In hp)
    (hx : hp.get? x = some { cls := .ref C, dict := some dx, data := .fields fv }) (hns : hp.Ns1 dx m0) (hw : Within m0 nl) (hz : nl.length ≤ 1000) (ha : findIn K (.ref C) name = some none)
    (hq : ∀ h' tk', (∀ b o, b ≠ dx → hp.get? b = some o → h'.get? b = some o) → h'.Ns1 dx (fun y => if y = name then some v else m0 y) → R (.ok (.ret .none)) ⟨h', g, d, tk', os⟩) :
    codeAny (model prog w) A (.call (.builtin "object.__setattr__") ⟨[.ref x, .str name tk, v], []⟩) R ⟨hp, g, d, t, os⟩ := by
  obtain ⟨nm, q, N, bs, bm, sn, sub, ab, col, dd, k0, k1, k2, k3, k5, hC, hbm⟩ := T.cls
  have ec : clsIn K C = some { name := nm, bases := bs, mro := .ref C :: bm, ns := N, qualname := q, hasDict := true, slotNames := sn, subclasses := sub, abstract := ab, collection := col, hasDel := false } := by
    unfold clsIn
    rw [hC]
    all_goals rfl
  obtain ⟨oD, esD, epD, hoD, hdD, _⟩ := hns.count hw
  refine osa_openX (od := some oD) SF X ⟨hx, rfl, rfl, hoD⟩ T.over (taker_none ha) fun b => ?_
  have LC := looks_clsIn (M := model prog w) X ec
  show wpAny _ _ (storeInOwnDict _ _ _ _ _ _) _ _ _
  unfold storeInOwnDict ownDictForStores
  repeat (first
    | with_reducible refine OEX.store_in_old hns hw hz ?_
    | with_reducible refine wpAny_loadPart_at hx ?_
    | with_reducible refine LC.at ?_
    | wp_step)
  intro h' tk' hn' hs
  exact hq h' tk' (fun b o hb ho => (hs.2 b hb).trans ho) hn'
end
end OwnX
end PySem
set_option Elab.async false
set_option linter.all false
set_option maxRecDepth 100000
set_option maxHeartbeats 4000000
/-! the call of an own error class with an __init__ of its own, where only a base further up has a __new__ (KeyError has none) -/
namespace PySem
namespace OwnX
open PySem.W PySem.Calls PyProof.Rows PySem.HandSPX Builtin Builtin.ObjectAttr
/-- what the classes behind the own one say -/
structure Behind (B : String) (bm : List Value) : Prop where
  has : bm.contains (.type B) = true
  noA : bm.contains (.type "AttributeError") = false
  noN : bm.contains (.type "NameError") = false
section
variable {prog : Program} {w : World} {A : Around} {E : Value → Shared → Prop} {R : Result → Shared → Prop} {hp : Heap} {g : Array GenState} {d : Drawn} {t : Nat} {os : OsState}
variable {nm q : Str} {C N fI : Addr} {bs bm bmF rest : List Value} {hdct : Bool} {sn : List Str} {sub : List Value} {ab : Bool} {col : Option Bool} {dd : Option Addr} {k0 k1 k2 k3 k5 : Option Value} {B newId initId : String}
theorem mk_check {M : Model} {Q : Unit → Shared → Prop} (F : ExcBaseFacts B newId initId bmF) (b : Behind B bm)
    (hC : hp.get? C = some (excClassObj nm q C N bs bm hdct sn sub ab col dd k0 k1 k2 k3 k5 newId)) (done : Q () ⟨hp, g, d, t, os⟩) :
    wpAny M A (checkBuiltinCall newId ⟨.ref C :: rest, []⟩) Q E ⟨hp, g, d, t, os⟩ := by
  have inB : (Value.ref C :: bm).contains (.type B) = true := by
    rw [List.contains_cons, b.has]
    exact Bool.or_true _
  have star := F.noStar
  simp only [checkBuiltinCall, F.newKind,
    F.newSplit, F.newRow]
  repeat (first
    | refine wpAny_loadPart_at hC ?_
    | (refine wpAny_isSubtype_exc hC ?_
       rw [inB])
    | refine wpAny_staticBase_exc hC ?_
    | refine wpAny_madeBy_exc hC ?_
    | simp only [bne_self_eq_false, if_false,
        Bool.false_eq_true]
    | wp_step)
  exact done
theorem mk_new (F : ExcBaseFacts B newId initId bmF) (b : Behind B bm) (hC : hp.get? C = some (excClassObj nm q C N bs bm hdct sn sub ab col dd k0 k1 k2 k3 k5 newId))
    (few : rest.length ≤ sizeLine) (done : R (.ok (.ret (.ref (hp.objs.size + 1)))) ⟨(hp.push (kdv_tup rest)).push (excO C hp.objs.size), g, d, t, os⟩) :
    codeAny (model prog w) A (.builtin newId ⟨.ref C :: rest, []⟩) R ⟨hp, g, d, t, os⟩ := by
  have ends := F.ends
  have inB : (Value.ref C :: bm).contains (.type B) = true := by
    rw [List.contains_cons, b.has]
    exact Bool.or_true _
  have inA : (Value.ref C :: bm).contains (.type "AttributeError") = false := by
    rw [List.contains_cons, b.noA]
    rfl
  have inN : (Value.ref C :: bm).contains (.type "NameError") = false := by
    rw [List.contains_cons, b.noN]
    rfl
  refine codeAny_builtinAt F.entry ?_
  unfold Builtin.«BaseException.__new__»
  refine wpAt_bind ?_
  show wpAt _ _ _ (stack >>= _) _ _ _
  refine wpAt_bind (wpAt_stack fun _ _ => wpAt_of_wpAny ?_)
  wp_walk
  refine wpAt_of_wpAny ?_
  rw [F.owner]
  repeat (first
    | with_reducible refine wpAny_madeHere_exc F.canon hC ?_
    | with_reducible refine wpAny_loadPart_at hC ?_
    | (with_reducible refine wpAny_isSubtype_exc hC ?_
       first
         | rw [inB]
         | rw [inA]
         | rw [inN])
    | wp_step)
  show R _ _
  rw [Heap.size_push]
  exact done
theorem mk_body (F : ExcBaseFacts B newId initId bmF) (b : Behind B bm) {Q : Fin → Shared → Prop} (hC : hp.get? C = some (excClassObj nm q C N bs bm hdct sn sub ab col dd k0 k1 k2 k3 k5 newId))
    (li : Looks (model prog w) hp (typeLookup (.ref C) "__init__") (some (.ref fI))) (lb : ∀ x, Looks (model prog w) hp (bindSpecial (.ref fI) x) (.ref fI, [x])) (few : rest.length ≤ sizeLine)
    (done : codeAny (model prog w) A (.call (.ref fI) ⟨.ref (hp.objs.size + 1) :: rest, []⟩)
      (fun r s' => match r with
        | .ok (.ret v) => v = .none ∧ Q (.done (.ret (.ref (hp.objs.size + 1)))) s'
        | .ok _ => False
        | .error e => E e s') ⟨(hp.push (kdv_tup rest)).push (excO C hp.objs.size), g, d, t, os⟩) :
    wpAny (model prog w) A (Builtin.«type.__call__» ⟨.ref C :: rest, []⟩) Q E ⟨hp, g, d, t, os⟩ := by
  repeat (first
    | with_reducible refine wpAny_loadPart_at hC ?_
    | with_reducible refine wpAny_madeBy_exc hC ?_
    | wp_step)
  refine codeAny_call_builtin_code (Code.quiet_builtin _ F.quiet) (mk_check F b hC ?_)
  refine mk_new F b hC few ?_
  show wpAny _ _ _ _ _ _
  have old : ∀ b o, hp.get? b = some o → ((hp.push (kdv_tup rest)).push (excO C hp.objs.size)).get? b = some o := fun _ _ e => Heap.get?_push_of_some _ (Heap.get?_push_of_some _ e)
  have cls1 := old _ _ hC
  have made : ((hp.push (kdv_tup rest)).push (excO C hp.objs.size)).get? (hp.objs.size + 1) = some (excO C hp.objs.size) := by
    heap_get
  have own : (Value.ref C :: bm).contains (.ref C) = true := by
    simp
  have li' := li.keeps old
  have lb' := (lb (.ref (hp.objs.size + 1))).keeps old
  unfold isInstance
  repeat (first
    | with_reducible refine wpAny_loadPart_at made ?_
    | (with_reducible refine wpAny_isSubtype_exc cls1 ?_
       rw [own])
    | wp_step)
  show wpAny _ _ (typeLookup (.ref C) _) _ _ _
  refine li'.at ?_
  refine wpAny_holding (wpAny_bind (lb'.at ?_))
  refine wpAny_bind (wpAny_call (codeAny_mono done fun r s' z => ?_))
  rcases r with e | (v | _ | _ | _) <;> first
    | exact z
    | exact z.elim
    | (obtain ⟨rfl, z2⟩ := z
       first
         | exact wpAny_pure (wpAny_pure z2)
         | (wp_walk
            exact z2))
theorem mk_call (F : ExcBaseFacts B newId initId bmF) (b : Behind B bm) (hC : hp.get? C = some (excClassObj nm q C N bs bm hdct sn sub ab col dd k0 k1 k2 k3 k5 newId))
    (li : Looks (model prog w) hp (typeLookup (.ref C) "__init__") (some (.ref fI))) (lb : ∀ x, Looks (model prog w) hp (bindSpecial (.ref fI) x) (.ref fI, [x])) (few : rest.length ≤ sizeLine)
    (done : codeAny (model prog w) (A.under (.builtin "type.__call__" ⟨.ref C :: rest, []⟩)) (.call (.ref fI) ⟨.ref (hp.objs.size + 1) :: rest, []⟩)
      (InitBack (hp.objs.size + 1) R) ⟨(hp.push (kdv_tup rest)).push (excO C hp.objs.size), g, d, t, os⟩) :
    codeAny (model prog w) A (.call (.ref C) ⟨rest, []⟩) R ⟨hp, g, d, t, os⟩ := by
  have z1 := tc_lookup
  have z2 := tc_bind (.ref C)
  have z3 : (⟨hp, g, d, t, os⟩ : Shared).TypeIs (.ref C) "type" := ⟨_, hC, rfl⟩
  refine codeAny_of_tree ?_
  show wpAny _ _ (callAny (.ref C) _) _ _ _
  repeat (any_goals (first
    | assumption
    | with_reducible refine wpAny_loadPart_at hC ?_
    | wp_step))
  refine ⟨rfl, ?_⟩
  refine codeAny_call_builtin_at (Code.quiet_builtin _ (by decide +kernel)) entry_typeCall (wpAny_check_type_call_sub hC ?_)
  refine mk_body F b hC li lb few (codeAny_mono done fun r s' z => ?_)
  rcases r with e | (v | _ | _ | _) <;> exact z
end
end OwnX
end PySem
set_option Elab.async false
set_option linter.all false
set_option maxRecDepth 100000
set_option maxHeartbeats 4000000
/-! the making of own errors: __init__ keeps what it is given -/
namespace PySem
namespace OwnX
open PySem.W PySem.Calls PyProof.Rows PySem.HandSPX
def argOf (n : Str) (p : Pos) : Arg := { arg := n, annotation := none, pos := p }
def iArgs (l : List Arg) : Arguments := { posonlyargs := [], args := l, vararg := none, kwonlyargs := [], kw_defaults := [], kwarg := none, defaults := [] }
def putSt (f p : Str) (q1 q2 q3 q4 : Pos) : Stmt := .Assign [.Attribute (.Name "self" q1) f q2] (.Name p q3) q4
def iScope (l : List Str) : Scope := { kind := .function, names := l.map fun n => (n, .local), isGenerator := false, isCoroutine := false, more := [] }
/-- the def at fI is such an __init__: its parameters and its text -/
def IsInit (K : Frag) (fI : Addr) (qual : Str) (args : Arguments → Prop) (body : List Stmt → Prop) (sc : Scope) : Prop :=
  ∃ (oc : Value) (od : Option Addr) (doc pm : Value) (an : Option Addr) (cdv ct : Value) (osl : Array (Option Value)) (a : Arguments) (b : List Stmt),
    K.lookup fI = some ⟨oc, od, .func (fnOf "__init__" qual a b sc .none .none doc pm an cdv ct), osl⟩ ∧ codeIn K cdv qual = true ∧ args a ∧ body b
theorem size_few (l : List Value) (h : l.length ≤ 5) : l.length ≤ sizeLine := by
  rw [sizeLine_eq]
  exact Nat.le_trans h (by decide)
theorem loadL {M : Model} {s : Shared} {name : Str} {scope : Scope} {L a : Addr} {cd : Value} {m : Str → Option Value} {x : Str} {pos : Pos} {v : Value} {Q : Value → Shared → Prop} {A : Around} {E : Value → Shared → Prop}
    (hn : s.heap.Ns L m) (hv : m x = some v) (h : Q v s) (hk : scope.kind = .function := by rfl) (hl : (envOfC name scope L a cd).kindOf x = some .local := by rfl) (hd : (x == ("__debug__" : Str)) = false := by decide) :
    wpAny M A (eval (.Name x pos) (envOfC name scope L a cd)) Q E s := wpAny_Name (wpAny_loadName_local hk hl hn hv h) hd
/-- what __init__ leaves of a fresh error at x: its own dict, new, says m -/
structure Kept (h h' : Heap) (x C dx t1 : Addr) (m : Str → Option Value) : Prop where
  keep : ∀ b o, b ≠ x → h.get? b = some o → h'.get? b = some o
  obj : h'.get? x = some { cls := .ref C, dict := some dx, data := .fields #[.ref t1, .none, .none, .none, .bool false, .none] }
  dbig : h.objs.size ≤ dx
  dne : dx ≠ x
  ns : h'.Ns1 dx m
/-- a made error -/
structure Made (h h' : Heap) (e C d : Addr) (m : Str → Option Value) : Prop where
  keep : ∀ b o, h.get? b = some o → h'.get? b = some o
  new : h.objs.size ≤ e
  obj : ∃ oe vs, h'.get? e = some oe ∧ oe.cls = .ref C ∧ oe.dict = some d ∧ oe.data = .fields vs ∧ vs[1]? = some .none
  dbig : h.objs.size ≤ d
  dne : d ≠ e
  ns : h'.Ns1 d m
section
variable {prog : Program} {w : World} {A : Around} {E : Value → Shared → Prop} {R : Result → Shared → Prop} {s : Shared} {K : Frag} {C fI : Addr} {bmB : List Value} {newId B initId : String}
/-- the class is called: it is made if its __init__ keeps -/
theorem made_of {bmF : List Value} (FB : ExcBaseFacts B newId initId bmF) (bh : Behind B bmB) (T : OwnTxt K C fI bmB newId) {us : List Value} {m : Str → Option Value} (hus : us.length ≤ 5) (X : K.In s.heap) (hlim : s.heap.NoLimit) (hroom : A.depth + 1 < recursionLimit)
    (hI : ∀ {A' : Around} {R' : Result → Shared → Prop} {s' : Shared} {x t0 : Addr}, K.In s'.heap → s'.heap.NoLimit → s'.heap.get? x = some (excO C t0) → K.lookup x = none → A'.depth < recursionLimit →
      (∀ h' tk dx, Kept s'.heap h' x C dx t0 m → R' (.ok (.ret .none)) { s' with heap := h', toks := tk }) → codeAny (model prog w) A' (.call (.ref fI) ⟨.ref x :: us, []⟩) R' s')
    (hq : ∀ h' tk e d, Made s.heap h' e C d m → R (.ok (.ret (.ref e))) { s with heap := h', toks := tk }) :
    codeAny (model prog w) A (.call (.ref C) ⟨us, []⟩) R s := by
  obtain ⟨nm, q, N, bs, bm, sn, sub, ab, col, dd, k0, k1, k2, k3, k5, hC, hbm⟩ := T.cls
  obtain ⟨hp, g, dr, tk, os⟩ := s
  have k : ∀ b o, hp.get? b = some o → ((hp.push (kdv_tup us)).push (excO C hp.objs.size)).get? b = some o := fun b o e => Heap.get?_push_of_some _ (Heap.get?_push_of_some _ e)
  have hget : ((hp.push (kdv_tup us)).push (excO C hp.objs.size)).get? (hp.objs.size + 1) = some (excO C hp.objs.size) := by heap_get
  have bh' : Behind B bm := ⟨(excTail_contains _ bm hbm).trans bh.has, (excTail_contains _ bm hbm).trans bh.noA, (excTail_contains _ bm hbm).trans bh.noN⟩
  refine mk_call FB bh' (X _ _ hC) (looks_findIn X T.iC) (fun self => bind_fn X self T.tC) (size_few us hus) ?_
  have hnx : K.lookup (hp.objs.size + 1) = none := by
    cases e : K.lookup (hp.objs.size + 1) with
    | none => rfl
    | some o => exact absurd (Nat.lt_of_succ_lt (Heap.lt_size (X _ _ e : hp.get? (hp.objs.size + 1) = some o))) (Nat.lt_irrefl _)
  refine hI (s' := ⟨(hp.push (kdv_tup us)).push (excO C hp.objs.size), g, dr, tk, os⟩) (X.keeps k) (hlim.keeps k) hget hnx ?_ fun h' tk' dx ⟨k', hx, dn, dne, hns⟩ => ?_
  · show A.depth + 1 < recursionLimit
    exact hroom
  · have old : ∀ b o, hp.get? b = some o → h'.get? b = some o := fun b o e => k' b o (Nat.ne_of_lt (Nat.lt_succ_of_lt (Heap.lt_size e))) (k b o e)
    have z : hp.objs.size + 1 + 1 ≤ dx := by
      first
        | (simpa only [Heap.size_push] using dn)
        | exact dn
        | (have q := dn; rw [Heap.size_push, Heap.size_push] at q; exact q)
    exact ⟨rfl, hq h' tk' (hp.objs.size + 1) dx ⟨old, Nat.le_succ _, ⟨_, _, hx, rfl, rfl, rfl, rfl⟩, Nat.le_trans (Nat.le_trans (Nat.le_succ _) (Nat.le_succ _)) z, dne, hns⟩⟩
theorem init_value (SF : StoreFacts B bmB "object.__setattr__" "object") (T : OwnTxt K C fI bmB newId) {qual : Str} (noN : findIn K (.ref C) "value" = some none)
    (fn : IsInit K fI qual (fun a => ∃ p1 p2, a = iArgs [argOf "self" p1, argOf "value" p2]) (fun b => ∃ q1 q2 q3 q4, b = [putSt "value" "value" q1 q2 q3 q4]) (iScope ["self", "value"]))
    {x t0 : Addr} {v : Value} (X : K.In s.heap) (hlim : s.heap.NoLimit) (hx : s.heap.get? x = some (excO C t0)) (hnx : K.lookup x = none) (hroom : A.depth < recursionLimit)
    (hq : ∀ h' tk dx, Kept s.heap h' x C dx t0 (fun y => if y = "value" then some v else none) → R (.ok (.ret .none)) { s with heap := h', toks := tk }) :
    codeAny (model prog w) A (.call (.ref fI) ⟨[.ref x, v], []⟩) R s := by
  obtain ⟨oc, od, doc, pm, an, cdv, ct, osl, a, b, ho, hcd, ⟨p1, p2, rfl⟩, ⟨q1, q2, q3, q4, rfl⟩⟩ := fn
  refine Att.call_fn (binds := [("self", .ref x), ("value", v)]) X hlim ho hcd hroom (BindsTo.of_eq (by first | rfl | with_unfolding_all rfl)) (by first | rfl | decide | with_unfolding_all rfl) (fun s₁ IC => ?_) rfl rfl rfl
  obtain ⟨h₁, tk₁, rfl⟩ := IC.toInCall.same
  have k : ∀ b o, s.heap.get? b = some o → h₁.get? b = some o := IC.toInCall.keep
  have hn := IC.toInCall.ns
  have X₁ : K.In h₁ := X.keeps k
  have hx₁ := k _ _ hx
  show wpAny _ _ (execs _ _) _ _ _
  refine wpAny_execs_cons (plainObj_wpAny_Assign_Attribute ?_)
  refine loadL (v := v) hn (by first | rfl | with_unfolding_all rfl | kernel_rfl) (loadL (v := .ref x) hn (by first | rfl | with_unfolding_all rfl | kernel_rfl) ?_)
  refine set_plain X₁ (ox := excO C t0) (od := none) ⟨hx₁, rfl, rfl, trivial⟩ T.sa ?_
  refine keep_first SF T X₁ hx₁ noN (fun h₃ tk₃ dx k₃ dn dne hx₃ hn₃ => ?_)
  show wpAny _ _ (execs _ _) _ _ _
  have z : s.heap.objs.size < h₁.objs.size := hn.lt
  exact wpAny_execs_nil (hq h₃ tk₃ dx ⟨fun b o hb e => k₃ b o hb (k b o e), hx₃, Nat.le_of_lt (Nat.lt_of_lt_of_le z dn), dne, hn₃⟩)
end
end OwnX
end PySem
set_option Elab.async false
set_option linter.all false
set_option maxRecDepth 100000
set_option maxHeartbeats 4000000
namespace L2
open PySem PySem.Spec PyProof.Rows PySem.OwnX
/-- X(e, ..), X an own error whose __init__ keeps what it is given: its own dict says fs of the values -/
def tMkK (C : Addr) (n : Nat) (fs : List V → List (Str × V)) (ta : TA) : St → Hp → XK → Prop := fun σ H Q => ta σ H fun vs H1 => vs.length = n ∧ ∀ d, H1 d = none → Q (.ref C) (some d) (upd H1 d (.xd (fs vs)))
/-- what the __init__ at fI does with n values -/
def Keeps (P : Program) (w : World) (K : PySem.W.Frag) (C fI : Addr) (n : Nat) (fs : List V → List (Str × V)) : Prop :=
  ∀ (vs : List V) (us : List Value), Vals vs us → vs.length = n → ∃ m : Str → Option Value, (∀ f, RelO ((fs vs).lookup f) (m f)) ∧
    ∀ {A' : Around} {R' : Result → Shared → Prop} {s' : Shared} {x t0 : Addr}, K.In s'.heap → s'.heap.NoLimit → s'.heap.get? x = some (HandSPX.excO C t0) → K.lookup x = none → A'.depth < recursionLimit →
      (∀ h' tk dx, Kept s'.heap h' x C dx t0 m → R' (.ok (.ret .none)) { s' with heap := h', toks := tk }) → codeAny (model P w) A' (.call (.ref fI) ⟨.ref x :: us, []⟩) R' s'
section
variable {X : Cx} {C fI : Addr} {B newId initId : String} {bmB : List Value}
theorem pmk_keep {x : Str} {e : Expr} {es : List Expr} {ta : TA} {p pos : Pos} {k n : Nat} {fs : List V → List (Str × V)} {bmF : List Value} (FB : ExcBaseFacts B newId initId bmF) (bh : Behind B bmB) (T : OwnTxt X.K C fI bmB newId) (gC : X.mg x = some (.ref C)) (hn : n ≤ 5)
    (hI : Keeps X.prog X.w X.K C fI n fs) (hr : Room k X.A) (ha : PA X (e :: es) ta) (hg : Gl X x := by rfl) (hdb : (x == ("__debug__" : Str)) = false := by decide)
    (he : starEach (e :: es) X.env = (false, eval e X.env) :: starEach es X.env := by rfl) (hpl : (backTo pos (starEach es X.env)).any (·.1) = false := by rfl) :
    PMk X (.Call (.Name x p) (e :: es) [] pos) (tMkK C n fs ta) := by
  intro pins s σ H Q I h
  refine wpAny_Call_Name_kw (ld_glob I hg gC ?_ hdb)
  refine PySem.W.callWith_K (h₀ := X.base) I.ok.mod.kin T.kC (thn (ha.run pos pins s σ H _ I h) fun us s1 hh => ?_) he hpl
  obtain ⟨vs, H1, I1, r1, ln, q1⟩ := hh
  refine ⟨I1.kIn, ?_⟩
  show wpAny _ _ (call (.ref C) us) _ _ _
  obtain ⟨m, hrel, hI⟩ := hI vs us r1 ln
  have hlim := I1.nolimit
  have hus : us.length ≤ 5 := by rw [← r1.length, ln]; exact hn
  obtain ⟨hp, g, dr, tk, os⟩ := s1
  refine wpAny_call (made_of FB bh T (m := m) hus I1.kIn hlim (by have := hr.dp; omega) hI fun h' tk' e' d M => ?_)
  show MkP X pins σ Q (.ref e') ⟨h', g, dr, tk', os⟩
  obtain ⟨oe, fv, hoe, hc, hd, hdat, h1⟩ := M.obj
  have hns := M.ns
  obtain ⟨G', g1, g2⟩ := restrict h' fun b => decide (b ≠ e')
  have gk : ∀ b, b ≠ e' → G'.get? b = h'.get? b := fun b hb => g1 b (decide_eq_true hb)
  have ge : G'.get? e' = none := g2 e' (by simp)
  have old : ∀ b o, hp.get? b = some o → G'.get? b = some o := fun b o q => (gk b (Nat.ne_of_lt (Nat.lt_of_lt_of_le (Heap.lt_size q) M.new))).trans (M.keep b o q)
  have ob : ObjOk X.prog X.w (upd H1 d (.xd (fs vs))) G' d (.xd (fs vs)) := ⟨m, hns.at (fun o q => (gk d M.dne).trans q), hrel⟩
  have J : Inv X pins σ (upd H1 d (.xd (fs vs))) ⟨G', g, dr, tk', os⟩ := I1.laid (t' := tk') old M.dbig ob
  refine ⟨e', oe, fv, ⟨G', g, dr, tk', os⟩, _, .ref C, some d, rfl, J, fun b o q => ?_, ge, hoe, ⟨hc, hd⟩, hdat, h1, ?_, rfl, I1.bare, raises_own T.exC T.tyC, q1 d (I1.hok.fresh M.dbig)⟩
  · by_cases hb : b = e'
    · have q' : G'.get? b = some o := q
      rw [hb, ge] at q'
      cases q'
    · exact (gk b hb).symm.trans q
  · rw [upd_ne (Ne.symm M.dne)]
    exact I1.hok.fresh M.new
/-- low.f, low the error that the suite holds (at a; its class cls, its dict d) -/
def tByE (C : Addr) (f : Str) (a : Addr) (cls : Value) (d : Option Addr) (te : TE) : TE := fun σ H Q => te σ H fun x H1 => x = .ref a ∧ cls = .ref C ∧ ∃ (dd : Addr) (fs : List (Str × V)) (v : V), d = some dd ∧ H1 dd = some (.xd fs) ∧ fs.lookup f = some v ∧ Q v H1
theorem pe_byE {a : Addr} {oe : Obj} {cls : Value} {d : Option Addr} {pn : List (Addr × Obj)} {e : Expr} {te : TE} {f : Str} {pos : Pos} (T : OwnTxt X.K C fI bmB newId) (noF : PySem.W.findIn X.K (.ref C) f = some none) (hz : Zc cls d oe) (hf : ∃ vs, oe.data = .fields vs)
    (he : PE (X.suite a ((a, oe) :: pn)) e te) (hcp : PySem.W.copiedNames.contains f = false := by decide +kernel) (hb : attributeBase e f X.env (eval e X.env) = eval e X.env := by rfl) :
    PE (X.suite a ((a, oe) :: pn)) (.Attribute e f pos) (tByE C f a cls d te) := by
  refine ⟨fun pins s σ H Q I h => ?_⟩
  refine attr_of hb (thn (he.run pins s σ H _ I h) fun u s1 hh => ?_)
  obtain ⟨x, H1, I1, rx, ex, ec, dd, fs, v, ed, ea, lf, q⟩ := hh
  subst ex
  obtain rfl : u = Value.ref a := rx
  subst ec
  subst ed
  obtain ⟨ha, _⟩ := I1.pin (a, oe) (List.mem_append_left _ List.mem_cons_self)
  obtain ⟨vs, hd⟩ := hf
  have hx : ObjOk X.prog X.w H1 s1.heap dd (.xd fs) := I1.hok dd _ ea
  obtain ⟨mA, hns, hr⟩ := hx
  obtain ⟨od, ho, hl⟩ := lookIn_ns hns
  obtain ⟨u, hu, ru⟩ := RelO.some_of (v := v) (o := mA f) (by rw [← lf]; exact hr f)
  have J : PySem.W.InstAt s1.heap a oe C (some od) := ⟨ha, hz.1, by unfold PySem.W.notCls; rw [hd] <;> rfl, by rw [hz.2]; exact ho⟩
  exact HandSPX.exc_get I1.kIn J T.ga T.gg T.exC (PySem.W.findObj_own T.hdC noF rfl (by rw [hl, hu])) (handed_of ru) ⟨v, H1, I1.tok _, ru, q⟩
end
end L2
set_option Elab.async false
set_option linter.all false
set_option maxRecDepth 100000
set_option maxHeartbeats 2000000
namespace Q
open PySem L2 PySem.Spec PyProof.Rows PySem.Calls PySem.OwnX Evl
abbrev sIsInt : Stmt := top 4
abbrev sIsName : Stmt := top 5
abbrev sIsFr : Stmt := top 6
abbrev sLow2 : Stmt := top 14
/-- a fraction -/
structure R2 where
  t : Int
  b : Int
def R2.vs (r : R2) : List V := [.int r.t, .int r.b]
def gcI (t b : Int) : Int := ((Nat.gcd t.natAbs b.natAbs : Nat) : Int)
structure Just (r : R2) : Prop where
  b : 1 ≤ r.b
  g : gcI r.t r.b = 1
structure BdR (k : Nat) (r : R2) : Prop where
  t : Bd k r.t
  b : Bd k r.b
def lowR (t b : Int) : R2 := if b < 0 then ⟨(-t) / gcI (-t) (-b), (-b) / gcI (-t) (-b)⟩ else ⟨t / gcI t b, b / gcI t b⟩
/-- a plain value that is asked whether it is an integer -/
inductive Sc (H : Hp) : V → Bool → Prop where
  | int (i : Int) : Sc H (.int i) true
  | bl (b : Bool) : Sc H (.bl b) false
  | non : Sc H .non false
  | str (z : Str) : Sc H (.str z) false
  | tup {a : Addr} {xs : List V} (h : H a = some (.tup xs)) : Sc H (.ref a) false
  | lst {a : Addr} {xs : List V} (h : H a = some (.lst xs)) : Sc H (.ref a) false
theorem Sc.mono {H H' : Hp} {v : V} {b : Bool} (e : Ex H H') (h : Sc H v b) : Sc H' v b := by
  cases h with
  | int i => exact .int i
  | bl b => exact .bl b
  | non => exact .non
  | str z => exact .str z
  | tup h => exact .tup (e _ _ h)
  | lst h => exact .lst (e _ _ h)
/-- what is no fraction -/
inductive NoFr (H : Hp) : V → Prop where
  | int (i : Int) : NoFr H (.int i)
  | bl (b : Bool) : NoFr H (.bl b)
  | non : NoFr H .non
  | str (z : Str) : NoFr H (.str z)
  | lst {a : Addr} {xs : List V} (h : H a = some (.lst xs)) : NoFr H (.ref a)
  | dct {a : Addr} {ks : List (Key × V)} (h : H a = some (.dK ks)) : NoFr H (.ref a)
  | tup {a : Addr} {xs : List V} (h : H a = some (.tup xs)) (hl : xs.length ≠ 2) : NoFr H (.ref a)
  | odd {a : Addr} {u v : V} {b c : Bool} (h : H a = some (.tup [u, v])) (hu : Sc H u b) (hv : Sc H v c) (hn : (b && c) = false) : NoFr H (.ref a)
  | two {a : Addr} {t b : Int} (h : H a = some (.tup [.int t, .int b])) (hn : ¬ (1 ≤ b ∧ gcI t b = 1)) : NoFr H (.ref a)
theorem NoFr.mono {H H' : Hp} {v : V} (e : Ex H H') (h : NoFr H v) : NoFr H' v := by
  cases h with
  | int i => exact .int i
  | bl b => exact .bl b
  | non => exact .non
  | str z => exact .str z
  | lst h => exact .lst (e _ _ h)
  | dct h => exact .dct (e _ _ h)
  | tup h hl => exact .tup (e _ _ h) hl
  | odd h hu hv hn => exact .odd (e _ _ h) (hu.mono e) (hv.mono e) hn
  | two h hn => exact .two (e _ _ h) hn
/-- a fraction in memory -/
structure FrA (H : Hp) (v : V) (r : R2) : Prop where
  at_ : ∃ a, v = .ref a ∧ H a = some (.tup r.vs)
  j : Just r
  b : BdR 2000 r
theorem FrA.mono {H H' : Hp} {v : V} {r : R2} (e : Ex H H') (h : FrA H v r) : FrA H' v r := by
  obtain ⟨⟨a, rfl, ha⟩, j, b⟩ := h
  exact ⟨⟨a, rfl, e _ _ ha⟩, j, b⟩
def spIsInt : Sp := fun vs H Q _ => ∃ (v : V) (b : Bool), vs = [v] ∧ Sc H v b ∧ Q (.bl b) H
def spIsFr : Sp := fun vs H Q _ => ∃ v : V, vs = [v] ∧ ((NoFr H v ∧ Q (.bl false) H) ∨ ∃ r, FrA H v r ∧ Q (.bl true) H)
def spLow2 : Sp := fun vs H Q _ => ∃ t b : Int, vs = [.int t, .int b] ∧ b ≠ 0 ∧ Bd 6000 b ∧ ∀ l H', H l = none → Same H H' → H' l = some (.tup (lowR t b).vs) → Q (.ref l) H'
section
variable {P : Program} {w : World} {K : PySem.W.Frag} {mg : Str → Option Value} {base : Heap}
theorem scIsInt : FnScope ["value"] ["value"] (defScope sIsInt) := ⟨rfl, rfl, rfl, by decide +kernel, rfl, by decide +kernel, by decide +kernel⟩
theorem ok_isint {f : Addr} {fd : FuncData} (F : Fun K "is_integer" "is_integer" sIsInt f fd) (T : TI mg) : FnOk P w K mg base CX0 1 f fd ["value"] spIsInt := by
  refine F.ok scIsInt (fun vs H Q E h => ?_) (fun cdv A outer s H vs Q E hr h => ?_)
  · obtain ⟨v, b, rfl, _⟩ := h
    rfl
  · obtain ⟨v, b, rfl, hv, k⟩ := h
    refine ⟨_, pss_one (ps_ret (pe_and (pe_callB call_isi (by rfl) T.isi PyProof.Rows.boot_isinstance (pa_cons (pv 0) (pa_cons (pe_bltn (v := .ty "int") (by rfl) T.int (by decide +kernel) rfl) pa_nil))) (pe_one (pe_not (pe_callB call_isi (by rfl) T.isi PyProof.Rows.boot_isinstance (pa_cons (pv 0) (pa_cons (pe_bltn (v := .ty "bool") (by rfl) T.bool (by decide +kernel) rfl) pa_nil))))))), ?_⟩
    cases hv with
    | int i => exact st_ret (val_and (val_isi (b := true) (val_var rfl) (.base (.int i)) (kit_ty (by decide +kernel))) fun _ => val_not (val_isi (b := false) (val_var rfl) (.base (.int i)) (kit_ty (by decide +kernel)))) k
    | bl c => exact st_ret (val_and (val_isi (b := true) (val_var rfl) (.base (.bl c)) (kit_ty (by decide +kernel))) fun _ => val_not (val_isi (b := true) (val_var rfl) (.base (.bl c)) (kit_ty (by decide +kernel)))) k
    | non => exact st_ret (val_and (c := false) (d := false) (val_isi (b := false) (val_var rfl) (.base .non) (kit_ty (by decide +kernel))) fun h => absurd h (by decide)) k
    | str z => exact st_ret (val_and (c := false) (d := false) (val_isi (b := false) (val_var rfl) (.base (.str z)) (kit_ty (by decide +kernel))) fun h => absurd h (by decide)) k
    | tup ha => exact st_ret (val_and (c := false) (d := false) (val_isi (b := false) (val_var rfl) (.base (.tup ha)) (kit_ty (by decide +kernel))) fun h => absurd h (by decide)) k
    | lst ha => exact st_ret (val_and (c := false) (d := false) (val_isi (b := false) (val_var rfl) (.base (.lst ha)) (kit_ty (by decide +kernel))) fun h => absurd h (by decide)) k
theorem gc_ne {t b : Int} (h : b ≠ 0) : gcI t b ≠ 0 := by
  unfold gcI
  have : 0 < Nat.gcd t.natAbs b.natAbs := Nat.gcd_pos_of_pos_right _ (Int.natAbs_pos.mpr h)
  omega
theorem gc_log {t b : Int} (h : b ≠ 0) (bb : Bd 6000 b) : (gcI t b).natAbs.log2 < 9000 := (bb.of_le (by
  unfold gcI
  rw [Int.natAbs_natCast]
  exact Nat.le_of_dvd (Int.natAbs_pos.mpr h) (Nat.gcd_dvd_right _ _))).log (by decide)
theorem scLow2 : FnScope ["top", "bottom", "shared"] ["top", "bottom"] (defScope sLow2) := ⟨rfl, rfl, rfl, by decide +kernel, rfl, by decide +kernel, by decide +kernel⟩
theorem ok_low2 {f : Addr} {fd : FuncData} (F : Fun K "_lowest" "_lowest" sLow2 f fd) (T : TM mg) : FnOk P w K mg base CX0 1 f fd ["top", "bottom"] spLow2 := by
  refine F.ok scLow2 (fun vs H Q E h => ?_) (fun cdv A outer s H vs Q E hr h => ?_)
  · obtain ⟨t, b, rfl, _⟩ := h
    rfl
  · obtain ⟨t, b, rfl, hb, bb, k⟩ := h
    refine ⟨_, (pss_cons (ps_if (pt_cmpR op_lt (pv 1) pe_int (nomark _)) (pss_one (ps_par (i := 0) (j := 1) (by rfl) scLow2.nd rfl rfl (by decide) rfl rfl (pa_cons (pe_un un_neg (pv 0)) (pa_cons (pe_un un_neg (pv 1)) pa_nil)) (by rfl))) pss_nil)
      (pss_cons (ps_set (i := 2) scLow2.nd rfl (Or.inl rfl) (pe_callBfun cr_gcd (by rfl) T.gcd (pa_cons (pv 0) (pa_cons (pv 1) pa_nil))))
      (pss_one (ps_ret (pe_tup (pa_cons (pe_op op_dv (pv 0) (pv 2)) (pa_cons (pe_op op_dv (pv 1) (pv 2)) pa_nil))))))), ?_⟩
    have nn : -b ≠ 0 := by omega
    by_cases c : b < 0
    · refine st_seq (st_yes (ans_i (b := true) (val_var rfl) val_c (congrArg V.bl (decide_eq_true c))) (st_par (val_neg (val_var rfl)) (val_neg (val_var rfl)) ?_))
      refine st_seq (st_set (v := .int (gcI (-t) (-b))) (val_cb (val_pair (val_var rfl) (val_var rfl)) fun Q q => ⟨_, _, rfl, q⟩) ?_)
      refine ret_h (vh_tup (val_pair (val_dv (val_var rfl) (val_var rfl) (gc_ne nn) (gc_log nn bb.neg)) (val_dv (val_var rfl) (val_var rfl) (gc_ne nn) (gc_log nn bb.neg))) (by show 2 ≤ sizeLine; decide)
        (PV := fun v H' => ∃ l, v = .ref l ∧ H l = none ∧ H' = upd H l (.tup (lowR t b).vs)) fun l hl => ⟨l, rfl, hl, ?_⟩) ?_
      · unfold lowR
        rw [if_pos c, show (-t).fdiv (gcI (-t) (-b)) = (-t) / gcI (-t) (-b) from Int.fdiv_eq_ediv_of_dvd (PySem.W.mg_dvd_left _ _), show (-b).fdiv (gcI (-t) (-b)) = (-b) / gcI (-t) (-b) from Int.fdiv_eq_ediv_of_dvd (PySem.W.mg_dvd_right _ _)]
        rfl
      · rintro v H' ⟨l, rfl, hl, rfl⟩
        exact k l _ hl (same_new hl) upd_same
    · refine st_seq (st_no (ans_i (b := false) (val_var rfl) val_c (congrArg V.bl (decide_eq_false c))) (st_next ?_))
      refine st_seq (st_set (v := .int (gcI t b)) (val_cb (val_pair (val_var rfl) (val_var rfl)) fun Q q => ⟨_, _, rfl, q⟩) ?_)
      refine ret_h (vh_tup (val_pair (val_dv (val_var rfl) (val_var rfl) (gc_ne hb) (gc_log hb bb)) (val_dv (val_var rfl) (val_var rfl) (gc_ne hb) (gc_log hb bb))) (by show 2 ≤ sizeLine; decide)
        (PV := fun v H' => ∃ l, v = .ref l ∧ H l = none ∧ H' = upd H l (.tup (lowR t b).vs)) fun l hl => ⟨l, rfl, hl, ?_⟩) ?_
      · unfold lowR
        rw [if_neg c, show t.fdiv (gcI t b) = t / gcI t b from Int.fdiv_eq_ediv_of_dvd (PySem.W.mg_dvd_left _ _), show b.fdiv (gcI t b) = b / gcI t b from Int.fdiv_eq_ediv_of_dvd (PySem.W.mg_dvd_right _ _)]
        rfl
      · rintro v H' ⟨l, rfl, hl, rfl⟩
        exact k l _ hl (same_new hl) upd_same
theorem scIsFr : FnScope ["value", "top", "bottom"] ["value"] (defScope sIsFr) := ⟨rfl, rfl, rfl, by decide +kernel, rfl, by decide +kernel, by decide +kernel⟩
theorem ok_isfr {f : Addr} {fd : FuncData} (F : Fun K "is_fraction" "is_fraction" sIsFr f fd) (T : TI mg) (M : TM mg) (CI : Cl P w K mg base 1 "is_integer" spIsInt) : FnOk P w K mg base CX0 2 f fd ["value"] spIsFr := by
  refine F.ok scIsFr (fun vs H Q E h => ?_) (fun cdv A outer s H vs Q E hr h => ?_)
  · obtain ⟨v, rfl, _⟩ := h
    rfl
  · obtain ⟨v, rfl, k⟩ := h
    refine ⟨_, (pss_cons (ps_if (pw_or (pt_not (pt_val (pe_callB call_isi (by rfl) T.isi PyProof.Rows.boot_isinstance (pa_cons (pv 0) (pa_cons (pe_bltn (v := .ty "tuple") (by rfl) T.tuple (by decide +kernel) rfl) pa_nil)))))
        (pw_or1 (pt_cmpR op_ne (pe_callB call_len_seq (by rfl) T.len PySem.boot_len (pa_cons (pv 0) pa_nil)) pe_int (nomark _)))).pt (pss_one (ps_ret pe_bl)) pss_nil)
      (pss_cons (ps_asg (pv 0) (pg_tup (by rfl) (pgs_cons (pg_name (i := 1) scIsFr.nd rfl (.inl rfl)) (pgs_cons (pg_name (i := 2) scIsFr.nd rfl (.inl rfl)) pgs_nil))))
      (pss_cons (ps_if (pw_or (pt_not (pt_val (pe_cl CI hr (by decide) (by rfl) (pa_cons (pv 1) pa_nil)))) (pw_or1 (pt_not (pt_val (pe_cl CI hr (by decide) (by rfl) (pa_cons (pv 2) pa_nil)))))).pt (pss_one (ps_ret pe_bl)) pss_nil)
      (pss_one (ps_ret (pe_and (pe_cmpR op_ge (pv 2) pe_int (nomark _)) (pe_one (pe_cmpR op_eq (pe_callBfun cr_gcd (by rfl) M.gcd (pa_cons (pv 1) (pa_cons (pv 2) pa_nil))) pe_int (nomark _))))))))), ?_⟩
    have vi : ∀ {σ : L2.St} {i : Nat} {u : V} {b : Bool}, σ[i]? = some (some u) → Sc H u b → Ans (tNot (tB (tCall spIsInt [] E0 (tCons (tVar i) tNil)))) σ H (!b) := fun hs hu =>
      ans_not (ans_val (val_call (va_cons (val_var hs) va_nil) fun Q q => ⟨_, _, rfl, hu, q⟩))
    have vl : ∀ {a : Addr} {xs : List V}, H a = some (.tup xs) → Val (tCB (fun xs H Q => ∃ p ys, xs = [.ref p] ∧ (SqL K H p ys ∨ SqT K H p ys) ∧ Q (.int ys.length) H) (tCons (tVar 0) tNil)) (L2.start ["value", "top", "bottom"] [.ref a]) H (.int xs.length) := fun ha =>
      val_cb (va_cons (val_var rfl) va_nil) fun Q q => ⟨_, _, rfl, .inr (SqT.of ha), q⟩
    have fin : ∀ {a : Addr} (t b : Int), H a = some (.tup [.int t, .int b]) → Val (tAndV (tOp (rI0 fun i j => .bl (decide (j ≤ i))) (tVar 2) (tC (.int 1))) (tOp rEq (tCB rGcd (tCons (tVar 1) (tCons (tVar 2) tNil))) (tC (.int 1)))) [some (.ref a), some (.int t), some (.int b)] H (.bl (decide (1 ≤ b) && decide (gcI t b = 1))) := fun t b ha =>
      val_and (val_op (val_var rfl) val_c fun Q q => ⟨_, _, rfl, rfl, q⟩) fun _ => val_op (z := .bl (decide (gcI t b = 1))) (val_cb (v := .int (gcI t b)) (val_pair (val_var rfl) (val_var rfl)) fun Q q => ⟨_, _, rfl, q⟩) val_c fun Q q => ⟨rfl, by
        have e : decide (V.int (gcI t b) = V.int 1) = decide (gcI t b = 1) := decide_eq_decide.mpr ⟨fun z => by injection z, fun z => by rw [z]⟩
        rw [e]
        exact q⟩
    rcases k with ⟨hv, k⟩ | ⟨r, hv, k⟩
    · cases hv with
      | int i => exact st_seq (st_yes (ans_or1 (ans_not (b := false) (ans_val (val_isi (val_var rfl) (.base (.int i)) (kit_ty (by decide +kernel)))))) (st_ret val_c k))
      | bl b => exact st_seq (st_yes (ans_or1 (ans_not (b := false) (ans_val (val_isi (val_var rfl) (.base (.bl b)) (kit_ty (by decide +kernel)))))) (st_ret val_c k))
      | non => exact st_seq (st_yes (ans_or1 (ans_not (b := false) (ans_val (val_isi (val_var rfl) (.base .non) (kit_ty (by decide +kernel)))))) (st_ret val_c k))
      | str z => exact st_seq (st_yes (ans_or1 (ans_not (b := false) (ans_val (val_isi (val_var rfl) (.base (.str z)) (kit_ty (by decide +kernel)))))) (st_ret val_c k))
      | lst ha => exact st_seq (st_yes (ans_or1 (ans_not (b := false) (ans_val (val_isi (val_var rfl) (.base (.lst ha)) (kit_ty (by decide +kernel)))))) (st_ret val_c k))
      | dct ha => exact st_seq (st_yes (ans_or1 (ans_not (b := false) (ans_val (val_isi (val_var rfl) (.base (.dK ha)) (kit_ty (by decide +kernel)))))) (st_ret val_c k))
      | tup ha hl =>
        refine st_seq (st_yes (ans_or (ans_not (b := true) (ans_val (val_isi (val_var rfl) (.base (.tup ha)) (kit_ty (by decide +kernel))))) (ans_ne (b := true) (vl ha) val_c scal_int ?_)) (st_ret val_c k))
        rw [decide_eq_false fun h => hl (by
          injection h with h
          omega)]
        rfl
      | @odd a u v b c ha hu hv hn =>
        refine st_seq (st_no (ans_or (ans_not (b := true) (ans_val (val_isi (val_var rfl) (.base (.tup ha)) (kit_ty (by decide +kernel))))) (ans_ne (b := false) (vl ha) val_c scal_int rfl)) (st_next ?_))
        refine ⟨_, rfl, a, _, rfl, SqT.of ha, rfl, _, _, rfl, _, _, rfl, rfl, ?_⟩
        have z1 := vi (σ := [some (.ref a), some u, some v]) (i := 1) rfl hu
        have z2 := vi (σ := [some (.ref a), some u, some v]) (i := 2) rfl hv
        have za : Ans (tOr (tNot (tB (tCall spIsInt [] E0 (tCons (tVar 1) tNil)))) (tNot (tB (tCall spIsInt [] E0 (tCons (tVar 2) tNil))))) [some (.ref a), some u, some v] H true := by
          cases b with
          | false => exact ans_or1 z1
          | true =>
            cases c with
            | false => exact ans_or z1 z2
            | true => cases hn
        exact st_seq (st_yes za (st_ret val_c k))
      | @two a t b ha hn =>
        refine st_seq (st_no (ans_or (ans_not (b := true) (ans_val (val_isi (val_var rfl) (.base (.tup ha)) (kit_ty (by decide +kernel))))) (ans_ne (b := false) (vl ha) val_c scal_int rfl)) (st_next ?_))
        refine ⟨_, rfl, a, _, rfl, SqT.of ha, rfl, _, _, rfl, _, _, rfl, rfl, ?_⟩
        refine st_seq (st_no (ans_or (vi rfl (.int _)) (vi rfl (.int _))) (st_next ?_))
        refine st_ret (fin t b ha) ?_
        have e : (decide (1 ≤ b) && decide (gcI t b = 1)) = false := by
          by_cases h1 : 1 ≤ b
          · rw [decide_eq_true h1, decide_eq_false fun h2 => hn ⟨h1, h2⟩]
            rfl
          · rw [decide_eq_false h1]
            rfl
        rw [e]
        exact k
    · obtain ⟨⟨a, rfl, ha⟩, j, _⟩ := hv
      refine st_seq (st_no (ans_or (ans_not (b := true) (ans_val (val_isi (val_var rfl) (.base (.tup ha)) (kit_ty (by decide +kernel))))) (ans_ne (b := false) (vl ha) val_c scal_int rfl)) (st_next ?_))
      refine ⟨_, rfl, a, _, rfl, SqT.of ha, rfl, _, _, rfl, _, _, rfl, rfl, ?_⟩
      refine st_seq (st_no (ans_or (vi rfl (.int _)) (vi rfl (.int _))) (st_next ?_))
      refine st_ret (fin r.t r.b ha) ?_
      rw [decide_eq_true j.b, decide_eq_true j.g]
      exact k
end
end Q
set_option Elab.async false
set_option linter.all false
set_option maxRecDepth 100000
set_option maxHeartbeats 2000000
namespace Q
open PySem L2 PySem.Spec PyProof.Rows PySem.Calls PySem.OwnX Evl
abbrev sCheck : Stmt := top 15
abbrev sBoth : Stmt := top 16
abbrev sLowOf : Stmt := top 7
abbrev sPlus : Stmt := top 8
abbrev sMinus : Stmt := top 9
abbrev sTimes : Stmt := top 10
abbrev sLess : Stmt := top 11
abbrev sBelow : Stmt := top 12
abbrev sAbove : Stmt := top 13
def ixTail : List Value := [.type "IndexError", .type "LookupError", .type "Exception", .type "BaseException", .type "object"]
def fldV (vs : List V) : List (Str × V) := match vs with | [v] => [("value", v)] | _ => []
/-- the error's class -/
structure NoN (P : Program) (w : World) (K : PySem.W.Frag) (mg : Str → Option Value) (C : Addr) : Prop where
  g : mg "InvalidNumber" = some (.ref C)
  t : ∃ fI newId, OwnTxt K C fI ixTail newId ∧ (∃ initId bmF, ExcBaseFacts "IndexError" newId initId bmF) ∧ Behind "IndexError" ixTail ∧ Keeps P w K C fI 1 fldV
  fr : PySem.W.findIn K (.ref C) "value" = some none
  me : PySem.W.exmOne K (.ref C) (.ref C) = some true
/-- v is refused -/
def Rz (C : Addr) (E : XK) (H : Hp) (v : V) : Prop := ∀ d, H d = none → E (.ref C) (some d) (upd H d (.xd [("value", v)]))
def spCheck (C : Addr) : Sp := fun vs H Q E => ∃ v, vs = [v] ∧ ((NoFr H v ∧ Rz C E H v) ∨ ∃ r, FrA H v r ∧ Q .non H)
def spBoth (C : Addr) : Sp := fun vs H Q E => ∃ v u, vs = [v, u] ∧ ((NoFr H v ∧ Rz C E H v) ∨ (∃ r, FrA H v r ∧ NoFr H u ∧ Rz C E H u) ∨ (∃ r q, FrA H v r ∧ FrA H u q ∧ Q .non H))
def spBin (C : Addr) (nu de : R2 → R2 → Int) : Sp := fun vs H Q E => ∃ v u, vs = [v, u] ∧ ((NoFr H v ∧ Rz C E H v) ∨ (∃ r, FrA H v r ∧ NoFr H u ∧ Rz C E H u) ∨
  (∃ r q, FrA H v r ∧ FrA H u q ∧ ∀ l H', H l = none → Same H H' → H' l = some (.tup (lowR (nu r q) (de r q)).vs) → Q (.ref l) H'))
def nuP (r q : R2) : Int := r.t * q.b + q.t * r.b
def nuM (r q : R2) : Int := r.t * q.b - q.t * r.b
def nuT (r q : R2) : Int := r.t * q.t
def deB (r q : R2) : Int := r.b * q.b
theorem de_ne {r q : R2} (jr : Just r) (jq : Just q) : deB r q ≠ 0 := Int.mul_ne_zero (by have := jr.b; omega) (by have := jq.b; omega)
def spLess (C : Addr) : Sp := fun vs H Q E => ∃ v u, vs = [v, u] ∧ ((NoFr H v ∧ Rz C E H v) ∨ (∃ r, FrA H v r ∧ NoFr H u ∧ Rz C E H u) ∨ (∃ r q, FrA H v r ∧ FrA H u q ∧ Q (.bl (decide (r.t * q.b < q.t * r.b))) H))
def spWhole (C : Addr) (f : R2 → Int) : Sp := fun vs H Q E => ∃ v, vs = [v] ∧ ((NoFr H v ∧ Rz C E H v) ∨ ∃ r, FrA H v r ∧ Q (.int (f r)) H)
def belowR (r : R2) : Int := r.t.fdiv r.b
def aboveR (r : R2) : Int := -((-r.t).fdiv r.b)
def spLowOf (C : Addr) : Sp := fun vs H Q E => ∃ v u, vs = [v, u] ∧ ((Sc H v false ∧ Rz C E H v) ∨ (∃ t, v = .int t ∧ ((Sc H u false ∧ Rz C E H u) ∨ (u = .int 0 ∧ Rz C E H u) ∨
  ∃ b, u = .int b ∧ b ≠ 0 ∧ Bd 6000 b ∧ ∀ l H', H l = none → Same H H' → H' l = some (.tup (lowR t b).vs) → Q (.ref l) H')))
section
variable {K : PySem.W.Frag} {σ : L2.St} {H : Hp} {k i : Nat} {a : Addr} {r : R2}
theorem vt (h : σ[i]? = some (some (.ref a)) := by rfl) (hH : H a = some (.tup r.vs)) (b : BdR k r) : VI k (tOp (rIxT K) (tVar i) (tC (.int 0))) σ H r.t := vi_ix h (SqT.of hH) rfl b.t
theorem vb (h : σ[i]? = some (some (.ref a)) := by rfl) (hH : H a = some (.tup r.vs)) (b : BdR k r) : VI k (tOp (rIxT K) (tVar i) (tC (.int 1))) σ H r.b := vi_ix h (SqT.of hH) rfl b.b
end
section
variable {P : Program} {w : World} {K : PySem.W.Frag} {mg : Str → Option Value} {base : Heap} {C : Addr}
theorem scCheck : FnScope ["value"] ["value"] (defScope sCheck) := ⟨rfl, rfl, rfl, by decide +kernel, rfl, by decide +kernel, by decide +kernel⟩
theorem ok_check {f : Addr} {fd : FuncData} (F : Fun K "_check" "_check" sCheck f fd) (N : NoN P w K mg C) (CF : Cl P w K mg base 2 "is_fraction" spIsFr) : FnOk P w K mg base (L2.CX P w) 3 f fd ["value"] (spCheck C) := by
  obtain ⟨fI, newId, t, ⟨q0, m0, b0⟩, h0, k0⟩ := N.t
  refine F.okX scCheck (fun vs H Q E h => ?_) (fun cdv A outer s H vs Q E hr h => ?_)
  · obtain ⟨v, rfl, _⟩ := h
    rfl
  · obtain ⟨v, rfl, k⟩ := h
    refine ⟨_, pss_one (ps_if (pt_not (pt_val (pe_cl CF hr (by decide) (by rfl) (pa_cons (pv 0) pa_nil)))) (pss_one (ps_raise (W := fun cls d _ H => E cls d H) rfl (takes_of rfl rfl rfl rfl) (pmk_keep b0 h0 t N.g (by decide) k0 hr (by exact (pa_cons (pv 0) pa_nil))))) pss_nil), ?_⟩
    rcases k with ⟨hv, k⟩ | ⟨r, hv, k⟩
    · refine st_yes (ans_not (b := false) (ans_val (val_call (va_cons (val_var rfl) va_nil) fun Q q => ⟨_, rfl, .inl ⟨hv, q⟩⟩))) ?_
      exact ⟨_, rfl, rfl, k⟩
    · exact st_no (ans_not (b := true) (ans_val (val_call (va_cons (val_var rfl) va_nil) fun Q q => ⟨_, rfl, .inr ⟨r, hv, q⟩⟩))) (st_next k)
theorem scBoth : FnScope ["one", "other"] ["one", "other"] (defScope sBoth) := ⟨rfl, rfl, rfl, by decide +kernel, rfl, by decide +kernel, by decide +kernel⟩
theorem ok_both {f : Addr} {fd : FuncData} (F : Fun K "_check_both" "_check_both" sBoth f fd) (CC : ClX P w K mg base 3 "_check" (spCheck C)) : FnOk P w K mg base (L2.CX P w) 4 f fd ["one", "other"] (spBoth C) := by
  refine F.okX scBoth (fun vs H Q E h => ?_) (fun cdv A outer s H vs Q E hr h => ?_)
  · obtain ⟨v, u, rfl, _⟩ := h
    rfl
  · obtain ⟨v, u, rfl, k⟩ := h
    refine ⟨_, pss_cons (ps_expr (pe_clS (W := fun cls d _ H => E cls d H) CC hr (by decide) (by rfl) (takes_of rfl rfl rfl rfl) (pa_cons (pv 0) pa_nil))) (pss_one (ps_expr (pe_clS (W := fun cls d _ H => E cls d H) CC hr (by decide) (by rfl) (takes_of rfl rfl rfl rfl) (pa_cons (pv 1) pa_nil)))), ?_⟩
    rcases k with ⟨hv, k⟩ | ⟨r, hv, hu, k⟩ | ⟨r, q, hv, hu, k⟩
    · exact ⟨_, rfl, _, rfl, .inl ⟨hv, k⟩⟩
    · exact ⟨_, rfl, _, rfl, .inr ⟨r, hv, _, rfl, _, rfl, .inl ⟨hu, k⟩⟩⟩
    · exact ⟨_, rfl, _, rfl, .inr ⟨r, hv, _, rfl, _, rfl, .inr ⟨q, hu, k⟩⟩⟩
theorem scPlus : FnScope ["one", "other"] ["one", "other"] (defScope sPlus) := ⟨rfl, rfl, rfl, by decide +kernel, rfl, by decide +kernel, by decide +kernel⟩
theorem ok_plus {f : Addr} {fd : FuncData} (F : Fun K "plus" "plus" sPlus f fd) (CB : ClX P w K mg base 4 "_check_both" (spBoth C)) (CL : Cl P w K mg base 1 "_lowest" spLow2) : FnOk P w K mg base (L2.CX P w) 5 f fd ["one", "other"] (spBin C nuP deB) := by
  refine F.okX scPlus (fun vs H Q E h => ?_) (fun cdv A outer s H vs Q E hr h => ?_)
  · obtain ⟨v, u, rfl, _⟩ := h
    rfl
  · obtain ⟨v, u, rfl, k⟩ := h
    refine ⟨_, pss_cons (ps_expr (pe_clS (W := fun cls d _ H => E cls d H) CB hr (by decide) (by rfl) (takes_of rfl rfl rfl rfl) (pa_cons (pv 0) (pa_cons (pv 1) pa_nil))))
      (pss_one (ps_ret (pe_cl CL hr (by decide) (by rfl) (pa_cons (pe_op op_add (pe_op op_mulW (pe_ix ix_tup (pv 0) pe_int (fun _ _ => rfl)) (pe_ix ix_tup (pv 1) pe_int (fun _ _ => rfl))) (pe_op op_mulW (pe_ix ix_tup (pv 1) pe_int (fun _ _ => rfl)) (pe_ix ix_tup (pv 0) pe_int (fun _ _ => rfl)))) (pa_cons (pe_op op_mulW (pe_ix ix_tup (pv 0) pe_int (fun _ _ => rfl)) (pe_ix ix_tup (pv 1) pe_int (fun _ _ => rfl))) pa_nil))))), ?_⟩
    rcases k with ⟨hv, k⟩ | ⟨r, hv, hu, k⟩ | ⟨r, q, hv, hu, k⟩
    · exact ⟨_, rfl, _, rfl, _, _, rfl, .inl ⟨hv, k⟩⟩
    · exact ⟨_, rfl, _, rfl, _, _, rfl, .inr (.inl ⟨r, hv, hu, k⟩)⟩
    · refine ⟨_, rfl, _, rfl, _, _, rfl, .inr (.inr ⟨r, q, hv, hu, ?_⟩)⟩
      obtain ⟨⟨a, rfl, ha⟩, jr, br⟩ := hv
      obtain ⟨⟨b, rfl, hb⟩, jq, bq⟩ := hu
      have z : VI 4000 (tOp (rI CMulW fun i j => .int (i * j)) (tOp (rIxT K) (tVar 0) (tC (.int 1))) (tOp (rIxT K) (tVar 1) (tC (.int 1)))) [some (.ref a), some (.ref b)] H (deB r q) := VI.mul (vb rfl ha br) (vb rfl hb bq)
      refine ret_h (vh_call (val_pair (VI.add (VI.mul (vt rfl ha br) (vb rfl hb bq)) (VI.mul (vt rfl hb bq) (vb rfl ha br))).v z.v) (PV := fun v H' => ∃ l, v = .ref l ∧ H l = none ∧ Same H H' ∧ H' l = some (.tup (lowR (nuP r q) (deB r q)).vs))
        fun Q q' => ⟨_, _, rfl, de_ne jr jq, z.b.le (by decide), fun l H' h1 h2 h3 => q' _ _ ⟨l, rfl, h1, h2, h3⟩⟩) ?_
      rintro v H' ⟨l, rfl, h1, h2, h3⟩
      exact k l H' h1 h2 h3
theorem scMinus : FnScope ["one", "other"] ["one", "other"] (defScope sMinus) := ⟨rfl, rfl, rfl, by decide +kernel, rfl, by decide +kernel, by decide +kernel⟩
theorem ok_minus {f : Addr} {fd : FuncData} (F : Fun K "minus" "minus" sMinus f fd) (CB : ClX P w K mg base 4 "_check_both" (spBoth C)) (CL : Cl P w K mg base 1 "_lowest" spLow2) : FnOk P w K mg base (L2.CX P w) 5 f fd ["one", "other"] (spBin C nuM deB) := by
  refine F.okX scMinus (fun vs H Q E h => ?_) (fun cdv A outer s H vs Q E hr h => ?_)
  · obtain ⟨v, u, rfl, _⟩ := h
    rfl
  · obtain ⟨v, u, rfl, k⟩ := h
    refine ⟨_, pss_cons (ps_expr (pe_clS (W := fun cls d _ H => E cls d H) CB hr (by decide) (by rfl) (takes_of rfl rfl rfl rfl) (pa_cons (pv 0) (pa_cons (pv 1) pa_nil))))
      (pss_one (ps_ret (pe_cl CL hr (by decide) (by rfl) (pa_cons (pe_op op_sub (pe_op op_mulW (pe_ix ix_tup (pv 0) pe_int (fun _ _ => rfl)) (pe_ix ix_tup (pv 1) pe_int (fun _ _ => rfl))) (pe_op op_mulW (pe_ix ix_tup (pv 1) pe_int (fun _ _ => rfl)) (pe_ix ix_tup (pv 0) pe_int (fun _ _ => rfl)))) (pa_cons (pe_op op_mulW (pe_ix ix_tup (pv 0) pe_int (fun _ _ => rfl)) (pe_ix ix_tup (pv 1) pe_int (fun _ _ => rfl))) pa_nil))))), ?_⟩
    rcases k with ⟨hv, k⟩ | ⟨r, hv, hu, k⟩ | ⟨r, q, hv, hu, k⟩
    · exact ⟨_, rfl, _, rfl, _, _, rfl, .inl ⟨hv, k⟩⟩
    · exact ⟨_, rfl, _, rfl, _, _, rfl, .inr (.inl ⟨r, hv, hu, k⟩)⟩
    · refine ⟨_, rfl, _, rfl, _, _, rfl, .inr (.inr ⟨r, q, hv, hu, ?_⟩)⟩
      obtain ⟨⟨a, rfl, ha⟩, jr, br⟩ := hv
      obtain ⟨⟨b, rfl, hb⟩, jq, bq⟩ := hu
      have z : VI 4000 (tOp (rI CMulW fun i j => .int (i * j)) (tOp (rIxT K) (tVar 0) (tC (.int 1))) (tOp (rIxT K) (tVar 1) (tC (.int 1)))) [some (.ref a), some (.ref b)] H (deB r q) := VI.mul (vb rfl ha br) (vb rfl hb bq)
      refine ret_h (vh_call (val_pair (VI.sub (VI.mul (vt rfl ha br) (vb rfl hb bq)) (VI.mul (vt rfl hb bq) (vb rfl ha br))).v z.v) (PV := fun v H' => ∃ l, v = .ref l ∧ H l = none ∧ Same H H' ∧ H' l = some (.tup (lowR (nuM r q) (deB r q)).vs))
        fun Q q' => ⟨_, _, rfl, de_ne jr jq, z.b.le (by decide), fun l H' h1 h2 h3 => q' _ _ ⟨l, rfl, h1, h2, h3⟩⟩) ?_
      rintro v H' ⟨l, rfl, h1, h2, h3⟩
      exact k l H' h1 h2 h3
theorem scTimes : FnScope ["one", "other"] ["one", "other"] (defScope sTimes) := ⟨rfl, rfl, rfl, by decide +kernel, rfl, by decide +kernel, by decide +kernel⟩
theorem ok_times {f : Addr} {fd : FuncData} (F : Fun K "times" "times" sTimes f fd) (CB : ClX P w K mg base 4 "_check_both" (spBoth C)) (CL : Cl P w K mg base 1 "_lowest" spLow2) : FnOk P w K mg base (L2.CX P w) 5 f fd ["one", "other"] (spBin C nuT deB) := by
  refine F.okX scTimes (fun vs H Q E h => ?_) (fun cdv A outer s H vs Q E hr h => ?_)
  · obtain ⟨v, u, rfl, _⟩ := h
    rfl
  · obtain ⟨v, u, rfl, k⟩ := h
    refine ⟨_, pss_cons (ps_expr (pe_clS (W := fun cls d _ H => E cls d H) CB hr (by decide) (by rfl) (takes_of rfl rfl rfl rfl) (pa_cons (pv 0) (pa_cons (pv 1) pa_nil))))
      (pss_one (ps_ret (pe_cl CL hr (by decide) (by rfl) (pa_cons (pe_op op_mulW (pe_ix ix_tup (pv 0) pe_int (fun _ _ => rfl)) (pe_ix ix_tup (pv 1) pe_int (fun _ _ => rfl))) (pa_cons (pe_op op_mulW (pe_ix ix_tup (pv 0) pe_int (fun _ _ => rfl)) (pe_ix ix_tup (pv 1) pe_int (fun _ _ => rfl))) pa_nil))))), ?_⟩
    rcases k with ⟨hv, k⟩ | ⟨r, hv, hu, k⟩ | ⟨r, q, hv, hu, k⟩
    · exact ⟨_, rfl, _, rfl, _, _, rfl, .inl ⟨hv, k⟩⟩
    · exact ⟨_, rfl, _, rfl, _, _, rfl, .inr (.inl ⟨r, hv, hu, k⟩)⟩
    · refine ⟨_, rfl, _, rfl, _, _, rfl, .inr (.inr ⟨r, q, hv, hu, ?_⟩)⟩
      obtain ⟨⟨a, rfl, ha⟩, jr, br⟩ := hv
      obtain ⟨⟨b, rfl, hb⟩, jq, bq⟩ := hu
      have z : VI 4000 (tOp (rI CMulW fun i j => .int (i * j)) (tOp (rIxT K) (tVar 0) (tC (.int 1))) (tOp (rIxT K) (tVar 1) (tC (.int 1)))) [some (.ref a), some (.ref b)] H (deB r q) := VI.mul (vb rfl ha br) (vb rfl hb bq)
      refine ret_h (vh_call (val_pair (VI.mul (vt rfl ha br) (vt rfl hb bq)).v z.v) (PV := fun v H' => ∃ l, v = .ref l ∧ H l = none ∧ Same H H' ∧ H' l = some (.tup (lowR (nuT r q) (deB r q)).vs))
        fun Q q' => ⟨_, _, rfl, de_ne jr jq, z.b.le (by decide), fun l H' h1 h2 h3 => q' _ _ ⟨l, rfl, h1, h2, h3⟩⟩) ?_
      rintro v H' ⟨l, rfl, h1, h2, h3⟩
      exact k l H' h1 h2 h3
theorem scLess : FnScope ["one", "other"] ["one", "other"] (defScope sLess) := ⟨rfl, rfl, rfl, by decide +kernel, rfl, by decide +kernel, by decide +kernel⟩
theorem ok_less {f : Addr} {fd : FuncData} (F : Fun K "is_less" "is_less" sLess f fd) (CB : ClX P w K mg base 4 "_check_both" (spBoth C)) : FnOk P w K mg base (L2.CX P w) 5 f fd ["one", "other"] (spLess C) := by
  refine F.okX scLess (fun vs H Q E h => ?_) (fun cdv A outer s H vs Q E hr h => ?_)
  · obtain ⟨v, u, rfl, _⟩ := h
    rfl
  · obtain ⟨v, u, rfl, k⟩ := h
    refine ⟨_, pss_cons (ps_expr (pe_clS (W := fun cls d _ H => E cls d H) CB hr (by decide) (by rfl) (takes_of rfl rfl rfl rfl) (pa_cons (pv 0) (pa_cons (pv 1) pa_nil))))
      (pss_one (ps_ret (pe_cmpR op_lt (pe_op op_mulW (pe_ix ix_tup (pv 0) pe_int (fun _ _ => rfl)) (pe_ix ix_tup (pv 1) pe_int (fun _ _ => rfl))) (pe_op op_mulW (pe_ix ix_tup (pv 1) pe_int (fun _ _ => rfl)) (pe_ix ix_tup (pv 0) pe_int (fun _ _ => rfl))) (nomark _)))), ?_⟩
    rcases k with ⟨hv, k⟩ | ⟨r, hv, hu, k⟩ | ⟨r, q, hv, hu, k⟩
    · exact ⟨_, rfl, _, rfl, _, _, rfl, .inl ⟨hv, k⟩⟩
    · exact ⟨_, rfl, _, rfl, _, _, rfl, .inr (.inl ⟨r, hv, hu, k⟩)⟩
    · refine ⟨_, rfl, _, rfl, _, _, rfl, .inr (.inr ⟨r, q, hv, hu, ?_⟩)⟩
      obtain ⟨⟨a, rfl, ha⟩, jr, br⟩ := hv
      obtain ⟨⟨b, rfl, hb⟩, jq, bq⟩ := hu
      exact st_ret (val_op (VI.mul (vt rfl ha br) (vb rfl hb bq)).v (VI.mul (vt rfl hb bq) (vb rfl ha br)).v fun Q q => ⟨_, _, rfl, rfl, q⟩) k
theorem scBelow : FnScope ["one"] ["one"] (defScope sBelow) := ⟨rfl, rfl, rfl, by decide +kernel, rfl, by decide +kernel, by decide +kernel⟩
theorem ok_below {f : Addr} {fd : FuncData} (F : Fun K "whole_below" "whole_below" sBelow f fd) (CC : ClX P w K mg base 3 "_check" (spCheck C)) : FnOk P w K mg base (L2.CX P w) 4 f fd ["one"] (spWhole C belowR) := by
  refine F.okX scBelow (fun vs H Q E h => ?_) (fun cdv A outer s H vs Q E hr h => ?_)
  · obtain ⟨v, rfl, _⟩ := h
    rfl
  · obtain ⟨v, rfl, k⟩ := h
    refine ⟨_, pss_cons (ps_expr (pe_clS (W := fun cls d _ H => E cls d H) CC hr (by decide) (by rfl) (takes_of rfl rfl rfl rfl) (pa_cons (pv 0) pa_nil))) (pss_one (ps_ret (pe_op op_dv (pe_ix ix_tup (pv 0) pe_int (fun _ _ => rfl)) (pe_ix ix_tup (pv 0) pe_int (fun _ _ => rfl))))), ?_⟩
    rcases k with ⟨hv, k⟩ | ⟨r, hv, k⟩
    · exact ⟨_, rfl, _, rfl, .inl ⟨hv, k⟩⟩
    · refine ⟨_, rfl, _, rfl, .inr ⟨r, hv, ?_⟩⟩
      obtain ⟨⟨a, rfl, ha⟩, jr, br⟩ := hv
      exact st_ret (val_dv (vt rfl ha br).v (vb rfl ha br).v (by have := jr.b; omega) (br.b.log (by decide))) k
theorem scAbove : FnScope ["one"] ["one"] (defScope sAbove) := ⟨rfl, rfl, rfl, by decide +kernel, rfl, by decide +kernel, by decide +kernel⟩
theorem ok_above {f : Addr} {fd : FuncData} (F : Fun K "whole_above" "whole_above" sAbove f fd) (CC : ClX P w K mg base 3 "_check" (spCheck C)) : FnOk P w K mg base (L2.CX P w) 4 f fd ["one"] (spWhole C aboveR) := by
  refine F.okX scAbove (fun vs H Q E h => ?_) (fun cdv A outer s H vs Q E hr h => ?_)
  · obtain ⟨v, rfl, _⟩ := h
    rfl
  · obtain ⟨v, rfl, k⟩ := h
    refine ⟨_, pss_cons (ps_expr (pe_clS (W := fun cls d _ H => E cls d H) CC hr (by decide) (by rfl) (takes_of rfl rfl rfl rfl) (pa_cons (pv 0) pa_nil))) (pss_one (ps_ret (pe_un un_neg (pe_op op_dv (pe_un un_neg (pe_ix ix_tup (pv 0) pe_int (fun _ _ => rfl))) (pe_ix ix_tup (pv 0) pe_int (fun _ _ => rfl)))))), ?_⟩
    rcases k with ⟨hv, k⟩ | ⟨r, hv, k⟩
    · exact ⟨_, rfl, _, rfl, .inl ⟨hv, k⟩⟩
    · refine ⟨_, rfl, _, rfl, .inr ⟨r, hv, ?_⟩⟩
      obtain ⟨⟨a, rfl, ha⟩, jr, br⟩ := hv
      exact st_ret (val_neg (val_dv (val_neg (vt rfl ha br).v) (vb rfl ha br).v (by have := jr.b; omega) (br.b.log (by decide)))) k
theorem scLowOf : FnScope ["top", "bottom"] ["top", "bottom"] (defScope sLowOf) := ⟨rfl, rfl, rfl, by decide +kernel, rfl, by decide +kernel, by decide +kernel⟩
theorem ok_lowof {f : Addr} {fd : FuncData} (F : Fun K "lowest_of" "lowest_of" sLowOf f fd) (N : NoN P w K mg C) (CI : Cl P w K mg base 1 "is_integer" spIsInt) (CL : Cl P w K mg base 1 "_lowest" spLow2) : FnOk P w K mg base (L2.CX P w) 2 f fd ["top", "bottom"] (spLowOf C) := by
  obtain ⟨fI, newId, t, ⟨q0, m0, b0⟩, h0, k0⟩ := N.t
  refine F.okX scLowOf (fun vs H Q E h => ?_) (fun cdv A outer s H vs Q E hr h => ?_)
  · obtain ⟨v, u, rfl, _⟩ := h
    rfl
  · obtain ⟨v, u, rfl, k⟩ := h
    refine ⟨_, (pss_cons (ps_if (pt_not (pt_val (pe_cl CI hr (by decide) (by rfl) (pa_cons (pv 0) pa_nil)))) (pss_one (ps_raise (W := fun cls d _ H => E cls d H) rfl (takes_of rfl rfl rfl rfl) (pmk_keep b0 h0 t N.g (by decide) k0 hr (by exact (pa_cons (pv 0) pa_nil))))) pss_nil)
      (pss_cons (ps_if (pw_or (pt_not (pt_val (pe_cl CI hr (by decide) (by rfl) (pa_cons (pv 1) pa_nil)))) (pw_or1 (pt_cmpR op_eq (pv 1) pe_int (nomark _)))).pt (pss_one (ps_raise (W := fun cls d _ H => E cls d H) rfl (takes_of rfl rfl rfl rfl) (pmk_keep b0 h0 t N.g (by decide) k0 hr (by exact (pa_cons (pv 1) pa_nil))))) pss_nil)
      (pss_one (ps_ret (pe_cl CL hr (by decide) (by rfl) (pa_cons (pv 0) (pa_cons (pv 1) pa_nil))))))), ?_⟩
    have vi : ∀ {i : Nat} {z : V} {b : Bool}, (L2.start ["top", "bottom"] [v, u])[i]? = some (some z) → Sc H z b → Ans (tNot (tB (tCall spIsInt [] E0 (tCons (tVar i) tNil)))) (L2.start ["top", "bottom"] [v, u]) H (!b) := fun hs hu =>
      ans_not (ans_val (val_call (va_cons (val_var hs) va_nil) fun Q q => ⟨_, _, rfl, hu, q⟩))
    rcases k with ⟨hv, k⟩ | ⟨t, rfl, ⟨hu, k⟩ | ⟨rfl, k⟩ | ⟨b, rfl, hb, bb, k⟩⟩
    · refine st_seq (st_yes (vi (i := 0) rfl hv) ?_)
      exact ⟨_, rfl, rfl, k⟩
    · refine st_seq (st_no (vi (i := 0) rfl (.int t)) (st_next ?_))
      dsimp only
      refine st_seq (st_yes (ans_or1 (vi (i := 1) rfl hu)) ?_)
      exact ⟨_, rfl, rfl, k⟩
    · refine st_seq (st_no (vi (i := 0) rfl (.int t)) (st_next ?_))
      dsimp only
      refine st_seq (st_yes (ans_or (vi (i := 1) rfl (.int 0)) (ans_eq (b := true) (val_var rfl) val_c scal_int (decide_eq_true rfl))) ?_)
      exact ⟨_, rfl, rfl, k⟩
    · refine st_seq (st_no (vi (i := 0) rfl (.int t)) (st_next ?_))
      dsimp only
      refine st_seq (st_no (ans_or (vi (i := 1) rfl (.int b)) (ans_eq (b := false) (val_var rfl) val_c scal_int (decide_eq_false fun h => hb (by injection h)))) (st_next ?_))
      refine ret_h (vh_call (val_pair (val_var rfl) (val_var rfl)) (PV := fun v H' => ∃ l, v = .ref l ∧ H l = none ∧ Same H H' ∧ H' l = some (.tup (lowR t b).vs)) fun Q q => ⟨_, _, rfl, hb, bb, fun l H' h1 h2 h3 => q _ _ ⟨l, rfl, h1, h2, h3⟩⟩) ?_
      rintro v H' ⟨l, rfl, h1, h2, h3⟩
      exact k l H' h1 h2 h3
end
end Q
set_option Elab.async false
set_option linter.all false
set_option maxRecDepth 100000
set_option maxHeartbeats 2000000
/-! defs that are called where nothing is being shown: repr of data -/
namespace L2
open PySem PySem.Spec PyProof.Rows
/-- a def's promise where nothing is being shown -/
structure FnG (P : Program) (w : World) (K : PySem.W.Frag) (mg : Str → Option Value) (base : Heap) (CX : CXT) (k : Nat) (f : Addr) (fd : FuncData) (ps : List Str) (sp : Sp) : Prop where
  few : ∀ vs H Q E, sp vs H Q E → vs.length = ps.length
  go : ∀ (A : Around) (l : List Env) (s : Shared) (H : Hp) (args : Args) (us : List Value) (vs : List V) (Q : VK) (E : XK), A.guards = some [] → Room k A → Env0 P w K mg base A l s H → BindsTo s fd args (ps.zip us) → Vals vs us → sp vs H Q E →
    codeAny (model P w) A (.call (.ref f) args) (CR CX l P w H s Q E) s
section
variable {P : Program} {w : World} {K : PySem.W.Frag} {mg : Str → Option Value} {base : Heap} {CX : CXT} {k : Nat} {f : Addr} {ps : List Str} {sp : Sp}
theorem FnG.of {fd : FuncData} (F : FnOk P w K mg base CX k f fd ps sp) : FnG P w K mg base CX k f fd ps sp := ⟨F.len, fun A l s H args us vs Q E _ => F.run A l s H args us vs Q E⟩
theorem gives_back {N : List Str} {name : Str} {scope : Scope} {cdv : Value} {A : Around} {l : List Env} {s s' : Shared} {H : Hp} {Q : VK} {E : XK} {fl : Flow}
    (h : SP (cxOf CX P w K mg base N name scope f cdv A l s H E) [] { nx := fun _ H' => Q .non H', rt := Q } fl s') : CR CX l P w H s Q E (.ok (.ret (match (generalizing := false) fl with | .ret u => u | _ => .none))) s' := by
  cases fl with
  | ret u =>
    obtain ⟨v, σ', H', J, rv, q⟩ := h
    exact ⟨v, H', J.os, J.bare, J.base, J.hok, rv, q⟩
  | next =>
    obtain ⟨σ', H', J, q⟩ := h
    exact ⟨.non, H', J.os, J.bare, J.base, J.hok, rfl, q⟩
  | brk =>
    obtain ⟨_, _, _, q⟩ := h
    exact q.elim
  | cont =>
    obtain ⟨_, _, _, q⟩ := h
    exact q.elim
theorem kept_in {A : Around} {l : List Env} {s : Shared} {H : Hp} (e : Env0 P w K mg base A l s H) : K.In s.heap ∧ s.heap.NoLimit :=
  ⟨e.mod.kin.keeps fun b o z => (e.bs b o z).1, e.mod.nolimit.keeps fun b o z => (e.bs b o z).1⟩
theorem kinds_of {N : List Str} {scope : Scope} {n : Nat} {us : List Value} (S : FnScope N ps scope) : ∀ y ∈ ps.zip us, scope.names.lookup y.1 = some .local ∨ (scope.names.lookup y.1 = some .cell ∧ ((cellsFrom n scope.names []).lookup y.1).isSome = true) := by
  rintro ⟨x, v⟩ hy
  rcases S.par x (List.of_mem_zip hy).1 with z | z
  · exact .inl z
  · exact .inr ⟨z, PySem.W.cellsFrom_some _ _ _ (.inl z)⟩
theorem fnG_of {name qual : Str} {params : Arguments} {body : List Stmt} {scope : Scope} {dV kV doc pm cdv ct oc : Value} {an od : Option Addr} {osl : Array (Option Value)} {N : List Str}
    (lk : K.lookup f = some ⟨oc, od, .func (PySem.W.fnOf name qual params body scope dV kV doc pm an cdv ct), osl⟩) (hcd : PySem.W.codeIn K cdv qual = true) (S : FnScope N ps scope) (few : ∀ vs H Q E, sp vs H Q E → vs.length = ps.length)
    (hb : ∀ (A : Around) (l : List Env) (s : Shared) (H : Hp) (vs : List V) (Q : VK) (E : XK), A.guards = some [] → Room k (A.deeper (envOfC qual scope s.heap.objs.size f cdv)) → sp vs H Q E →
      ∃ t, PSs (cxOf CX P w K mg base N qual scope f cdv A l s H E) body t ∧ t { nx := fun _ H' => Q .non H', rt := Q } (start N vs) H) :
    FnG P w K mg base CX (k + 1) f (PySem.W.fnOf name qual params body scope dV kV doc pm an cdv ct) ps sp := by
  refine ⟨few, ?_⟩
  intro A l s H args us vs Q E hg hr e hbind r h
  obtain ⟨kin, lim⟩ := kept_in e
  refine codeAny_call_function hr.depth (kin _ _ lk) rfl S.co S.gen rfl (PySem.W.codeRec_of kin hcd) (hbind _ _ _ _ ?_)
  refine wpAny_newFunctionEnv_cells S.kind (kinds_of S) ?_
  rintro env rfl s1 x
  refine ⟨lim.keeps x.toInCall.keep, codeAny_func ?_⟩
  obtain ⟨t, ht, q⟩ := hb A l s H vs Q E hg (hr.deeper _) h
  exact wpAny_mono (ht.run [] s1 (start N vs) H _ (inv_start S hr.hd e (few _ _ _ _ h) r x) q) (fun fl s' z => gives_back z) fun _ _ z => z
theorem FnG.on {x qual : Str} {st : Stmt} {fd : FuncData} {N : List Str} (F : Fun K x qual st f fd) (S : FnScope N ps (defScope st)) (few : ∀ vs H Q E, sp vs H Q E → vs.length = ps.length)
    (hb : ∀ (cdv : Value) (A : Around) (l : List Env) (s : Shared) (H : Hp) (vs : List V) (Q : VK) (E : XK), A.guards = some [] → Room k (A.deeper (envOfC qual (defScope st) s.heap.objs.size f cdv)) → sp vs H Q E →
      ∃ t, PSs (cxOf CX0 P w K mg base N qual (defScope st) f cdv A l s H E).nox (defBody st) t ∧ t { nx := fun _ H' => Q .non H', rt := Q } (start N vs) H) : FnG P w K mg base CX0 (k + 1) f fd ps sp := by
  obtain ⟨oc, od, kV, doc, pm, an, cdv, ct, osl, rfl, lk, hcd⟩ := F.ex
  refine fnG_of lk hcd S few fun A l s H vs Q E hg hr h => ?_
  obtain ⟨t, h1, q⟩ := hb cdv A l s H vs Q E hg hr h
  exact ⟨t, h1.nox, q⟩
end
section
variable {X : Cx} {CX : CXT} {k : Nat} {f : Addr} {fd : FuncData} {ps : List Str} {sp : Sp} {E : XK} {x : Str} {p pos : Pos} {e : Expr} {es : List Expr} {t : TA}
theorem pe_callG (F : FnG X.prog X.w X.K X.mg X.base CX k f fd ps sp) (gd : X.A.guards = some []) (hr : Room k X.A) (hg : Gl X x) (hm : X.mg x = some (.ref f)) (hk : PySem.W.keepIn X.K (.ref f) = true) (hb : Binds X.K fd ps []) (hx : Passes CX X E)
    (ha : PA X (e :: es) t) (hdb : (x == ("__debug__" : Str)) = false := by decide) (he : starEach (e :: es) X.env = (false, eval e X.env) :: starEach es X.env := by rfl) (hpl : (backTo pos (starEach es X.env)).any (·.1) = false := by rfl) :
    PE X (.Call (.Name x p) (e :: es) [] pos) (tCall sp [] E t) := by
  constructor
  intro pins s σ H Q I h
  refine wpAny_Call_Name_kw (ld_glob I hg hm ?_ hdb)
  refine PySem.W.callWith_K (h₀ := X.base) I.ok.mod.kin hk (thn (ha.run pos pins s σ H _ I h) ?_) he hpl
  rintro us s1 ⟨vs, H1, I1, r, q⟩
  rw [List.append_nil] at q
  refine ⟨I1.kIn, wpAny_call (codeAny_mono (F.go X.A X.stack s1 H1 ⟨us, []⟩ us vs Q E gd hr I1.env0 ?_ r q) ?_)⟩
  · have z := hb s1 us I1.kIn (by rw [List.append_nil, ← r.length]; exact F.few _ _ _ _ q)
    rw [List.append_nil] at z
    exact z
  · rintro (er | fl) s' z
    · exact hx pins σ H1 s1 er s' I1 z
    · cases fl with
      | ret u => exact I1.after z
      | next => exact z.elim
      | brk => exact z.elim
      | cont => exact z.elim
end
end L2
set_option Elab.async false
set_option linter.all false
set_option maxRecDepth 100000
set_option maxHeartbeats 2000000
/-! a law's end by a promise that asks that nothing is being shown -/
namespace L2
open PySem PySem.Spec PyProof.Rows
/-- the ground: what stands behind the top, without what H tracks (the script at a, or nothing) -/
structure OneAt (K : PySem.W.Frag) (h : Heap) (H : Hp) (a : Addr) : Prop where
  only : ∀ b, H b ≠ none → b = a
  own : H a ≠ none → K.lookup a = none
section
variable {P : Program} {w : World} {K : PySem.W.Frag} {mg mb : Str → Option Value} {h : Heap} {H : Hp} {a : Addr} {vs : List Value}
theorem OneAt.free (o : OneAt K h H a) (ha : h.get? a = some { cls := .type "list", data := .seq vs.toArray }) {b : Addr} {u : Obj} {es : Array DictEntry} {n : Nat} (e : h.get? b = some u) (d : u.data = .dict es n) : H b = none := by
  by_cases z : H b = none
  · exact z
  · have q := o.only b z
    rw [q, ha] at e
    cases e
    cases d
theorem OneAt.ns (o : OneAt K h H a) (ha : h.get? a = some { cls := .type "list", data := .seq vs.toArray }) {b : Addr} {m : Str → Option Value} : h.Ns b m → (hidT h H).Ns b m := by
  rintro ⟨u, es, n, e, d, r⟩
  exact ⟨u, es, n, hidT_get e (o.free ha e d), d, r⟩
theorem OneAt.kin (o : OneAt K h H a) (kin : K.In h) : K.In (hidT h H) := by
  intro b u e
  refine hidT_get (kin b u e) ?_
  by_cases z : H b = none
  · exact z
  · have q := o.only b z
    subst q
    rw [o.own z] at e
    cases e
theorem OneAt.mod (o : OneAt K h H a) (kin : K.In h) (ha : h.get? a = some { cls := .type "list", data := .seq vs.toArray }) (ng : h.Ns mainGlobals mg) (nb : h.Ns builtinsNs mb) (bb : ∀ x : Str, x ≠ "__name__" → mb x = bootBuiltins x) (lim : h.NoLimit) : Mod K mg (hidT h H) := by
  obtain ⟨mc, l1, l2⟩ := lim
  exact ⟨o.kin kin, o.ns ha ng, ⟨mb, o.ns ha nb, bb⟩, ⟨mc, o.ns ha l1, l2⟩⟩
end
theorem law_at {P : Program} {w : World} {K : PySem.W.Frag} {mg mb : Str → Option Value} {k : Nat} {fa a : Addr} {fd : FuncData} {x : Str} {sp : Sp} {s : Shared} {vs : List Value} {H : Hp}
    (kin : K.In s.heap) (ng : s.heap.Ns mainGlobals mg) (nb : s.heap.Ns builtinsNs mb) (bb : ∀ x : Str, x ≠ "__name__" → mb x = bootBuiltins x) (lim : s.heap.NoLimit) (hgen : s.gens = #[])
    (ha : s.heap.get? a = some { cls := .type "list", data := .seq vs.toArray }) (hr : Room k callerA) (F : ∀ base : Heap, K.In base → base.Ns mainGlobals mg → FnG P w K mg base CX0 k fa fd [x] sp) (bd : ∀ (t : Shared) (u : Value), BindsTo t fd ⟨[u], []⟩ [(x, u)])
    (o : OneAt K s.heap H a) (hO : Only H) (ok : HOk P w H s.heap) (hsp : sp [.ref a] H (fun v _ => v = .bl true) fun _ _ _ => False) :
    codeAny (model P w) callerA (.call (.ref fa) ⟨[.ref a], []⟩) (fun r t => r = .ok (.ret (.bool true)) ∧ OldK s.heap t.heap ∧ t.os = s.os ∧ AllBare t.gens) s := by
  have e0 : Env0 P w K mg (hidT s.heap H) callerA [] s H :=
    ⟨rfl, o.mod kin ha ng nb bb lim, fun _ _ z => of_hidT z, Nat.le_of_eq (hidT_size _ _), trivial, fun b z => (nomatch (show b ∈ ([] : List Addr) from z)), ok, .of_eq hgen⟩
  refine codeAny_mono ((F _ (o.kin kin) (o.ns ha ng)).go callerA [] s H ⟨[.ref a], []⟩ [.ref a] [.ref a] _ _ rfl hr e0 (bd s (.ref a)) (.cons rfl .nil) hsp) ?_
  rintro (er | fl) t z
  · exact (show False from z).elim
  · cases fl with
    | next => exact z.elim
    | brk => exact z.elim
    | cont => exact z.elim
    | ret u =>
      obtain ⟨v, H', e1, e2, un, ok', r, q⟩ := z
      have q : v = .bl true := q
      rw [q] at r
      have r : u = Value.bool true := r
      rw [r]
      refine ⟨rfl, OldK.of_keep ?_, e1, e2⟩
      intro b ob e
      by_cases hn : H b = none
      · exact un.keep b ob e hn (fun z => (nomatch (show b ∈ ([] : List Addr) from z))) (by simp)
      · rcases hO b with n | ⟨of, xs, n⟩
        · exact absurd n hn
        · have g1 := (ok b _ n).1
          have g2 := (ok' b _ (un.frzs b of _ n)).1
          rw [e] at g1
          cases g1
          exact g2
/-- the law's end -/
theorem walk_G {l : PySem.W.OpenLaw} {n k : Nat} {q : Program} {loose : List Str} {XP : (Str → Option Value) → Heap → Prop} {YP : World → Heap → Prop} {d : DefRec} {K : Params → PySem.W.Frag} {sp : World → Sp} {x : Str}
    (hn : l.most = some n) (hn2 : n ≤ sizeLine) (hdf : d.params.defaults = []) (hr : Room k callerA) (hY : ∀ (w : World) (h : Heap), YP w h → (K w.params).In h)
    (F : ∀ (w : World) (mg : Str → Option Value) (fa : Addr) (h : Heap), (K w.params).In h → h.Ns mainGlobals mg → mg d.name = some (.ref fa) →
      ∃ fd : FuncData, (∀ (s : Shared) (u : Value), BindsTo s fd ⟨[u], []⟩ [(x, u)]) ∧ ∀ base : Heap, (K w.params).In base → base.Ns mainGlobals mg → FnG l.prog w (K w.params) mg base CX0 k fa fd [x] (sp w))
    (hsp : ∀ (w : World) (H : Hp) (a : Addr) (ns : List Int), ns.length ≤ n → SqL (K w.params) H a (ns.map V.int) → sp w [.ref a] H (fun v _ => v = .bl true) fun _ _ _ => False) :
    PySem.W.WalkO q loose XP YP l.row.toRowW d [] (fun f vs => PySem.call f vs) := by
  refine Att.attach_call hn hdf ?_
  intro w s0 s mg mb fa ob pm cd doc a vs ns G Y ho hd hcd hmg hobj hi hlen hgen
  have kin := hY w _ Y
  obtain ⟨fd, bd, hF⟩ := F w mg fa _ kin G.T.g hmg
  have hz : ns.length ≤ sizeLine := Nat.le_trans hlen hn2
  have rv := vals_ints hi
  cases hk : (K w.params).lookup a with
  | some u =>
    have e := kin a u hk
    rw [hobj] at e
    cases e
    have no : ∀ b, (fun _ => none : Hp) b ≠ none → b = a := fun b z => absurd rfl z
    refine law_at kin G.T.g G.T.b G.T.builtins G.T.nolimit hgen hobj hr hF bd ⟨no, fun z => absurd rfl z⟩ (fun _ => .inl rfl) (fun b v z => nomatch (show (none : Option HO) = some v from z)) (hsp w _ a ns hlen ?_)
    exact .inr ⟨_, vs.toArray, _, hk, rfl, rfl, rfl, by rw [List.size_toArray, hi.length]; exact hz, by simpa using rv⟩
  | none =>
    have at_ : (fun b => if b = a then some (.frz { cls := .type "list", data := .seq vs.toArray } (.lst (ns.map V.int))) else none : Hp) a = some (.frz { cls := .type "list", data := .seq vs.toArray } (.lst (ns.map V.int))) := if_pos rfl
    have off : ∀ {b : Addr}, b ≠ a → (fun b => if b = a then some (.frz { cls := .type "list", data := .seq vs.toArray } (.lst (ns.map V.int))) else none : Hp) b = none := fun z => if_neg z
    generalize (fun b => if b = a then some (.frz { cls := .type "list", data := .seq vs.toArray } (.lst (ns.map V.int))) else none : Hp) = H at at_ off
    refine law_at kin G.T.g G.T.b G.T.builtins G.T.nolimit hgen hobj hr hF bd ⟨fun b z => ?_, fun _ => hk⟩ (fun b => ?_) (fun b u z => ?_) (hsp w H a ns hlen (.inl (.inr ⟨_, at_⟩)))
    · by_cases c : b = a
      · exact c
      · exact absurd (off c) z
    · by_cases c : b = a
      · rw [c]
        exact .inr ⟨_, _, at_⟩
      · exact .inl (off c)
    · by_cases c : b = a
      · rw [c, at_] at z
        cases z
        rw [c]
        exact ⟨hobj, by rw [List.length_map]; exact hz, vs, _, rv, hobj⟩
      · rw [off c] at z
        cases z
end L2
set_option Elab.async false
set_option linter.all false
set_option maxRecDepth 100000
set_option maxHeartbeats 2000000
/-! repr of data, where nothing is being shown -/
namespace L2
open PySem PySem.Spec PyProof.Rows
/-- data that can be shown -/
structure Sh (d : PyData) : Prop where
  s : d.showable = true
  l : d.leavesShort 13 = true
  b : d.bulk ≤ 2 ^ 20
  p : d.depth ≤ 20
theorem Sh.fits {d : PyData} (h : Sh d) : d.shown.length ≤ sizeLine := PyData.shown_fits_bulk (by decide) (by decide) h.l h.b
/-- a value and what it says -/
inductive Dd (K : PySem.W.Frag) (H : Hp) : V → PyData → Prop where
  | dp {v : V} {d : PyData} (h : Dp K H v d) (n : d.hasDict = false) : Dd K H v d
  | d12 {a : Addr} (h : H a = some (.dK [(Sum.inl 1, .int 2)])) : Dd K H (.ref a) (.dict [(.int 1, .int 2)])
def rRepr (K : PySem.W.Frag) : List V → Hp → VK → Prop := fun xs H Q => ∃ v d, xs = [v] ∧ Dd K H v d ∧ Sh d ∧ Q (.str d.shown) H
section
variable {X : Cx} {pins : List (Addr × Obj)} {σ : St} {H : Hp} {s : Shared}
theorem d12_reads (I : Inv X pins σ H s) {a : Addr} (h : H a = some (.dK [(Sum.inl 1, .int 2)])) : Reads s.heap (.ref a) (.dict [(.int 1, .int 2)]) [a] ∧ a ≠ sysModules := by
  obtain ⟨_, hsm, vs, kv, o, es, ep, ho, hx, hd, _, hp, _⟩ := I.hok a _ h
  have hne : a ≠ sysModules := fun z => by
    rw [z] at hsm
    simp at hsm
  refine ⟨?_, hne⟩
  obtain ⟨el⟩ := es
  unfold KV at kv
  rcases vs with _ | ⟨⟨k, v⟩, vs'⟩
  · cases kv
  cases kv with
  | cons r1 r2 =>
    cases r2
    obtain ⟨e1, e2⟩ := r1
    have e1 : Sum.inl 1 = k := e1
    subst e1
    obtain ⟨t2, e2⟩ := (show ∃ t, v = Value.int 2 t from e2)
    subst e2
    have hp : Pairs (mixKind X.prog X.w) el [(Sum.inl 1, Value.int 2 t2)] := hp
    rcases el with _ | ⟨e, el'⟩
    · cases hp
    cases hp with
    | cons p1 p2 p3 =>
      cases p3
      obtain ⟨t1, e3⟩ := Value.isInt_shape (k := 1) (v := e.key) p1
      have p2 : e.val = Value.int 2 t2 := p2
      refine Reads.dict (as := []) (bs := []) ho hx.1 hd ?_ ?_
      · show ReadsAll s.heap [e.key] [.int 1] []
        rw [e3]
        exact ReadsAll.cons (as := []) (bs := []) (Reads.int 1 t1) .nil
      · show ReadsAll s.heap [e.val] [.int 2] []
        rw [p2]
        exact ReadsAll.cons (as := []) (bs := []) (Reads.int 2 t2) .nil
theorem call_repr (hg : X.A.guards = some []) (hu : X.A.units + 40 < cLine) : CallR X (.builtin "repr") (rRepr X.K) := by
  intro pins s σ H xs us Q I r h
  obtain ⟨v, d, rfl, hd, sh, q⟩ := h
  obtain ⟨u, rfl, ru⟩ := vals1 r
  have road : ∀ (a : Addr) (as : List Addr), Reads s.heap (.ref a) d as → (d.hasDict = true → sysModules ∉ as) → wpAny (model X.prog X.w) X.A (call (.builtin "repr") [.ref a]) (EP X pins σ Q) X.xe s := fun a as rd hs =>
    repr_of_reads' rd sh.s hs hg (by have := sh.p; omega) (fun _ _ z => z) (fun h' u tk hk => ⟨.str _, H, I.kept (t' := tk) hk, ⟨_, rfl⟩, q⟩) sh.fits
  cases hd with
  | d12 h =>
    cases ru
    obtain ⟨rd, ne⟩ := d12_reads I h
    exact road _ _ rd fun _ z => ne (List.mem_singleton.mp z).symm
  | dp h n =>
    obtain ⟨as, rd⟩ := Dp.reads I d v u h ru
    cases rd with
    | none =>
      rw [PyData.shown_none] at q
      exact PySem.P.repr_of_none ⟨.str _, H, I.tok _, ⟨_, rfl⟩, q⟩
    | bool b =>
      rw [PyData.shown_bool] at q
      exact PySem.P.repr_of_bool ⟨.str _, H, I.tok _, ⟨_, rfl⟩, q⟩
    | int i t =>
      rw [PyData.shown_int] at q
      exact PySem.P.repr_of_int (of_decide_eq_true sh.s) ⟨.str _, H, I.tok _, ⟨_, rfl⟩, q⟩
    | str x t =>
      have z := sh.fits
      rw [PyData.shown_str] at q z
      exact PySem.P.repr_of_str ⟨.str _, H, I.tok _, ⟨_, rfl⟩, q⟩ z
    | list a1 a2 a3 a4 => exact road _ _ (Reads.list a1 a2 a3 a4) (PyData.noDict_hsm n)
    | tuple a1 a2 a3 a4 => exact road _ _ (Reads.tuple a1 a2 a3 a4) (PyData.noDict_hsm n)
    | dict a1 a2 a3 a4 a5 => cases n
end
end L2
set_option Elab.async false
set_option linter.all false
set_option maxRecDepth 100000
set_option maxHeartbeats 2000000
namespace Q
open PySem L2 PySem.Spec PyProof.Rows PySem.Calls PySem.OwnX Evl
abbrev sShared : Stmt := top 21
abbrev sInteger : Stmt := top 22
abbrev sBottom : Stmt := top 23
abbrev sIsWhole : Stmt := top 24
abbrev sIsJust : Stmt := top 25
/-! ### expressions that draw -/
abbrev BagIn (p : Addr) (H : Hp) : Prop := ∃ a b c : Int, H p = some (.lst [.int a, .int b, .int c])
def EvB (p : Addr) (te : TE) (σ : L2.St) (R : Int → Prop) : Prop := ∀ (H1 : Hp), BagIn p H1 → ∀ Q : VK, (∀ n H2, R n → Bgd p H1 H2 → Q (.int n) H2) → te σ H1 Q
section
variable {p : Addr} {σ : L2.St} {te ta tb tc : TE} {R S : Int → Prop} {n N : Int} {E : XK} {i : Nat} {H : Hp} {D : Ends} {u : TS}
theorem Bgd.id' {H1 : Hp} (h : BagIn p H1) : Bgd p H1 H1 := ⟨h, fun _ _ _ e => e⟩
theorem eb_val (h : ∀ H, Val te σ H (.int n)) (r : R n) : EvB p te σ R := fun H1 hb Q q => h H1 _ (q n H1 r (Bgd.id' hb))
theorem eb_c (r : R n) : EvB p (tC (.int n)) σ R := eb_val (fun _ => val_c) r
theorem eb_var (h : σ[i]? = some (some (.int n))) (r : R n) : EvB p (tVar i) σ R := eb_val (fun _ => val_var h) r
theorem eb_op {g : Int → Int → Int} {T : Int → Prop} (ha : EvB p ta σ R) (hb : EvB p tb σ S) (hr : ∀ m n, R m → S n → T (g m n)) : EvB p (tOp (rI0 fun i j => .int (g i j)) ta tb) σ T := fun H1 x Q q =>
  ha H1 x _ fun m H2 r2 g2 => hb H2 g2.bag _ fun n H3 r3 g3 => ⟨m, n, rfl, rfl, q _ H3 (hr m n r2 r3) (g2.trans g3)⟩
theorem eb_mul {T : Int → Prop} (ha : EvB p ta σ R) (hb : EvB p tb σ S) (hc : ∀ m n, R m → S n → CMulW m n) (hr : ∀ m n, R m → S n → T (m * n)) : EvB p (tOp (rI CMulW fun i j => .int (i * j)) ta tb) σ T := fun H1 x Q q =>
  ha H1 x _ fun m H2 r2 g2 => hb H2 g2.bag _ fun n H3 r3 g3 => ⟨m, n, rfl, rfl, hc m n r2 r3, q _ H3 (hr m n r2 r3) (g2.trans g3)⟩
theorem eb_draw (hs : σ[i]? = some (some (.ref p))) (hn : EvB p tb σ (fun n => 0 < n ∧ n ≤ N ∧ n.natAbs.log2 < 9000)) : EvB p (tCall spDraw [] E (tCons (tVar i) (tCons tb tNil))) σ (fun r => 0 ≤ r ∧ r < N) := fun H1 x Q q =>
  ⟨_, hs, hn H1 x _ fun n H2 r2 g2 => by
    obtain ⟨a, b, c, e⟩ := g2.bag
    exact ⟨p, a, b, c, n, rfl, e, r2.1, r2.2.2, fun r H3 h0 h1 g3 => q r H3 ⟨h0, Int.lt_of_lt_of_le h1 r2.2.1⟩ (g2.trans g3)⟩⟩
/-- a number of a written list -/
theorem eb_one {ta : TA} {xs : List Int} (hs : σ[i]? = some (some (.ref p))) (ha : ∀ H1, ValA ta σ H1 (xs.map V.int)) (h0 : 0 < xs.length) (h1 : xs.length ≤ 1000) (hr : ∀ n ∈ xs, R n) : EvB p (tCall spOne [] E (tCons (tVar i) (tCons (tLst ta) tNil))) σ R := fun H1 x Q q =>
  ⟨_, hs, ha H1 _ ⟨(by rw [List.length_map]; exact Nat.le_trans h1 (by decide)), fun l hl => by
    obtain ⟨a, b, c, e⟩ := x
    have ne : l ≠ p := by
      intro z
      rw [z, e] at hl
      cases hl
    refine ⟨p, l, a, b, c, xs.map V.int, rfl, (by rw [upd_ne ne.symm]; exact e), ne, upd_same, (by rw [List.length_map]; exact h0), (by rw [List.length_map]; exact h1), fun k v H2 hv g2 => ?_⟩
    rw [List.getElem?_map] at hv
    cases hx : xs[k]? with
    | none =>
      rw [hx] at hv
      cases hv
    | some m =>
      rw [hx] at hv
      cases hv
      exact q m H2 (hr m (List.mem_of_getElem? hx)) ((Bgd.new (Bgd.id' ⟨a, b, c, e⟩) hl).trans g2)⟩⟩
theorem q_asgB (h : EvB p te σ R) (hb : BagIn p H) (k : ∀ n H1, R n → Bgd p H H1 → u D (σ.set i (some (.int n))) H1) : tSeq (tAsg te (gName i)) u D σ H := h H hb _ k
end
theorem ne_bag {p l : Addr} {H : Hp} (h : BagIn p H) (hl : H l = none) : l ≠ p := by
  obtain ⟨a, b, c, e⟩ := h
  intro z
  rw [z, e] at hl
  cases hl
theorem ne_tup {p l : Addr} {H : Hp} {xs : List V} (h : BagIn p H) (hl : H l = some (.tup xs)) : l ≠ p := by
  obtain ⟨a, b, c, e⟩ := h
  intro z
  rw [z, e] at hl
  cases hl
theorem bag_ex {p : Addr} {H H' : Hp} (e : Ex H H') (h : BagIn p H) : Bgd p H H' := by
  obtain ⟨a, b, c, q⟩ := h
  exact ⟨⟨a, b, c, e _ _ q⟩, fun l o _ z => e l o z⟩
theorem FrA.bgd {p : Addr} {H H' : Hp} {v : V} {r : R2} (g : Bgd p H H') (hb : BagIn p H) (h : FrA H v r) : FrA H' v r := by
  obtain ⟨⟨a, rfl, ha⟩, j, b⟩ := h
  exact ⟨⟨a, rfl, g.keep _ _ (ne_tup hb ha) ha⟩, j, b⟩
def InS (s n : Int) : Prop := -s ≤ n ∧ n ≤ s
theorem bd_of {n : Int} (h : n.natAbs ≤ 10 ^ 40) : Bd 140 n := ⟨Nat.lt_of_le_of_lt h (by decide)⟩
theorem log_of {n : Int} (h : n.natAbs ≤ 10 ^ 41) : n.natAbs.log2 < 9000 := (⟨Nat.lt_of_le_of_lt h (by decide)⟩ : Bd 140 n).log (by decide)
theorem bd2 : Bd 2 2 := ⟨by decide⟩
/-! ### numbers of bounded width, whatever is laid on the way -/
structure EI (k : Nat) (te : TE) (σ : L2.St) (H : Hp) (n : Int) : Prop where
  v : Ev te σ H (.int n)
  b : Bd k n
section
variable {K : PySem.W.Frag} {σ : L2.St} {H : Hp} {ta tb te tc : TE} {a b i j : Nat} {m n l : Int} {E : XK} {c d : Bool} {v1 v2 : V} {u : TS} {D : Ends}
theorem EI.mul (x : EI a ta σ H m) (y : EI b tb σ H n) (h : a + b + 2 ≤ 1000000 := by decide) : EI (a + b) (tOp (rI CMulW fun i j => .int (i * j)) ta tb) σ H (m * n) := ⟨ev_op x.v y.v (rv_I (x.b.mw y.b h)), x.b.mul y.b⟩
theorem EI.sub (x : EI a ta σ H m) (y : EI a tb σ H n) : EI (a + 1) (tOp (rI0 fun i j => .int (i - j)) ta tb) σ H (m - n) := ⟨ev_op x.v y.v rv_I0, x.b.sub y.b⟩
theorem EI.add (x : EI a ta σ H m) (y : EI a tb σ H n) : EI (a + 1) (tOp (rI0 fun i j => .int (i + j)) ta tb) σ H (m + n) := ⟨ev_op x.v y.v rv_I0, x.b.add y.b⟩
theorem EI.le (x : EI a ta σ H m) (h : a ≤ b) : EI b ta σ H m := ⟨x.v, x.b.le h⟩
theorem ei_var (h : σ[i]? = some (some (.int n))) (hb : Bd a n) : EI a (tVar i) σ H n := ⟨ev_var h, hb⟩
theorem ei_c (hb : Bd a n) : EI a (tC (.int n)) σ H n := ⟨ev_c, hb⟩
theorem ev_ixT {p : Addr} {xs : List V} {k : Int} {v : V} (h : Ev ta σ H (.ref p)) (hx : H p = some (.tup xs)) (hk : atI xs k = some v) : Ev (tOp (rIxT K) ta (tC (.int k))) σ H v := ev_op h ev_c (rv_ixT (SqT.of hx) hk)
theorem q_par (h1 : Ev ta σ H v1) (h2 : Ev tb σ H v2) (k : ∀ H1, Ex H H1 → u D ((σ.set i (some v1)).set j (some v2)) H1) : tSeq (tPar i j (tCons ta (tCons tb tNil))) u D σ H :=
  h1 H (Ex.refl H) _ fun H2 e2 => h2 H2 e2 _ fun H3 e3 => ⟨_, _, rfl, k H3 (e2.trans e3)⟩
theorem ev_isB (h : Ev te σ H (.bl c)) : Ev (tOp rIsB te (tC (.bl d))) σ H (.bl (decide (c = d))) := ev_op h ev_c fun H1 _ Q q => ⟨c, d, rfl, rfl, q H1 (Ex.refl _)⟩
theorem ev_notB (h : Ev te σ H (.bl c)) : Ev (tOp rNotB te (tC (.bl d))) σ H (.bl (!decide (c = d))) := ev_op h ev_c fun H1 _ Q q => ⟨c, d, rfl, rfl, q H1 (Ex.refl _)⟩
theorem ev_neI (h : Ev ta σ H (.int n)) (h2 : Ev tb σ H (.int m)) : Ev (tOp rNe ta tb) σ H (.bl (!decide (n = m))) := ev_is (ev_op h h2 (rv_ne rfl)) (by
  have z : decide (V.int n = V.int m) = decide (n = m) := decide_eq_decide.mpr ⟨fun h => by injection h, fun h => by rw [h]⟩
  rw [z])
theorem ev_eqI (h : Ev ta σ H (.int n)) (h2 : Ev tb σ H (.int m)) : Ev (tOp rEq ta tb) σ H (.bl (decide (n = m))) := ev_is (ev_op h h2 (rv_eq rfl)) (by
  have z : decide (V.int n = V.int m) = decide (n = m) := decide_eq_decide.mpr ⟨fun h => by injection h, fun h => by rw [h]⟩
  rw [z])
theorem q_not {t : TT} {tu : TS} (h : EvT t σ H false) (k : ∀ H1, Ex H H1 → u D σ H1) : tSeq (tIfS t tu tNext) u D σ H := q_when h (fun z => nomatch z) fun _ => k
theorem ev_isi {v : V} {T U : String} {b : Bool} (h : Ev ta σ H v) (t : ∀ H1, Ex H H1 → TyX K H1 v (.type U)) (e : PySem.W.kitOne K (.type U) (.type T) = some b) : Ev (tCB (rIsi K) (tCons ta (tCons (tC (.ty T)) tNil))) σ H (.bl b) :=
  ev_cb (ea_cons h (ea_cons ev_c ea_nil)) fun H1 e1 Q q => ⟨_, _, _, _, _, rfl, .ty _, t H1 e1, e, q H1 (Ex.refl _)⟩
theorem ev_lenT {p : Addr} {xs : List V} (ha : Ev ta σ H (.ref p)) (h : H p = some (.tup xs)) : Ev (tCB (rLenS K) (tCons ta tNil)) σ H (.int (xs.length : Int)) := fun H1 e Q q =>
  ha H1 e _ fun H2 e2 => ⟨p, xs, rfl, Or.inr (SqT.of ((e.trans e2) _ _ h)), q H2 e2⟩
end
def spShared : Sp := fun vs H Q _ => ∃ a b : Int, vs = [.int a, .int b] ∧ Q (.int (gcI a b)) H
def spInteger : Sp := fun vs H Q _ => ∃ p : Addr, vs = [.ref p] ∧ BagIn p H ∧ ∀ n H', InS (10 ^ 40) n → Bgd p H H' → Q (.int n) H'
def spBottom : Sp := fun vs H Q _ => ∃ p : Addr, vs = [.ref p] ∧ BagIn p H ∧ ∀ n H', InS (10 ^ 40) n → n ≠ 0 → Bgd p H H' → Q (.int n) H'
def spIsWhole : Sp := fun vs H Q _ => ∃ i : Int, vs = [.int i] ∧ Q (.bl true) H
def spIsJust : Sp := fun vs H Q _ => ∃ (v : V) (a : Addr) (r : R2) (t b : Int), vs = [.ref a, .int t, .int b] ∧ H a = some (.tup r.vs) ∧ Just r ∧ BdR 6000 r ∧ Bd 6000 t ∧ Bd 6000 b ∧ r.t * b = t * r.b ∧ ∀ H', Same H H' → Q (.bl true) H'
section
variable {P : Program} {w : World} {K : PySem.W.Frag} {mg : Str → Option Value} {base : Heap}
theorem scShared : FnScope ["one", "other", "big", "low"] ["one", "other"] (defScope sShared) := ⟨rfl, rfl, rfl, by decide +kernel, rfl, by decide +kernel, by decide +kernel⟩
theorem ok_shared {f : Addr} {fd : FuncData} (F : Fun K "_law_shared" "_law_shared" sShared f fd) (T : TB mg) : FnOk P w K mg base CX0 1 f fd ["one", "other"] spShared := by
  refine F.ok scShared (fun vs H Q E h => ?_) (fun cdv A outer s H vs Q E hr h => ?_)
  · obtain ⟨a, b, rfl, _⟩ := h
    rfl
  · obtain ⟨a, b, rfl, k⟩ := h
    refine ⟨_, (pss_cons (ps_par (i := 2) (j := 3) (by rfl) scShared.nd rfl rfl (by decide) rfl rfl (pa_cons (pe_callB call_abs (by rfl) T.abs (by decide +kernel) (pa_cons (pv 0) pa_nil)) (pa_cons (pe_callB call_abs (by rfl) T.abs (by decide +kernel) (pa_cons (pv 1) pa_nil)) pa_nil)) (by rfl))
      (pss_cons (ps_while PassesOwn.never (pt_cmpR op_gt (pv 3) pe_int (nomark _)) (pss_one (ps_par (i := 2) (j := 3) (by rfl) scShared.nd rfl rfl (by decide) rfl rfl (pa_cons (pv 3) (pa_cons (pe_op op_mod (pe_callTy call_int1 (by rfl) T.int (by decide +kernel) (pa_cons (pv 2) pa_nil)) (pv 3)) pa_nil)) (by rfl))))
      (pss_one (ps_ret (pv 2))))), ?_⟩
    have ab : ∀ i : Int, (if i < 0 then -i else i) = ((i.natAbs : Nat) : Int) := fun i => by
      split <;> omega
    refine ⟨_, rfl, _, rfl, _, rfl, _, rfl, _, _, rfl, ?_⟩
    rw [ab a, ab b]
    refine while_by (fun σ H' => H' = H ∧ ∃ m n : Nat, Nat.gcd m n = Nat.gcd a.natAbs b.natAbs ∧ σ = [some (.int a), some (.int b), some (.int (m : Int)), some (.int (n : Int))]) (fun σ _ => match σ with | [_, _, _, some (.int n)] => n.toNat | _ => 0) ⟨rfl, _, _, rfl, rfl⟩ ?_ ?_
    · rintro σ H' ⟨rfl, m, n, hg, rfl⟩
      refine ⟨_, rfl, _, _, rfl, rfl, _, rfl, ?_⟩
      refine ite2 (fun c => ?_) (fun c => ?_)
      · have c : (0 : Int) < (n : Int) := of_decide_eq_true c
        refine ⟨_, rfl, _, rfl, .inl ⟨_, rfl, _, rfl, _, _, rfl, rfl, c, _, _, rfl, ⟨rfl, n, m % n, ?_, ?_⟩, ?_⟩⟩
        · rw [← hg, Nat.gcd_comm m n, Nat.gcd_rec n m, Nat.gcd_comm]
        · rfl
        · show ((m : Int) % (n : Int)).toNat < ((n : Int)).toNat
          have h1 := Int.emod_lt_of_pos (m : Int) c
          have h2 := Int.emod_nonneg (m : Int) (by omega : (n : Int) ≠ 0)
          omega
      · have c := no_dec c
        have n0 : n = 0 := by omega
        subst n0
        rw [Nat.gcd_zero_right] at hg
        refine ⟨_, rfl, ?_⟩
        rw [hg]
        exact k
    · rintro σ H' Q1 Q2 hm ⟨v, hv, i, j, e1, e2, b, eb, q⟩
      exact ⟨v, hv, i, j, e1, e2, b, eb, hm _ _ q⟩
theorem scInteger : FnScope ["bag", "size"] ["bag"] (defScope sInteger) := ⟨rfl, rfl, rfl, by decide +kernel, rfl, by decide +kernel, by decide +kernel⟩
theorem ok_integer {f : Addr} {fd : FuncData} (F : Fun K "_law_integer" "_law_integer" sInteger f fd) (CD : Cl P w K mg base 1 "_law_draw" spDraw) (CO : Cl P w K mg base 2 "_law_one_of" spOne) : FnOk P w K mg base CX0 3 f fd ["bag"] spInteger := by
  refine F.ok scInteger (fun vs H Q E h => ?_) (fun cdv A outer s H vs Q E hr h => ?_)
  · obtain ⟨p, rfl, _⟩ := h
    rfl
  · obtain ⟨p, rfl, hb, k⟩ := h
    refine ⟨_, (pss_cons (ps_set (i := 1) scInteger.nd rfl (Or.inl rfl) (pe_cl CO hr (by decide) (by rfl) (pa_cons (pv 0) (pa_cons (pe_lst (pa_cons (pe_int) (pa_cons (pe_int) (pa_cons (pe_int) (pa_cons (pe_int) (pa_cons (pe_op op_powW pe_int pe_int) (pa_cons (pe_op op_powW pe_int pe_int) (pa_cons (pe_op op_powW pe_int pe_int) pa_nil)))))))) pa_nil))))
      (pss_one (ps_ret (pe_op op_sub (pe_cl CD hr (by decide) (by rfl) (pa_cons (pv 0) (pa_cons (pe_op op_add (pe_op op_mulW pe_int (pv 1)) pe_int) pa_nil))) (pv 1))))), ?_⟩
    have pw : ∀ {σ : L2.St} {H1 : Hp} {j : Int}, CPowW 10 j → Val (tOp (rI CPowW fun i j => .int (i ^ j.toNat)) (tC (.int 10)) (tC (.int j))) σ H1 (.int (10 ^ j.toNat)) := fun c => val_op val_c val_c fun Q q => ⟨_, _, rfl, rfl, c, q⟩
    refine q_asgB (R := fun n => 1 ≤ n ∧ n ≤ 10 ^ 40) (eb_one (xs := [3, 7, 10, 1000, 10 ^ 9, 10 ^ 18, 10 ^ 40]) rfl (fun H1 => ?_) (by decide) (by decide) (by decide)) hb fun z H1 hz g1 => ?_
    · exact va_cons val_c (va_cons val_c (va_cons val_c (va_cons val_c (va_cons (pw ⟨by decide, by decide +kernel⟩) (va_cons (pw ⟨by decide, by decide +kernel⟩) (va_cons (pw ⟨by decide, by decide +kernel⟩) va_nil))))))
    refine eb_op (g := fun i j => i - j) (S := fun n => n = z) (T := InS (10 ^ 40)) (eb_draw (N := 2 * z + 1) rfl (eb_op (g := fun i j => i + j) (R := fun n => n = 2 * z) (S := fun n => n = 1) (eb_mul (R := fun n => n = 2) (S := fun n => n = z) (eb_c rfl) (eb_var rfl rfl) (fun m n hm hn => by
          subst hm hn
          exact bd2.mw (bd_of (n := n) (by omega)) (by decide)) (fun m n hm hn => by rw [hm, hn])) (eb_c rfl) (fun m n hm hn => by
          subst hm hn
          exact ⟨by omega, by omega, log_of (by omega)⟩))) (eb_var rfl rfl) (fun m n hm hn => by
        subst hn
        exact ⟨by omega, by omega⟩) H1 g1.bag _ fun n H2 hn g2 => k n H2 hn (g1.trans g2)
theorem scBottom : FnScope ["bag", "found"] ["bag"] (defScope sBottom) := ⟨rfl, rfl, rfl, by decide +kernel, rfl, by decide +kernel, by decide +kernel⟩
theorem ok_bottom {f : Addr} {fd : FuncData} (F : Fun K "_law_bottom" "_law_bottom" sBottom f fd) (CD : Cl P w K mg base 1 "_law_draw" spDraw) (CI : Cl P w K mg base 3 "_law_integer" spInteger) : FnOk P w K mg base CX0 4 f fd ["bag"] spBottom := by
  refine F.ok scBottom (fun vs H Q E h => ?_) (fun cdv A outer s H vs Q E hr h => ?_)
  · obtain ⟨p, rfl, _⟩ := h
    rfl
  · obtain ⟨p, rfl, hb, k⟩ := h
    refine ⟨_, (pss_cons (ps_set (i := 1) scBottom.nd rfl (Or.inl rfl) (pe_cl CI hr (by decide) (by rfl) (pa_cons (pv 0) pa_nil)))
      (pss_one (ps_ret (pe_ifExp (pt_cmpR op_ne (pv 1) pe_int (nomark _)) (pv 1) (pe_op op_sub pe_int (pe_op op_mulW pe_int (pe_cl CD hr (by decide) (by rfl) (pa_cons (pv 0) (pa_cons (pe_int) pa_nil))))))))), ?_⟩
    refine ⟨_, rfl, p, rfl, hb, fun n H1 hn g1 => ?_⟩
    have tst : EvT (tTest (tOp rNe (tVar 1) (tC (.int 0)))) [some (.ref p), some (.int n)] H1 (!decide (n = 0)) := et_test (ev_neI (ev_var rfl) ev_c)
    refine tst H1 (Ex.refl _) _ fun H2 e2 => ?_
    have g2 := bag_ex e2 g1.bag
    by_cases c : n = 0
    · rw [if_neg (by simp [c])]
      refine eb_op (g := fun i j => i - j) (R := fun n => n = 1) (S := fun n => n = 0 ∨ n = 2) (T := fun n => n = 1 ∨ n = -1) (eb_c rfl) (eb_mul (R := fun n => n = 2) (S := fun r => 0 ≤ r ∧ r < 2) (eb_c rfl) (eb_draw (N := 2) rfl (eb_c ⟨by decide, by decide, by decide⟩)) (fun m n hm hn => ?_) (fun m n hm hn => ?_)) (fun m n hm hn => ?_) H2 g2.bag _ fun m H3 hm g3 => ?_
      · subst hm
        exact bd2.mw (bd_of (n := n) (by omega)) (by decide)
      · subst hm
        omega
      · omega
      · exact k m H3 (by unfold InS; omega) (by omega) ((g1.trans g2).trans g3)
    · rw [if_pos (by simp [c])]
      exact ⟨_, rfl, k n H2 hn c (g1.trans g2)⟩
theorem scIsWhole : FnScope ["value"] ["value"] (defScope sIsWhole) := ⟨rfl, rfl, rfl, by decide +kernel, rfl, by decide +kernel, by decide +kernel⟩
theorem ok_iswhole {f : Addr} {fd : FuncData} (F : Fun K "_law_is_whole" "_law_is_whole" sIsWhole f fd) (T : TI mg) : FnOk P w K mg base CX0 1 f fd ["value"] spIsWhole := by
  refine F.ok scIsWhole (fun vs H Q E h => ?_) (fun cdv A outer s H vs Q E hr h => ?_)
  · obtain ⟨i, rfl, _⟩ := h
    rfl
  · obtain ⟨i, rfl, k⟩ := h
    refine ⟨_, pss_one (ps_ret (pe_and (pe_callB call_isi (by rfl) T.isi PyProof.Rows.boot_isinstance (pa_cons (pv 0) (pa_cons (pe_bltn (v := .ty "int") (by rfl) T.int (by decide +kernel) rfl) pa_nil))) (pe_one (pe_not (pe_callB call_isi (by rfl) T.isi PyProof.Rows.boot_isinstance (pa_cons (pv 0) (pa_cons (pe_bltn (v := .ty "bool") (by rfl) T.bool (by decide +kernel) rfl) pa_nil))))))), ?_⟩
    exact st_ret (val_and (val_isi (b := true) (val_var rfl) (.base (.int i)) (kit_ty (by decide +kernel))) fun _ => val_not (val_isi (b := false) (val_var rfl) (.base (.int i)) (kit_ty (by decide +kernel)))) k
theorem scIsJust : FnScope ["told", "top", "bottom"] ["told", "top", "bottom"] (defScope sIsJust) := ⟨rfl, rfl, rfl, by decide +kernel, rfl, by decide +kernel, by decide +kernel⟩
theorem ok_isjust {f : Addr} {fd : FuncData} (F : Fun K "_law_is_just" "_law_is_just" sIsJust f fd) (T : TI mg) (CW : Cl P w K mg base 1 "_law_is_whole" spIsWhole) (CS : Cl P w K mg base 1 "_law_shared" spShared) : FnOk P w K mg base CX0 2 f fd ["told", "top", "bottom"] spIsJust := by
  refine F.ok scIsJust (fun vs H Q E h => ?_) (fun cdv A outer s H vs Q E hr h => ?_)
  · obtain ⟨v, a, r, t, b, rfl, _⟩ := h
    rfl
  · obtain ⟨v, a, r, t, b, rfl, ha, j, br, bt, bb, he, k⟩ := h
    refine ⟨_, (pss_cons (ps_if (pw_or (pt_not (pt_val (pe_callB call_isi (by rfl) T.isi PyProof.Rows.boot_isinstance (pa_cons (pv 0) (pa_cons (pe_bltn (v := .ty "tuple") (by rfl) T.tuple (by decide +kernel) rfl) pa_nil))))) (pw_or (pt_cmpR op_ne (pe_callB call_len_seq (by rfl) T.len PySem.boot_len (pa_cons (pv 0) pa_nil)) pe_int (nomark _))
        (pw_or (pt_not (pt_val (pe_cl CW hr (by decide) (by rfl) (pa_cons ((pe_ix ix_tup (pv 0) pe_int (fun _ _ => rfl))) pa_nil)))) (pw_or1 (pt_not (pt_val (pe_cl CW hr (by decide) (by rfl) (pa_cons ((pe_ix ix_tup (pv 0) pe_int (fun _ _ => rfl))) pa_nil)))))))).pt (pss_one (ps_ret pe_bl)) pss_nil)
      (pss_one (ps_ret (pe_and (pe_cmpR op_ge (pe_ix ix_tup (pv 0) pe_int (fun _ _ => rfl)) pe_int (nomark _)) (pe_and (pe_cmpR op_eq (pe_cl CS hr (by decide) (by rfl) (pa_cons ((pe_ix ix_tup (pv 0) pe_int (fun _ _ => rfl))) (pa_cons ((pe_ix ix_tup (pv 0) pe_int (fun _ _ => rfl))) pa_nil))) pe_int (nomark _)) (pe_one (pe_cmpR op_eq (pe_op op_mulW (pe_ix ix_tup (pv 0) pe_int (fun _ _ => rfl)) (pv 2)) (pe_op op_mulW (pv 1) (pe_ix ix_tup (pv 0) pe_int (fun _ _ => rfl))) (nomark _)))))))), ?_⟩
    have t0 : ∀ {H1 : Hp}, Ex H H1 → EI 6000 (tOp (rIxT K) (tVar 0) (tC (.int 0))) (L2.start ["told", "top", "bottom"] [.ref a, .int t, .int b]) H1 r.t := fun e => ⟨ev_ixT (ev_var rfl) (e _ _ ha) rfl, br.t⟩
    have t1 : ∀ {H1 : Hp}, Ex H H1 → EI 6000 (tOp (rIxT K) (tVar 0) (tC (.int 1))) (L2.start ["told", "top", "bottom"] [.ref a, .int t, .int b]) H1 r.b := fun e => ⟨ev_ixT (ev_var rfl) (e _ _ ha) rfl, br.b⟩
    have wh : ∀ {te : TE} {σ : L2.St} {H1 : Hp} {i : Int}, Ev te σ H1 (.int i) → EvT (tNot (tB (tCall spIsWhole [] E0 (tCons te tNil)))) σ H1 false := fun h =>
      et_is (et_not (et_B (ev_call (ea_cons h ea_nil) fun H2 e2 Q q E => ⟨_, rfl, q H2 (Ex.refl _)⟩))) rfl
    refine q_not (et_is (et_or (et_is (et_not (et_B (ev_isi (b := true) (ev_var rfl) (fun H1 e1 => .base (.tup (e1 _ _ ha))) (kit_ty (by decide +kernel))))) rfl) fun _ => et_is (et_or (et_test (ev_neI (ev_lenT (ev_var rfl) ha) ev_c)) fun _ => et_is (et_or (wh (t0 (Ex.refl _)).v) fun _ => wh (t1 (Ex.refl _)).v) rfl) rfl) rfl) fun H1 e1 => ?_
    refine s_ret (ev_is (ev_andV (ev_op (z := .bl (decide (1 ≤ r.b))) (t1 e1).v ev_c rv_I0) fun _ => ev_andV (ev_eqI (n := gcI r.t r.b) (ev_call (ea_cons (t0 e1).v (ea_cons (t1 e1).v ea_nil)) fun H2 e2 Q q E => ⟨_, _, rfl, q H2 (Ex.refl _)⟩) ev_c) fun _ => ev_eqI (EI.mul (t0 e1) (ei_var rfl bb)).v (EI.mul (ei_var rfl bt) (t1 e1)).v) ?_) fun H2 e2 => k H2 (e1.trans e2)
    rw [decide_eq_true j.b, decide_eq_true j.g, decide_eq_true he]
    rfl
end
end Q
set_option Elab.async false
set_option linter.all false
set_option maxRecDepth 100000
set_option maxHeartbeats 2000000
namespace Q
open PySem L2 PySem.Spec PyProof.Rows PySem.Calls PySem.OwnX Evl
abbrev sOdd : Stmt := top 26
/-! ### small data can be shown -/
inductive Fs : PyData → Prop where
  | int (i : Int) (h : i.natAbs < 10 ^ 12) : Fs (.int i)
  | bl (b : Bool) : Fs (.bool b)
  | str (z : Str) (h : z.cps.size ≤ 10) (c : ∀ x ∈ z.cps.toList, x < 16 ^ 8) : Fs (.str z)
theorem fs_show {d : PyData} (h : Fs d) : d.showable = true ∧ d.leavesShort 13 = true ∧ d.bulk ≤ 10 ∧ d.depth = 0 ∧ d.hasDict = false := by
  cases h with
  | int i h =>
    refine ⟨?_, ?_, ?_, ?_, ?_⟩
    · have z : i.natAbs < 2 ^ 40 := Nat.lt_trans h (by decide)
      have z2 := PySem.Flt.log2_lt_of (by decide) z
      simp only [PyData.showable, decide_eq_true_eq]
      omega
    · simp only [PyData.leavesShort, decide_eq_true_eq]
      exact PyData.shown_int_le h
    · simp [PyData.bulk]
    · simp [PyData.depth]
    · simp [PyData.hasDict]
  | bl b => simp [PyData.showable, PyData.leavesShort, PyData.bulk, PyData.depth, PyData.hasDict]
  | str z h c =>
    refine ⟨by simp [PyData.showable], ?_, ?_, by simp [PyData.depth], by simp [PyData.hasDict]⟩
    · simp only [PyData.leavesShort, List.all_eq_true, decide_eq_true_eq]
      exact c
    · simp only [PyData.bulk]
      exact h
theorem fs_all : ∀ {ds : List PyData}, (∀ d ∈ ds, Fs d) → PyData.showableAll ds = true ∧ PyData.leavesShortAll 13 ds = true ∧ PyData.bulkAll ds ≤ 11 * ds.length ∧ PyData.depthAll ds = 0 ∧ PyData.hasDictAll ds = false
  | [], _ => by simp [PyData.showableAll, PyData.leavesShortAll, PyData.bulkAll, PyData.depthAll, PyData.hasDictAll]
  | d :: ds, h => by
    obtain ⟨a1, a2, a3, a4, a5⟩ := fs_show (h d List.mem_cons_self)
    obtain ⟨b1, b2, b3, b4, b5⟩ := fs_all (ds := ds) fun x hx => h x (List.mem_cons_of_mem _ hx)
    refine ⟨?_, ?_, ?_, ?_, ?_⟩
    · simp [PyData.showableAll, a1, b1]
    · simp [PyData.leavesShortAll, a2, b2]
    · simp only [PyData.bulkAll, List.length_cons]
      omega
    · simp [PyData.depthAll, a4, b4]
    · simp [PyData.hasDictAll, a5, b5]
theorem sh_flat {d : PyData} (h : Fs d) : Sh d := by
  obtain ⟨a1, a2, a3, a4, a5⟩ := fs_show h
  exact ⟨a1, a2, Nat.le_trans a3 (by decide), by omega⟩
theorem sh_none : Sh .none := ⟨by simp [PyData.showable], by simp [PyData.leavesShort], by simp [PyData.bulk], by simp [PyData.depth]⟩
theorem sh_tup {ds : List PyData} (h : ∀ d ∈ ds, Fs d) (hl : ds.length ≤ 10) : Sh (.tuple ds) := by
  obtain ⟨b1, b2, b3, b4, b5⟩ := fs_all h
  refine ⟨by simp [PyData.showable, b1], by simp [PyData.leavesShort, b2], ?_, ?_⟩
  · simp only [PyData.bulk]
    omega
  · simp only [PyData.depth]
    omega
theorem sh_lst {ds : List PyData} (h : ∀ d ∈ ds, Fs d) (hl : ds.length ≤ 10) : Sh (.list ds) := by
  obtain ⟨b1, b2, b3, b4, b5⟩ := fs_all h
  refine ⟨by simp [PyData.showable, b1], by simp [PyData.leavesShort, b2], ?_, ?_⟩
  · simp only [PyData.bulk]
    omega
  · simp only [PyData.depth]
    omega
/-! ### values that stay while the bag is drawn from -/
def KB (p : Addr) (H H' : Hp) : Prop := ∀ l o, l ≠ p → H l = some o → H' l = some o
theorem KB.trans {p : Addr} {H H1 H2 : Hp} (x : KB p H H1) (y : KB p H1 H2) : KB p H H2 := fun l o n e => y l o n (x l o n e)
theorem KB.ex {p : Addr} {H H' : Hp} (e : Ex H H') : KB p H H' := fun l o _ z => e l o z
theorem KB.bgd {p : Addr} {H H' : Hp} (g : Bgd p H H') : KB p H H' := g.keep
theorem KB.refl {p : Addr} {H : Hp} : KB p H H := fun _ _ _ e => e
def Good (K : PySem.W.Frag) (p : Addr) (G : Hp → V → Prop) (H : Hp) (v : V) (d : PyData) : Prop := Sh d ∧ ∀ H', KB p H H' → G H' v ∧ Dd K H' v d
theorem Good.mono {K : PySem.W.Frag} {p : Addr} {G : Hp → V → Prop} {H H' : Hp} {v : V} {d : PyData} (k : KB p H H') (h : Good K p G H v d) : Good K p G H' v d := ⟨h.1, fun H2 k2 => h.2 H2 (k.trans k2)⟩
theorem Good.here {K : PySem.W.Frag} {p : Addr} {G : Hp → V → Prop} {H : Hp} {v : V} {d : PyData} (h : Good K p G H v d) : G H v ∧ Dd K H v d := h.2 H KB.refl
def EvO (K : PySem.W.Frag) (p : Addr) (G : Hp → V → Prop) (te : TE) (σ : L2.St) : Prop := ∀ H1, BagIn p H1 → ∀ Q : VK, (∀ v d H2, Ex H1 H2 → Good K p G H2 v d → Q v H2) → te σ H1 Q
def EvOs (K : PySem.W.Frag) (p : Addr) (G : Hp → V → Prop) (ta : TA) (σ : L2.St) (n : Nat) : Prop := ∀ H1, BagIn p H1 → ∀ Q : List V → Hp → Prop, (∀ vs H2, Ex H1 H2 → vs.length = n → (∀ v ∈ vs, ∃ d, Good K p G H2 v d) → Q vs H2) → ta σ H1 Q
theorem bag_mono {p : Addr} {H H' : Hp} (e : Ex H H') (h : BagIn p H) : BagIn p H' := (bag_ex e h).bag
section
variable {K : PySem.W.Frag} {p : Addr} {G : Hp → V → Prop} {σ : L2.St} {te ta' : TE} {ta : TA} {n : Nat} {v : V} {d : PyData} {vs : List V} {ds : List PyData}
theorem eos_nil : EvOs K p G tNil σ 0 := fun H1 _ Q q => q [] H1 (Ex.refl _) rfl fun v hv => absurd hv (by simp)
theorem eos_cons (h : EvO K p G te σ) (ht : EvOs K p G ta σ n) : EvOs K p G (tCons te ta) σ (n + 1) := fun H1 hb Q q =>
  h H1 hb _ fun v d H2 e2 g2 => ht H2 (bag_mono e2 hb) _ fun vs H3 e3 hl hg => q (v :: vs) H3 (e2.trans e3) (by rw [List.length_cons, hl]) fun x hx => by
    rcases List.mem_cons.mp hx with rfl | hx
    · exact ⟨d, g2.mono (KB.ex e3)⟩
    · exact hg x hx
theorem eo_val (h : ∀ H, Val te σ H v) (g : ∀ H, G H v) (dd : ∀ H, Dd K H v d) (s : Sh d) : EvO K p G te σ := fun H1 _ Q q => h H1 _ (q v d H1 (Ex.refl _) ⟨s, fun H' _ => ⟨g H', dd H'⟩⟩)
theorem eo_tup (h : ∀ H, EvA ta σ H vs) (dd : ∀ H, DpAll K H vs ds) (hn : PyData.hasDictAll ds = false) (s : Sh (.tuple ds)) (hl : vs.length ≤ sizeLine) (g : ∀ H a, H a = some (.tup vs) → G H (.ref a)) : EvO K p G (tTup ta) σ := fun H1 hb Q q =>
  h H1 H1 (Ex.refl _) _ fun H2 e2 => ⟨hl, fun l hl => q _ (.tuple ds) _ (e2.trans (Ex.new hl)) ⟨s, fun H3 kb => by
    have z : H3 l = some (.tup vs) := kb l _ (ne_bag (bag_mono e2 hb) hl) upd_same
    exact ⟨g H3 l z, .dp (.tup (SqT.of z) (dd H3)) (by simp [PyData.hasDict, hn])⟩⟩⟩
theorem eo_lst (h : ∀ H, EvA ta σ H vs) (dd : ∀ H, DpAll K H vs ds) (hn : PyData.hasDictAll ds = false) (s : Sh (.list ds)) (hl : vs.length ≤ sizeLine) (g : ∀ H a, H a = some (.lst vs) → G H (.ref a)) : EvO K p G (tLst ta) σ := fun H1 hb Q q =>
  h H1 H1 (Ex.refl _) _ fun H2 e2 => ⟨hl, fun l hl => q _ (.list ds) _ (e2.trans (Ex.new hl)) ⟨s, fun H3 kb => by
    have z : H3 l = some (.lst vs) := kb l _ (ne_bag (bag_mono e2 hb) hl) upd_same
    exact ⟨g H3 l z, .dp (.lst (SqL.of z) (dd H3)) (by simp [PyData.hasDict, hn])⟩⟩⟩
/-- a value of a list of good ones, by the bag -/
theorem one_good {E : XK} {xs : List V} {q : Addr} {H : Hp} {Q : VK} (hb : BagIn p H) (ne : q ≠ p) (hq : H q = some (.lst xs)) (h0 : 0 < xs.length) (h1 : xs.length ≤ 1000) (g : ∀ v ∈ xs, ∃ d, Good K p G H v d) (k : ∀ v d H', Bgd p H H' → Good K p G H' v d → Q v H') : spOne [.ref p, .ref q] H Q E := by
  obtain ⟨a, b, c, e⟩ := hb
  refine ⟨p, q, a, b, c, xs, rfl, e, ne, hq, h0, h1, fun i v H' hv g2 => ?_⟩
  obtain ⟨d, hd⟩ := g v (List.mem_of_getElem? hv)
  exact k v d H' g2 (hd.mono (KB.bgd g2))
end
theorem eos_lst {K : PySem.W.Frag} {p : Addr} {G : Hp → V → Prop} {σ : L2.St} {ta : TA} {n : Nat} {H1 : Hp} {Q : VK} (h : EvOs K p G ta σ n) (hn : n ≤ 1000) (hb : BagIn p H1)
    (k : ∀ xs l H2, Ex H1 H2 → xs.length = n → (∀ v ∈ xs, ∃ d, Good K p G H2 v d) → H2 l = none → Q (.ref l) (upd H2 l (.lst xs))) : tLst ta σ H1 Q :=
  h H1 hb _ fun vs H2 e2 hl hg => ⟨Nat.le_trans (show vs.length ≤ 1000 by omega) (by decide), fun l hn => k vs l H2 e2 hl hg hn⟩
theorem q_lst {K : PySem.W.Frag} {p : Addr} {G : Hp → V → Prop} {σ : L2.St} {ta : TA} {n i : Nat} {H1 : Hp} {D : Ends} {u : TS} (h : EvOs K p G ta σ n) (hn : n ≤ 1000) (hb : BagIn p H1)
    (k : ∀ xs l H2, Ex H1 H2 → xs.length = n → (∀ v ∈ xs, ∃ d, Good K p G H2 v d) → H2 l = none → u D (σ.set i (some (.ref l))) (upd H2 l (.lst xs))) : tSeq (tAsg (tLst ta) (gName i)) u D σ H1 := by
  refine st_seq (st_setH (PV := fun v H' => ∃ xs l H2, Ex H1 H2 ∧ xs.length = n ∧ (∀ v ∈ xs, ∃ d, Good K p G H2 v d) ∧ H2 l = none ∧ v = .ref l ∧ H' = upd H2 l (.lst xs)) (fun Q q => eos_lst h hn hb fun xs l H2 e hl hg hn2 => q _ _ ⟨xs, l, H2, e, hl, hg, hn2, rfl, rfl⟩) ?_)
  rintro v H' ⟨xs, l, H2, e, hl, hg, hn2, rfl, rfl⟩
  exact k xs l H2 e hl hg hn2
/-- [..] + [..], one of them by the bag -/
theorem one_cat {K : PySem.W.Frag} {p l1 : Addr} {G : Hp → V → Prop} {σ : L2.St} {ta : TA} {n i j : Nat} {H1 : Hp} {Q : VK} {E : XK} {xs : List V} (si : σ[i]? = some (some (.ref p))) (sj : σ[j]? = some (some (.ref l1))) (h : EvOs K p G ta σ n) (hn : n ≤ 500) (hb : BagIn p H1) (h1 : H1 l1 = some (.lst xs))
    (hl : xs.length ≤ 500) (h0 : 0 < xs.length) (hg : ∀ v ∈ xs, ∃ d, Good K p G H1 v d) (k : ∀ v d H', Bgd p H1 H' → Good K p G H' v d → Q v H') : tCall spOne [] E (tCons (tVar i) (tCons (tOp rCat (tVar j) (tLst ta)) tNil)) σ H1 Q := by
  refine ⟨_, si, _, sj, ?_⟩
  refine eos_lst h (by omega) hb fun ys l2 H2 e2 hl2 hg2 hn2 => ?_
  have e3 := Ex.new (o := .lst ys) hn2
  have g3 := bag_ex (e2.trans e3) hb
  refine ⟨l1, l2, xs, ys, rfl, rfl, e3 _ _ (e2 _ _ h1), upd_same, Nat.le_trans (show xs.length + ys.length ≤ 1000 by omega) (by decide), fun q hq => ?_⟩
  have e4 := Ex.new (o := .lst (xs ++ ys)) hq
  have nq := ne_bag g3.bag hq
  have g4 := g3.new (o := .lst (xs ++ ys)) hq
  refine one_good (E := E) (G := G) g4.bag nq upd_same (by rw [List.length_append]; omega) (by rw [List.length_append]; omega) (fun v hv => ?_) fun v d H8 g8 gd => k v d H8 (g4.trans g8) gd
  rcases List.mem_append.mp hv with hv | hv
  · obtain ⟨d, hd⟩ := hg v hv
    exact ⟨d, hd.mono (KB.ex (e2.trans (e3.trans e4)))⟩
  · obtain ⟨d, hd⟩ := hg2 v hv
    exact ⟨d, hd.mono (KB.ex (e3.trans e4))⟩
def spOdd (K : PySem.W.Frag) : Sp := fun vs H Q _ => ∃ p : Addr, vs = [.ref p] ∧ BagIn p H ∧ ∀ v d H', Bgd p H H' → Good K p NoFr H' v d → Q v H'
theorem gc_zero {m : Int} (h : 2 ≤ m) : gcI 0 m ≠ 1 := by
  unfold gcI
  rw [Int.natAbs_zero, Nat.gcd_zero_left]
  omega
theorem gc_mul {m k : Int} (h : 2 ≤ m) : gcI (m * k) m ≠ 1 := by
  unfold gcI
  rw [Int.natAbs_mul, Nat.gcd_comm, Nat.gcd_mul_right_right]
  omega
section
variable {P : Program} {w : World} {K : PySem.W.Frag} {mg : Str → Option Value} {base : Heap}
theorem eo_dct {K : PySem.W.Frag} {p : Addr} {G : Hp → V → Prop} {σ : L2.St} (g : ∀ H a, H a = some (.dK [(Sum.inl 1, .int 2)]) → G H (.ref a)) : EvO K p G (tDisp [(tC (.int 1), tC (.int 2))]) σ := fun H1 hb Q q => fun l hl => by
  refine ⟨upd_same, [(Sum.inl 1, .int 2)], rfl, by decide, ?_⟩
  have z : mergeK [] [((Sum.inl 1 : Key), V.int 2)] = [(Sum.inl 1, .int 2)] := by rfl
  rw [z]
  refine q _ (.dict [(.int 1, .int 2)]) _ (Ex.mut (Ex.new hl) hl) ⟨⟨by decide +kernel, by decide +kernel, by decide +kernel, by decide +kernel⟩, fun H3 kb => ?_⟩
  have z : H3 l = some (.dK [(Sum.inl 1, .int 2)]) := kb l _ (ne_bag hb hl) upd_same
  exact ⟨g H3 l z, .d12 z⟩
theorem eo_nest {K : PySem.W.Frag} {p : Addr} {σ : L2.St} : EvO K p NoFr (tTup (tCons (tTup (tCons (tC (.int 1)) (tCons (tC (.int 2)) tNil))) (tCons (tC (.int 1)) tNil))) σ := fun H1 hb Q q => ⟨by show 2 ≤ sizeLine; decide, fun l hl => ⟨by show 2 ≤ sizeLine; decide, fun m hm => by
  have e1 := Ex.new (o := .tup [.int 1, .int 2]) hl
  refine q _ (.tuple [.tuple [.int 1, .int 2], .int 1]) _ (e1.trans (Ex.new hm)) ⟨⟨by decide +kernel, by decide +kernel, by decide +kernel, by decide +kernel⟩, fun H3 kb => ?_⟩
  have z1 : H3 l = some (.tup [.int 1, .int 2]) := kb l _ (ne_bag hb hl) (Ex.new hm _ _ upd_same)
  have z2 : H3 m = some (.tup [.ref l, .int 1]) := kb m _ (ne_bag (bag_mono e1 hb) hm) upd_same
  exact ⟨.odd z2 (.tup z1) (.int 1) rfl, .dp (.tup (SqT.of z2) (.cons (.tup (SqT.of z1) (.cons (.int 1) (.cons (.int 2) .nil))) (.cons (.int 1) .nil))) (by decide +kernel)⟩⟩⟩
theorem fs_one {i : Int} (h : i.natAbs < 10 ^ 12) : ∀ d ∈ [PyData.int i], Fs d := fun d hd => by
  rw [List.mem_singleton.mp hd]
  exact .int i h
theorem fs_two {d e : PyData} (h1 : Fs d) (h2 : Fs e) : ∀ x ∈ [d, e], Fs x := fun x hx => by
  simp only [List.mem_cons, List.not_mem_nil, or_false] at hx
  rcases hx with rfl | rfl
  · exact h1
  · exact h2
theorem eo_pair {K : PySem.W.Frag} {p : Addr} {G : Hp → V → Prop} {σ : L2.St} {tx ty : TE} {x y : V} {dx dy : PyData} (h1 : ∀ H, Ev tx σ H x) (h2 : ∀ H, Ev ty σ H y) (d1 : ∀ H, Dp K H x dx) (d2 : ∀ H, Dp K H y dy) (f1 : Fs dx) (f2 : Fs dy) (g : ∀ H a, H a = some (.tup [x, y]) → G H (.ref a)) :
    EvO K p G (tTup (tCons tx (tCons ty tNil))) σ := eo_tup (ds := [dx, dy]) (fun H => ea_cons (h1 H) (ea_cons (h2 H) ea_nil)) (fun H => .cons (d1 H) (.cons (d2 H) .nil)) (fs_all (fs_two f1 f2)).2.2.2.2 (sh_tup (fs_two f1 f2) (by show 2 ≤ 10; decide)) (by show 2 ≤ sizeLine; decide) g
theorem fi {i : Int} (h : i.natAbs < 1000) : Fs (.int i) := .int i (by omega)
theorem nd {d : PyData} (h : Fs d) : d.hasDict = false := (fs_show h).2.2.2.2
theorem f12 : ∀ d ∈ [PyData.int 1, PyData.int 2, PyData.int 3], Fs d := fun d hd => by
  simp only [List.mem_cons, List.not_mem_nil, or_false] at hd
  rcases hd with rfl | rfl | rfl <;> exact fi (by decide)
theorem f0 : ∀ d ∈ ([] : List PyData), Fs d := fun d hd => absurd hd (by simp)
theorem q12 : Fs (.str "1/2") := .str _ (by decide) (by decide)
theorem q1 : Fs (.str "1") := .str _ (by decide) (by decide)
section
variable {p : Addr} {σ : L2.St} {many more : Int}
abbrev tMul (ta tb : TE) : TE := tOp (rI CMulW fun i j => .int (i * j)) ta tb
abbrev tSub (ta tb : TE) : TE := tOp (rI0 fun i j => .int (i - j)) ta tb
abbrev tT1 (a : TE) : TE := tTup (tCons a tNil)
abbrev tT2 (a b : TE) : TE := tTup (tCons a (tCons b tNil))
abbrev tI (i : Int) : TE := tC (.int i)
theorem o_int (i : Int) (h : i.natAbs < 1000) : EvO K p NoFr (tT1 (tI i)) σ := eo_tup (ds := [.int i]) (fun H => ea_cons ev_c ea_nil) (fun H => .cons (.int i) .nil) (fs_all (fs_one (by omega))).2.2.2.2 (sh_tup (fs_one (by omega)) (by show 1 ≤ 10; decide)) (by show 1 ≤ sizeLine; decide) (fun H a h => .tup h (by show 1 ≠ 2; decide))
theorem o_123 : EvO K p NoFr (tTup (tCons (tI 1) (tCons (tI 2) (tCons (tI 3) tNil)))) σ := eo_tup (ds := [.int 1, .int 2, .int 3]) (fun H => ea_cons ev_c (ea_cons ev_c (ea_cons ev_c ea_nil))) (fun H => .cons (.int 1) (.cons (.int 2) (.cons (.int 3) .nil))) (fs_all f12).2.2.2.2 (sh_tup f12 (by show 3 ≤ 10; decide)) (by show 3 ≤ sizeLine; decide) (fun H a h => .tup h (by show 3 ≠ 2; decide))
theorem o_l12 : EvO K p NoFr (tLst (tCons (tI 1) (tCons (tI 2) tNil))) σ := eo_lst (ds := [.int 1, .int 2]) (fun H => ea_cons ev_c (ea_cons ev_c ea_nil)) (fun H => .cons (.int 1) (.cons (.int 2) .nil)) (fs_all (fs_two (fi (by decide)) (fi (by decide)))).2.2.2.2 (sh_lst (fs_two (fi (by decide)) (fi (by decide))) (by show 2 ≤ 10; decide)) (by show 2 ≤ sizeLine; decide) (fun H a h => .lst h)
theorem o_0 : EvO K p NoFr (tTup tNil) σ := eo_tup (vs := []) (ds := []) (fun H => ea_nil) (fun H => .nil) (fs_all f0).2.2.2.2 (sh_tup f0 (by show 0 ≤ 10; decide)) (by show 0 ≤ sizeLine; decide) (fun H a h => .tup h (by show 0 ≠ 2; decide))
theorem o_a (s1 : σ[1]? = some (some (.int many))) (h : 2 ≤ many ∧ many < 62) : EvO K p NoFr (tT2 (tI 0) (tVar 1)) σ := eo_pair (fun H => ev_c) (fun H => ev_var s1) (fun H => .int _) (fun H => .int _) (fi (by decide)) (fi (by omega)) (fun H a z => .two z fun g => gc_zero h.1 g.2)
theorem o_b (s1 : σ[1]? = some (some (.int many))) (h : 2 ≤ many ∧ many < 62) : EvO K p NoFr (tT2 (tVar 1) (tI 0)) σ := eo_pair (fun H => ev_var s1) (fun H => ev_c) (fun H => .int _) (fun H => .int _) (fi (by omega)) (fi (by decide)) (fun H a z => .two z fun g => absurd g.1 (by decide))
theorem o_c (s1 : σ[1]? = some (some (.int many))) (s2 : σ[2]? = some (some (.int more))) (h : 2 ≤ many ∧ many < 62) (h2 : 1 ≤ more ∧ more < 10) : EvO K p NoFr (tT2 (tVar 2) (tSub (tI 0) (tVar 1))) σ :=
  eo_pair (fun H => ev_var s2) (fun H => ev_op ev_c (ev_var s1) rv_I0) (fun H => .int _) (fun H => .int _) (fi (by omega)) (fi (by omega)) (fun H a z => .two z fun g => absurd g.1 (by omega))
theorem o_d (s1 : σ[1]? = some (some (.int many))) (s2 : σ[2]? = some (some (.int more))) (h : 2 ≤ many ∧ many < 62) (h2 : 1 ≤ more ∧ more < 10) : EvO K p NoFr (tT2 (tMul (tVar 1) (tVar 2)) (tVar 1)) σ :=
  eo_pair (fun H => ev_op (ev_var s1) (ev_var s2) (rv_I ((bd_of (n := many) (by omega)).mw (bd_of (n := more) (by omega)) (by decide)))) (fun H => ev_var s1) (fun H => .int _) (fun H => .int _) (fi (by
    rw [Int.natAbs_mul]
    have := Nat.mul_le_mul (show many.natAbs ≤ 62 by omega) (show more.natAbs ≤ 10 by omega)
    omega)) (fi (by omega)) (fun H a z => .two z fun g => gc_mul h.1 g.2)
theorem o_e (s1 : σ[1]? = some (some (.int many))) (h : 2 ≤ many ∧ many < 62) (b : Bool) : EvO K p NoFr (tT2 (tVar 1) (tC (.bl b))) σ := eo_pair (fun H => ev_var s1) (fun H => ev_c) (fun H => .int _) (fun H => .bl _) (fi (by omega)) (.bl _) (fun H a z => .odd z (.int _) (.bl _) rfl)
theorem o_f (b : Bool) : EvO K p NoFr (tT2 (tC (.bl b)) (tI 1)) σ := eo_pair (fun H => ev_c) (fun H => ev_c) (fun H => .bl _) (fun H => .int _) (.bl _) (fi (by decide)) (fun H a z => .odd z (.bl _) (.int _) rfl)
theorem o_g (s1 : σ[1]? = some (some (.int many))) (h : 2 ≤ many ∧ many < 62) : EvO K p NoFr (tT2 (tVar 1) (tC (.str "1"))) σ := eo_pair (fun H => ev_var s1) (fun H => ev_c) (fun H => .int _) (fun H => .str _) (fi (by omega)) q1 (fun H a z => .odd z (.int _) (.str _) rfl)
theorem o_h (s1 : σ[1]? = some (some (.int many))) (h : 2 ≤ many ∧ many < 62) : EvO K p NoFr (tVar 1) σ := eo_val (fun H => val_var s1) (fun H => .int _) (fun H => .dp (.int _) (by simp [PyData.hasDict])) (sh_flat (fi (by omega)))
theorem o_n : EvO K p NoFr (tC .non) σ := eo_val (fun H => val_c) (fun H => .non) (fun H => .dp .non (by simp [PyData.hasDict])) sh_none
theorem o_t (b : Bool) : EvO K p NoFr (tC (.bl b)) σ := eo_val (fun H => val_c) (fun H => .bl _) (fun H => .dp (.bl _) (by simp [PyData.hasDict])) (sh_flat (.bl _))
theorem o_s : EvO K p NoFr (tC (.str "1/2")) σ := eo_val (fun H => val_c) (fun H => .str _) (fun H => .dp (.str _) (by simp [PyData.hasDict])) (sh_flat q12)
theorem list1 (s1 : σ[1]? = some (some (.int many))) (s2 : σ[2]? = some (some (.int more))) (h : 2 ≤ many ∧ many < 62) (h2 : 1 ≤ more ∧ more < 10) : EvOs K p NoFr (tCons (tC .non) (tCons (tC (.bl true)) (tCons (tC (.str "1/2")) (tCons (tT1 (tI 1)) (tCons (tTup (tCons (tI 1) (tCons (tI 2) (tCons (tI 3) tNil)))) (tCons (tLst (tCons (tI 1) (tCons (tI 2) tNil)))
    (tCons (tT2 (tI 0) (tVar 1)) (tCons (tT2 (tVar 1) (tI 0)) (tCons (tT2 (tVar 2) (tSub (tI 0) (tVar 1))) (tCons (tT2 (tMul (tVar 1) (tVar 2)) (tVar 1)) tNil)))))))))) σ 10 :=
  eos_cons o_n (eos_cons (o_t _) (eos_cons o_s (eos_cons (o_int 1 (by decide)) (eos_cons o_123 (eos_cons o_l12 (eos_cons (o_a s1 h) (eos_cons (o_b s1 h) (eos_cons (o_c s1 s2 h h2) (eos_cons (o_d s1 s2 h h2) eos_nil)))))))))
theorem list2 (s1 : σ[1]? = some (some (.int many))) (h : 2 ≤ many ∧ many < 62) : EvOs K p NoFr (tCons (tT2 (tVar 1) (tC (.bl true))) (tCons (tT2 (tC (.bl false)) (tI 1)) (tCons (tT2 (tVar 1) (tC (.str "1"))) (tCons (tT2 (tT2 (tI 1) (tI 2)) (tI 1)) (tCons (tVar 1) (tCons (tDisp [(tI 1, tI 2)]) (tCons (tTup tNil) tNil))))))) σ 7 :=
  eos_cons (o_e s1 h _) (eos_cons (o_f _) (eos_cons (o_g s1 h) (eos_cons eo_nest (eos_cons (o_h s1 h) (eos_cons (eo_dct fun H a z => .dct z) (eos_cons o_0 eos_nil))))))
end
theorem scOdd : FnScope ["bag", "many", "more", "odd"] ["bag"] (defScope sOdd) := ⟨rfl, rfl, rfl, by decide +kernel, rfl, by decide +kernel, by decide +kernel⟩
theorem ok_odd {f : Addr} {fd : FuncData} (F : Fun K "_law_odd_fraction" "_law_odd_fraction" sOdd f fd) (CD : Cl P w K mg base 1 "_law_draw" spDraw) (CO : Cl P w K mg base 2 "_law_one_of" spOne) : FnOk P w K mg base CX0 3 f fd ["bag"] (spOdd K) := by
  refine F.ok scOdd (fun vs H Q E h => ?_) (fun cdv A outer s H vs Q E hr h => ?_)
  · obtain ⟨p, rfl, _⟩ := h
    rfl
  · obtain ⟨p, rfl, hb, k⟩ := h
    refine ⟨_, (pss_cons (ps_par (i := 1) (j := 2) (by rfl) scOdd.nd rfl rfl (by decide) rfl rfl (pa_cons (pe_op op_add pe_int (pe_cl CD hr (by decide) (by rfl) (pa_cons (pv 0) (pa_cons (pe_int) pa_nil)))) (pa_cons (pe_op op_add pe_int (pe_cl CD hr (by decide) (by rfl) (pa_cons (pv 0) (pa_cons (pe_int) pa_nil)))) pa_nil)) (by rfl))
      (pss_cons (ps_set (i := 3) scOdd.nd rfl (Or.inl rfl) (pe_lst (pa_cons (pe_non) (pa_cons (pe_bl) (pa_cons (pe_str) (pa_cons (pe_tup (pa_cons (pe_int) pa_nil)) (pa_cons (pe_tup (pa_cons (pe_int) (pa_cons (pe_int) (pa_cons (pe_int) pa_nil)))) (pa_cons (pe_lst (pa_cons (pe_int) (pa_cons (pe_int) pa_nil))) (pa_cons (pe_tup (pa_cons (pe_int) (pa_cons (pv 1) pa_nil))) (pa_cons (pe_tup (pa_cons (pv 1) (pa_cons (pe_int) pa_nil))) (pa_cons (pe_tup (pa_cons (pv 2) (pa_cons (pe_op op_sub pe_int (pv 1)) pa_nil))) (pa_cons (pe_tup (pa_cons (pe_op op_mulW (pv 1) (pv 2)) (pa_cons (pv 1) pa_nil))) pa_nil))))))))))))
      (pss_one (ps_ret (pe_cl CO hr (by decide) (by rfl) (pa_cons (pv 0) (pa_cons (pe_op op_cat (pv 3) (pe_lst (pa_cons (pe_tup (pa_cons (pv 1) (pa_cons (pe_bl) pa_nil))) (pa_cons (pe_tup (pa_cons (pe_bl) (pa_cons (pe_int) pa_nil))) (pa_cons (pe_tup (pa_cons (pv 1) (pa_cons (pe_str) pa_nil))) (pa_cons (pe_tup (pa_cons (pe_tup (pa_cons (pe_int) (pa_cons (pe_int) pa_nil))) (pa_cons (pe_int) pa_nil))) (pa_cons (pv 1) (pa_cons (pe_disp (pps_cons pe_int pe_int pps_nil) (by rfl) (by rfl) (fun z => by cases z) (by decide)) (pa_cons (pe_tup pa_nil) pa_nil))))))))) pa_nil))))))), ?_⟩
    have dr : ∀ {σ : L2.St} {c N : Int}, 0 < N ∧ N.natAbs.log2 < 9000 → σ[0]? = some (some (.ref p)) → EvB p (tOp (rI0 fun i j => .int (i + j)) (tC (.int c)) (tCall spDraw [] E0 (tCons (tVar 0) (tCons (tC (.int N)) tNil)))) σ (fun n => c ≤ n ∧ n < c + N) := fun hN hs =>
      eb_op (g := fun i j => i + j) (R := fun n => n = _) (eb_c rfl) (eb_draw hs (eb_c ⟨hN.1, Int.le_refl _, hN.2⟩)) fun m n hm hn => by
        subst hm
        exact ⟨by omega, by omega⟩
    refine dr ⟨by decide, by decide⟩ rfl H hb _ fun many H1 hm g1 => dr ⟨by decide, by decide⟩ rfl H1 g1.bag _ fun more H2 hn g2 => ⟨_, _, rfl, ?_⟩
    have m2 : 2 ≤ many ∧ many < 62 := hm
    have n2 : 1 ≤ more ∧ more < 10 := hn
    dsimp only
    refine q_lst (list1 (K := K) (many := many) (more := more) rfl rfl m2 n2) (by decide) g2.bag fun xs l1 H3 e3 hl hg hl1 => ?_
    have g3 := bag_ex e3 g2.bag
    have g4 := g3.new (o := .lst xs) hl1
    have k4 : KB p H3 (upd H3 l1 (.lst xs)) := KB.ex (Ex.new hl1)
    have a4 : upd H3 l1 (.lst xs) l1 = some (.lst xs) := upd_same
    generalize upd H3 l1 (.lst xs) = H4 at g4 k4 a4 ⊢
    refine one_cat (i := 0) (j := 3) rfl rfl (list2 (K := K) (many := many) rfl m2) (by decide) g4.bag a4 (by omega) (by omega) (fun v hv => ?_) fun v d H8 g8 gd => k v d H8 (((g1.trans g2).trans g4).trans g8) gd
    obtain ⟨d, hd⟩ := hg v hv
    exact ⟨d, hd.mono k4⟩
end
end Q
set_option Elab.async false
set_option linter.all false
set_option maxRecDepth 100000
set_option maxHeartbeats 2000000
namespace Q
open PySem L2 PySem.Spec PyProof.Rows PySem.Calls PySem.OwnX Evl
abbrev sAsked : Stmt := top 27
/-- the value that is refused -/
def Ref (C : Addr) (H : Hp) (w : Int) (v u z : V) : Prop :=
  (1 ≤ w ∧ w ≤ 6 ∧ NoFr H v ∧ z = v) ∨ (1 ≤ w ∧ w ≤ 4 ∧ (∃ r, FrA H v r) ∧ NoFr H u ∧ z = u) ∨
  (w = 0 ∧ ((Sc H v false ∧ z = v) ∨ (∃ t, v = .int t ∧ ((Sc H u false ∧ z = u) ∨ (u = .int 0 ∧ z = u)))))
def spAsked (K : PySem.W.Frag) (C : Addr) : Sp := fun vs H Q _ => ∃ (w : Int) (v u z : V) (d : PyData), vs = [.int w, v, u] ∧ Ref C H w v u z ∧ Dd K H z d ∧ Sh d ∧
  ∀ t H', Same H H' → H' t = some (.tup [.str "refused", .str d.shown]) → Q (.ref t) H'
section
variable {K : PySem.W.Frag} {H H' : Hp}
mutual
theorem dp_mono (e : Ex H H') : ∀ {v : V} {d : PyData}, Dp K H v d → Dp K H' v d
  | _, _, .non => .non
  | _, _, .bl b => .bl b
  | _, _, .int i => .int i
  | _, _, .str x => .str x
  | _, _, .lst h r => .lst (ex_l e h) (dpl_mono e r)
  | _, _, .tup h r => .tup (ex_t e h) (dpl_mono e r)
theorem dpl_mono (e : Ex H H') : ∀ {vs : List V} {ds : List PyData}, DpAll K H vs ds → DpAll K H' vs ds
  | _, _, .nil => .nil
  | _, _, .cons h r => .cons (dp_mono e h) (dpl_mono e r)
end
end
theorem _root_.L2.Dd.mono {K : PySem.W.Frag} {H H' : Hp} {v : V} {d : PyData} (e : Ex H H') (h : Dd K H v d) : Dd K H' v d := by
  cases h with
  | d12 h => exact .d12 (e _ _ h)
  | dp h n => exact .dp (dp_mono e h) n
abbrev tTold (t : TE) : TE := tTup (tCons (tC (.str "told")) (tCons t tNil))
abbrev tIs (k : Int) : TT := tTest (tOp rEq (tVar 0) (tC (.int k)))
section
variable {P : Program} {w : World} {K : PySem.W.Frag} {mg : Str → Option Value} {base : Heap} {C : Addr}
theorem scAsked : FnScope ["which", "one", "other", "e"] ["which", "one", "other"] (defScope sAsked) := ⟨rfl, rfl, rfl, by decide +kernel, rfl, by decide +kernel, by decide +kernel⟩
def tAsk (C : Addr) (W : WX) : TS :=
  tSeq (tIfS (tIs 0) (tRet (tTold (tCallS (spLowOf C) (WE W) (tCons (tVar 1) (tCons (tVar 2) tNil))))) tNext)
  (tSeq (tIfS (tIs 1) (tRet (tTold (tCallS (spBin C nuP deB) (WE W) (tCons (tVar 1) (tCons (tVar 2) tNil))))) tNext)
  (tSeq (tIfS (tIs 2) (tRet (tTold (tCallS (spBin C nuM deB) (WE W) (tCons (tVar 1) (tCons (tVar 2) tNil))))) tNext)
  (tSeq (tIfS (tIs 3) (tRet (tTold (tCallS (spBin C nuT deB) (WE W) (tCons (tVar 1) (tCons (tVar 2) tNil))))) tNext)
  (tSeq (tIfS (tIs 4) (tRet (tTold (tCallS (spLess C) (WE W) (tCons (tVar 1) (tCons (tVar 2) tNil))))) tNext)
  (tRet (tIf (tIs 5) (tTold (tCallS (spWhole C belowR) (WE W) (tCons (tVar 1) tNil))) (tTold (tCallS (spWhole C aboveR) (WE W) (tCons (tVar 1) tNil)))))))))
theorem ask_ok {W : WX} {D : Ends} {H : Hp} {w : Int} {v u z : V} (hw : Ref C H w v u z) (rz : Rz C (WE W (L2.start ["which", "one", "other", "e"] [.int w, v, u])) H z) : tAsk C W D (L2.start ["which", "one", "other", "e"] [.int w, v, u]) H := by
  have no : ∀ {k : Int}, w ≠ k → Ans (tIs k) (L2.start ["which", "one", "other", "e"] [.int w, v, u]) H false := fun h => ans_eq (val_var rfl) val_c scal_int (decide_eq_false fun z => h (by injection z))
  have yes : ∀ {k : Int}, w = k → Ans (tIs k) (L2.start ["which", "one", "other", "e"] [.int w, v, u]) H true := fun h => ans_eq (val_var rfl) val_c scal_int (decide_eq_true (by rw [h]))
  unfold tAsk
  by_cases c0 : w = 0
  · refine st_seq (st_yes (yes c0) ?_)
    rcases hw with ⟨_, _, hv, e⟩ | ⟨_, _, ⟨r, hr⟩, hu, e⟩ | ⟨h0, ⟨hv, e⟩ | ⟨t, et, ⟨hu, e⟩ | ⟨e0, e⟩⟩⟩
    · omega
    · omega
    · rw [e] at rz
      exact ⟨_, rfl, _, rfl, _, _, rfl, .inl ⟨hv, rz⟩⟩
    · rw [e] at rz
      exact ⟨_, rfl, _, rfl, _, _, rfl, .inr ⟨t, et, .inl ⟨hu, rz⟩⟩⟩
    · rw [e] at rz
      exact ⟨_, rfl, _, rfl, _, _, rfl, .inr ⟨t, et, .inr (.inl ⟨e0, rz⟩)⟩⟩
  have w1 : 1 ≤ w ∧ w ≤ 6 := by
    rcases hw with ⟨a, b, _⟩ | ⟨a, b, _⟩ | ⟨a, _⟩
    · exact ⟨a, b⟩
    · omega
    · exact absurd a c0
  refine st_seq (st_no (no c0) (st_next ?_))
  dsimp only
  by_cases c1 : w = 1
  · refine st_seq (st_yes (yes c1) ?_)
    refine ⟨_, rfl, _, rfl, ?_⟩
    rcases hw with ⟨_, _, hv, e⟩ | ⟨_, _, ⟨r, hr⟩, hu, e⟩ | ⟨h0, _⟩
    · rw [e] at rz
      exact ⟨_, _, rfl, .inl ⟨hv, rz⟩⟩
    · rw [e] at rz
      exact ⟨_, _, rfl, .inr (.inl ⟨r, hr, hu, rz⟩)⟩
    · omega
  refine st_seq (st_no (no c1) (st_next ?_))
  dsimp only
  by_cases c2 : w = 2
  · refine st_seq (st_yes (yes c2) ?_)
    refine ⟨_, rfl, _, rfl, ?_⟩
    rcases hw with ⟨_, _, hv, e⟩ | ⟨_, _, ⟨r, hr⟩, hu, e⟩ | ⟨h0, _⟩
    · rw [e] at rz
      exact ⟨_, _, rfl, .inl ⟨hv, rz⟩⟩
    · rw [e] at rz
      exact ⟨_, _, rfl, .inr (.inl ⟨r, hr, hu, rz⟩)⟩
    · omega
  refine st_seq (st_no (no c2) (st_next ?_))
  dsimp only
  by_cases c3 : w = 3
  · refine st_seq (st_yes (yes c3) ?_)
    refine ⟨_, rfl, _, rfl, ?_⟩
    rcases hw with ⟨_, _, hv, e⟩ | ⟨_, _, ⟨r, hr⟩, hu, e⟩ | ⟨h0, _⟩
    · rw [e] at rz
      exact ⟨_, _, rfl, .inl ⟨hv, rz⟩⟩
    · rw [e] at rz
      exact ⟨_, _, rfl, .inr (.inl ⟨r, hr, hu, rz⟩)⟩
    · omega
  refine st_seq (st_no (no c3) (st_next ?_))
  dsimp only
  by_cases c4 : w = 4
  · refine st_seq (st_yes (yes c4) ?_)
    refine ⟨_, rfl, _, rfl, ?_⟩
    rcases hw with ⟨_, _, hv, e⟩ | ⟨_, _, ⟨r, hr⟩, hu, e⟩ | ⟨h0, _⟩
    · rw [e] at rz
      exact ⟨_, _, rfl, .inl ⟨hv, rz⟩⟩
    · rw [e] at rz
      exact ⟨_, _, rfl, .inr (.inl ⟨r, hr, hu, rz⟩)⟩
    · omega
  refine st_seq (st_no (no c4) (st_next ?_))
  dsimp only
  by_cases c5 : w = 5
  · refine yes c5 _ ?_
    rw [if_pos rfl]
    refine ⟨_, rfl, ?_⟩
    rcases hw with ⟨_, _, hv, e⟩ | ⟨_, _, ⟨r, hr⟩, hu, e⟩ | ⟨h0, _⟩
    · rw [e] at rz
      exact ⟨_, rfl, .inl ⟨hv, rz⟩⟩
    · omega
    · omega
  · refine no c5 _ ?_
    rw [if_neg Bool.false_ne_true]
    refine ⟨_, rfl, ?_⟩
    rcases hw with ⟨_, _, hv, e⟩ | ⟨_, _, ⟨r, hr⟩, hu, e⟩ | ⟨h0, _⟩
    · rw [e] at rz
      exact ⟨_, rfl, .inl ⟨hv, rz⟩⟩
    · omega
    · omega
theorem ok_asked {f : Addr} {fd : FuncData} (F : Fun K "_law_asked" "_law_asked" sAsked f fd) (zr : mg "repr" = none) (N : NoN P w K mg C) (C0 : ClX P w K mg base 2 "lowest_of" (spLowOf C)) (C1 : ClX P w K mg base 5 "plus" (spBin C nuP deB)) (C2 : ClX P w K mg base 5 "minus" (spBin C nuM deB))
    (C3 : ClX P w K mg base 5 "times" (spBin C nuT deB)) (C4 : ClX P w K mg base 5 "is_less" (spLess C)) (C5 : ClX P w K mg base 4 "whole_below" (spWhole C belowR)) (C6 : ClX P w K mg base 4 "whole_above" (spWhole C aboveR)) : FnG P w K mg base CX0 6 f fd ["which", "one", "other"] (spAsked K C) := by
  obtain ⟨fI, newId, t, ⟨q0, m0, b0⟩, h0, k0⟩ := N.t
  refine FnG.on F scAsked (fun vs H Q E h => ?_) (fun cdv A outer s H vs Q E gd hr h => ?_)
  · obtain ⟨w, v, u, z, d, rfl, _⟩ := h
    rfl
  · obtain ⟨w, v, u, z, d, rfl, hw, hd, sh, k⟩ := h
    have gu := Nat.lt_of_le_of_lt (Nat.add_le_add_left (by decide : 40 ≤ 64) _) hr.units
    refine ⟨_, pss_one (ps_try_as (i := 3) (tb := tAsk C) (ts := fun a cls d => tRet (tTup (tCons (tC (.str "refused")) (tCons (tCB (rRepr K) (tCons (tByE C "value" a cls d (tVar 3)) tNil)) tNil)))) rfl rfl scAsked.nd rfl rfl ⟨rfl, by decide, .inl N.g⟩ takes_none5
      (fun W pn xe tk _ => pss_cons (ps_if (pt_cmpR op_eq (pv 0) pe_int (nomark _)) (pss_one (ps_ret (pe_tup (pa_cons (pe_str) (pa_cons (by exact (pe_clS (W := W) C0 hr (by decide) (by rfl) tk (pa_cons (pv 1) (pa_cons (pv 2) pa_nil)))) pa_nil))))) pss_nil)
        (pss_cons (ps_if (pt_cmpR op_eq (pv 0) pe_int (nomark _)) (pss_one (ps_ret (pe_tup (pa_cons (pe_str) (pa_cons (by exact (pe_clS (W := W) C1 hr (by decide) (by rfl) tk (pa_cons (pv 1) (pa_cons (pv 2) pa_nil)))) pa_nil))))) pss_nil)
        (pss_cons (ps_if (pt_cmpR op_eq (pv 0) pe_int (nomark _)) (pss_one (ps_ret (pe_tup (pa_cons (pe_str) (pa_cons (by exact (pe_clS (W := W) C2 hr (by decide) (by rfl) tk (pa_cons (pv 1) (pa_cons (pv 2) pa_nil)))) pa_nil))))) pss_nil)
        (pss_cons (ps_if (pt_cmpR op_eq (pv 0) pe_int (nomark _)) (pss_one (ps_ret (pe_tup (pa_cons (pe_str) (pa_cons (by exact (pe_clS (W := W) C3 hr (by decide) (by rfl) tk (pa_cons (pv 1) (pa_cons (pv 2) pa_nil)))) pa_nil))))) pss_nil)
        (pss_cons (ps_if (pt_cmpR op_eq (pv 0) pe_int (nomark _)) (pss_one (ps_ret (pe_tup (pa_cons (pe_str) (pa_cons (by exact (pe_clS (W := W) C4 hr (by decide) (by rfl) tk (pa_cons (pv 1) (pa_cons (pv 2) pa_nil)))) pa_nil))))) pss_nil)
        (pss_one (ps_ret (pe_ifExp (pt_cmpR op_eq (pv 0) pe_int (nomark _)) (pe_tup (pa_cons (pe_str) (pa_cons (by exact (pe_clS (W := W) C5 hr (by decide) (by rfl) tk (pa_cons (pv 1) pa_nil))) pa_nil))) (pe_tup (pa_cons (pe_str) (pa_cons (by exact (pe_clS (W := W) C6 hr (by decide) (by rfl) tk (pa_cons (pv 1) pa_nil))) pa_nil)))))))))))
      (fun a oe cls d pn hz hf => pss_one (ps_ret (pe_tup (pa_cons (pe_str) (pa_cons (pe_callB (call_repr gd gu) (by rfl) zr (by decide +kernel) (pa_cons (by exact (pe_byE t N.fr hz hf (pv 3))) pa_nil)) pa_nil)))))), ?_⟩
    dsimp only
    refine ask_ok hw fun dd hdd => ⟨true, N.me, fun a ha => ?_, fun q => Bool.noConfusion q⟩
    intro hn
    have e1 := Ex.new (o := .xd [("value", z)]) hdd
    refine ⟨_, rfl, rfl, rfl, dd, _, z, rfl, upd_same, rfl, z, d, rfl, hd.mono e1, sh, (by show 2 ≤ sizeLine; decide), fun t ht => k t _ (e1.trans (Ex.new ht)) upd_same⟩
end
end Q
set_option Elab.async false
set_option linter.all false
set_option maxRecDepth 100000
set_option maxHeartbeats 2000000
namespace Q
open PySem
theorem gcI_dvd (t b : Int) : gcI t b ∣ t ∧ gcI t b ∣ b := ⟨Int.ofNat_dvd_left.mpr (Nat.gcd_dvd_left _ _), Int.ofNat_dvd_left.mpr (Nat.gcd_dvd_right _ _)⟩
theorem gcI_pos {t b : Int} (h : b ≠ 0) : 0 < gcI t b := by
  unfold gcI
  have : 0 < Nat.gcd t.natAbs b.natAbs := Nat.gcd_pos_of_pos_right _ (Int.natAbs_pos.mpr h)
  omega
theorem abs_div {t g : Int} (h : g ∣ t) : (t / g).natAbs = t.natAbs / g.natAbs := by
  rw [Int.natAbs_ediv, if_pos (.inr (.inr h)), Nat.add_zero]
theorem gcI_one {t b : Int} (h : b ≠ 0) : gcI (t / gcI t b) (b / gcI t b) = 1 := by
  obtain ⟨d1, d2⟩ := gcI_dvd t b
  have e : gcI (t / gcI t b) (b / gcI t b) = ((Nat.gcd (t.natAbs / (gcI t b).natAbs) (b.natAbs / (gcI t b).natAbs) : Nat) : Int) := by
    rw [← abs_div d1, ← abs_div d2]
    rfl
  have g : (gcI t b).natAbs = Nat.gcd t.natAbs b.natAbs := Int.natAbs_natCast _
  rw [e, g, Nat.gcd_div_gcd_div_gcd_of_pos_right (Int.natAbs_pos.mpr h)]
  rfl
theorem gcI_neg (t b : Int) : gcI (-t) (-b) = gcI t b := by
  unfold gcI
  rw [Int.natAbs_neg, Int.natAbs_neg]
structure LowOk (t b : Int) (r : R2) : Prop where
  j : Just r
  e : r.t * b = t * r.b
theorem low_pos {t b : Int} (h : 0 < b) : LowOk t b ⟨t / gcI t b, b / gcI t b⟩ := by
  have hb : b ≠ 0 := by omega
  obtain ⟨d1, d2⟩ := gcI_dvd t b
  have gp := gcI_pos (t := t) hb
  obtain ⟨x, hx⟩ := d1
  obtain ⟨y, hy⟩ := d2
  have ex : t / gcI t b = x := by
    have z : t = x * gcI t b := by rw [Int.mul_comm]; exact hx
    exact Int.ediv_eq_of_eq_mul_left (by omega) z
  have ey : b / gcI t b = y := by
    have z : b = y * gcI t b := by rw [Int.mul_comm]; exact hy
    exact Int.ediv_eq_of_eq_mul_left (by omega) z
  refine ⟨⟨?_, gcI_one hb⟩, ?_⟩
  · show 1 ≤ b / gcI t b
    rw [ey]
    by_cases c : 1 ≤ y
    · exact c
    · have : gcI t b * y ≤ 0 := Int.mul_nonpos_of_nonneg_of_nonpos (by omega) (by omega)
      omega
  · show t / gcI t b * b = t * (b / gcI t b)
    rw [ex, ey]
    generalize gcI t b = g at hx hy
    subst hx
    subst hy
    grind
theorem low_ok {t b : Int} (h : b ≠ 0) : LowOk t b (lowR t b) := by
  unfold lowR
  split
  · have z := low_pos (t := -t) (b := -b) (by omega)
    refine ⟨z.j, ?_⟩
    have e := z.e
    generalize (⟨-t / gcI (-t) (-b), -b / gcI (-t) (-b)⟩ : R2) = r at e
    grind
  · exact low_pos (by omega)
theorem BdR.le {k l : Nat} {r : R2} (x : BdR k r) (h : k ≤ l) : BdR l r := ⟨x.t.le h, x.b.le h⟩
theorem low_bd {k : Nat} {t b : Int} (x : Bd k t) (y : Bd k b) : BdR k (lowR t b) := by
  unfold lowR
  split
  · exact ⟨x.neg.of_le (Int.natAbs_ediv_le_natAbs _ _), y.neg.of_le (Int.natAbs_ediv_le_natAbs _ _)⟩
  · exact ⟨x.of_le (Int.natAbs_ediv_le_natAbs _ _), y.of_le (Int.natAbs_ediv_le_natAbs _ _)⟩
/-- lowest terms of lowest terms -/
theorem low_self {r : R2} (j : Just r) : lowR r.t r.b = r := by
  unfold lowR
  have := j.b
  rw [if_neg (by omega), j.g]
  obtain ⟨t, b⟩ := r
  simp
theorem cancel {x y m : Int} (h : m ≠ 0) (e : m * x = m * y) : x = y := Int.eq_of_mul_eq_mul_left h e
section
variable {r q s : R2} {a b c d : Int}
theorem plus_ok (jr : Just r) (jq : Just q) (e1 : r.t * b = a * r.b) (e2 : q.t * d = c * q.b) (hs : s.t * deB r q = nuP r q * s.b) : s.t * (b * d) = (a * d + c * b) * s.b := by
  have h : r.b * q.b ≠ 0 := Int.mul_ne_zero (by have := jr.b; omega) (by have := jq.b; omega)
  refine cancel h ?_
  unfold deB nuP at hs
  grind
theorem minus_ok (jr : Just r) (jq : Just q) (e1 : r.t * b = a * r.b) (e2 : q.t * d = c * q.b) (hs : s.t * deB r q = nuM r q * s.b) : s.t * (b * d) = (a * d - c * b) * s.b := by
  have h : r.b * q.b ≠ 0 := Int.mul_ne_zero (by have := jr.b; omega) (by have := jq.b; omega)
  refine cancel h ?_
  unfold deB nuM at hs
  grind
theorem times_ok (jr : Just r) (jq : Just q) (e1 : r.t * b = a * r.b) (e2 : q.t * d = c * q.b) (hs : s.t * deB r q = nuT r q * s.b) : s.t * (b * d) = (a * c) * s.b := by
  have h : r.b * q.b ≠ 0 := Int.mul_ne_zero (by have := jr.b; omega) (by have := jq.b; omega)
  refine cancel h ?_
  unfold deB nuT at hs
  grind
theorem sq_pos' {x : Int} (h : x ≠ 0) : 0 < x * x := by
  rcases Int.lt_or_gt_of_ne h with c | c
  · exact Int.mul_pos_of_neg_of_neg c c
  · exact Int.mul_pos c c
theorem pos_iff {m x : Int} (h : 0 < m) : 0 < m * x ↔ 0 < x := by
  constructor
  · intro z
    by_cases c : 0 < x
    · exact c
    · have := Int.mul_nonpos_of_nonneg_of_nonpos (show 0 ≤ m by omega) (show x ≤ 0 by omega)
      omega
  · exact Int.mul_pos h
theorem less_ok (jr : Just r) (jq : Just q) (hb : b ≠ 0) (hd : d ≠ 0) (e1 : r.t * b = a * r.b) (e2 : q.t * d = c * q.b) : decide (r.t * q.b < q.t * r.b) = decide (a * d * b * d < c * b * b * d) := by
  have h1 : 0 < r.b * q.b := Int.mul_pos (by have := jr.b; omega) (by have := jq.b; omega)
  have h2 : 0 < (b * b) * (d * d) := Int.mul_pos (sq_pos' hb) (sq_pos' hd)
  have id : (r.b * q.b) * (c * b * b * d - a * d * b * d) = ((b * b) * (d * d)) * (q.t * r.b - r.t * q.b) := by grind
  refine decide_eq_decide.mpr ?_
  have z1 := pos_iff (x := c * b * b * d - a * d * b * d) h1
  have z2 := pos_iff (x := q.t * r.b - r.t * q.b) h2
  rw [id, z2] at z1
  constructor
  · intro h
    have := z1.mp (by omega)
    omega
  · intro h
    have := z1.mpr (by omega)
    omega
theorem below_ok (j : Just r) : belowR r * r.b ≤ r.t ∧ r.t < (belowR r + 1) * r.b := by
  have h := j.b
  unfold belowR
  rw [Int.fdiv_eq_ediv_of_nonneg _ (by omega)]
  exact ⟨Int.ediv_mul_le _ (by omega), Int.lt_ediv_add_one_mul_self _ (by omega)⟩
theorem above_ok (j : Just r) : (aboveR r - 1) * r.b < r.t ∧ r.t ≤ aboveR r * r.b := by
  have h := j.b
  unfold aboveR
  rw [Int.fdiv_eq_ediv_of_nonneg _ (by omega)]
  have h1 := Int.ediv_mul_le (-r.t) (b := r.b) (by omega)
  have h2 := Int.lt_ediv_add_one_mul_self (-r.t) (b := r.b) (by omega)
  generalize -r.t / r.b = x at h1 h2
  constructor
  · have e : (-x - 1) * r.b = -((x + 1) * r.b) := by grind
    rw [e]
    omega
  · have e : -x * r.b = -(x * r.b) := by grind
    rw [e]
    omega
theorem below_bd {k : Nat} (j : Just r) (b : BdR k r) : Bd k (belowR r) := by
  have h := j.b
  unfold belowR
  rw [Int.fdiv_eq_ediv_of_nonneg _ (by omega)]
  exact b.t.of_le (Int.natAbs_ediv_le_natAbs _ _)
theorem above_bd {k : Nat} (j : Just r) (b : BdR k r) : Bd k (aboveR r) := by
  have h := j.b
  unfold aboveR
  rw [Int.fdiv_eq_ediv_of_nonneg _ (by omega)]
  exact (b.t.neg.of_le (Int.natAbs_ediv_le_natAbs _ _)).neg
end
end Q
set_option Elab.async false
set_option linter.all false
set_option maxRecDepth 100000
set_option maxHeartbeats 2000000
namespace Q
open PySem L2 PySem.Spec PyProof.Rows PySem.Calls PySem.OwnX Evl
abbrev sRight : Stmt := top 28
theorem call_repr_bl {X : Cx} : CallR X (.builtin "repr") (fun xs H Q => ∃ b : Bool, xs = [.bl b] ∧ Q (.str (if b then "True" else "False")) H) := by
  intro pins s σ H xs us Q I r h
  obtain ⟨b, rfl, q⟩ := h
  cases r with
  | cons r1 r =>
    cases r
    cases (show _ = Value.bool b from r1)
    exact PySem.P.repr_of_bool ⟨.str _, H, I.tok _, ⟨_, rfl⟩, q⟩
def dR (r : R2) : PyData := .tuple [.int r.t, .int r.b]
theorem dp_R {K : PySem.W.Frag} {H : Hp} {a : Addr} {r : R2} (h : H a = some (.tup r.vs)) : Dp K H (.ref a) (dR r) := .tup (SqT.of h) (.cons (.int _) (.cons (.int _) .nil))
theorem shaped_dR (r : R2) : SeqAt.shaped (dR r) = true := rfl
theorem eqv_self (r : R2) : PyData.eqv (dR r) (dR r) = true := by
  unfold dR
  simp [PyData.eqv, PyData.eqvAll]
section
variable {K : PySem.W.Frag} {σ : L2.St} {H : Hp} {ta tb tc te : TE} {v u : V} {r q s : R2} {nu de : R2 → R2 → Int} {C : Addr} {E : XK} {t b n m l : Int} {f : R2 → Int} {c : Bool} {D : Ends} {w : TS}
theorem eu_bin (ha : Ev ta σ H v) (hb : Ev tb σ H u) (fv : FrA H v r) (fu : FrA H u q) : EvU (tCall (spBin C nu de) [] E (tCons ta (tCons tb tNil))) σ H (lowR (nu r q) (de r q)).vs := fun H1 e Q k =>
  ha H1 e _ fun H2 e2 => hb H2 (e.trans e2) _ fun H3 e3 => ⟨v, u, rfl, .inr (.inr ⟨r, q, fv.mono ((e.trans e2).trans e3), fu.mono ((e.trans e2).trans e3), fun l H' h1 h2 h3 => k l H' (fresh_back (e2.trans e3) h1) ((e2.trans e3).trans h2) h3⟩)⟩
theorem ev_less (ha : Ev ta σ H v) (hb : Ev tb σ H u) (fv : FrA H v r) (fu : FrA H u q) : Ev (tCall (spLess C) [] E (tCons ta (tCons tb tNil))) σ H (.bl (decide (r.t * q.b < q.t * r.b))) := fun H1 e Q k =>
  ha H1 e _ fun H2 e2 => hb H2 (e.trans e2) _ fun H3 e3 => ⟨v, u, rfl, .inr (.inr ⟨r, q, fv.mono ((e.trans e2).trans e3), fu.mono ((e.trans e2).trans e3), k H3 (e2.trans e3)⟩)⟩
theorem ev_whole (ha : Ev ta σ H v) (fv : FrA H v r) : Ev (tCall (spWhole C f) [] E (tCons ta tNil)) σ H (.int (f r)) := fun H1 e Q k =>
  ha H1 e _ fun H2 e2 => ⟨v, rfl, .inr ⟨r, fv.mono (e.trans e2), k H2 e2⟩⟩
theorem ev_just (h : EvU te σ H s.vs) (j : Just s) (bs : BdR 6000 s) (ht : EI 6000 ta σ H t) (hb : EI 6000 tb σ H b) (e : s.t * b = t * s.b) : Ev (tCall spIsJust [] E (tCons te (tCons ta (tCons tb tNil)))) σ H (.bl true) := fun H1 e1 Q k =>
  h H1 e1 _ fun l H2 _ e2 h2 => ht.v H2 (e1.trans e2) _ fun H3 e3 => hb.v H3 ((e1.trans e2).trans e3) _ fun H4 e4 => ⟨.non, l, s, t, b, rfl, (e3.trans e4) _ _ h2, j, bs, ht.b, hb.b, e, fun H5 e5 => k H5 (((e2.trans e3).trans e4).trans e5)⟩
/-- the same of a value that is there -/
theorem ev_justA {a : Addr} (h : Ev te σ H (.ref a)) (ha : H a = some (.tup s.vs)) (j : Just s) (bs : BdR 6000 s) (ht : EI 6000 ta σ H t) (hb : EI 6000 tb σ H b) (e : s.t * b = t * s.b) : Ev (tCall spIsJust [] E (tCons te (tCons ta (tCons tb tNil)))) σ H (.bl true) := fun H1 e1 Q k =>
  h H1 e1 _ fun H2 e2 => ht.v H2 (e1.trans e2) _ fun H3 e3 => hb.v H3 ((e1.trans e2).trans e3) _ fun H4 e4 => ⟨.non, a, s, t, b, rfl, (((e1.trans e2).trans e3).trans e4) _ _ ha, j, bs, ht.b, hb.b, e, fun H5 e5 => k H5 (((e2.trans e3).trans e4).trans e5)⟩
theorem ev_neUU (h1 : EvU ta σ H r.vs) (h2 : EvU tb σ H q.vs) (e : r = q) : Ev (tOp (rNeD K) ta tb) σ H (.bl false) := ev_opUU h1 h2 fun p1 p2 H1 a1 a2 _ => fun H2 e2 Q k => by
  subst e
  refine ⟨_, _, dp_R (e2 _ _ a1), dp_R (e2 _ _ a2), shaped_dR r, shaped_dR r, ?_⟩
  rw [eqv_self]
  exact k H2 (Ex.refl _)
theorem ev_neUA {a : Addr} (h1 : EvU ta σ H r.vs) (h2 : Ev tb σ H (.ref a)) (ha : H a = some (.tup q.vs)) (e : r = q) : Ev (tOp (rNeD K) ta tb) σ H (.bl false) := fun H1 e1 Q k =>
  h1 H1 e1 _ fun l H2 _ e2 hl => h2 H2 (e1.trans e2) _ fun H3 e3 => by
    subst e
    refine ⟨_, _, dp_R (e3 _ _ hl), dp_R (((e1.trans e2).trans e3) _ _ ha), shaped_dR r, shaped_dR r, ?_⟩
    rw [eqv_self]
    exact k H3 (e2.trans e3)
theorem ev_reprb (h : Ev te σ H (.bl c)) : Ev (tCB (fun xs H Q => ∃ b : Bool, xs = [.bl b] ∧ Q (.str (if b then "True" else "False")) H) (tCons te tNil)) σ H (.str (if c then "True" else "False")) := ev_cb (ea_cons h ea_nil) fun H1 _ Q q => ⟨c, rfl, q H1 (Ex.refl _)⟩
theorem ev_chain {p1 p2 : Int → Int → Bool} (ha : Ev ta σ H (.int n)) (hb : Ev tb σ H (.int m)) (hc : Ev tc σ H (.int l)) (h1 : p1 n m = true) (h2 : p2 m l = true) : Ev (tChain (rI0 fun i j => .bl (p1 i j)) (rI0 fun i j => .bl (p2 i j)) ta tb tc) σ H (.bl true) := fun H1 e Q q =>
  ha H1 e _ fun H2 e2 => hb H2 (e.trans e2) _ fun H3 e3 => ⟨n, m, rfl, rfl, _, rfl, by
    rw [h1, if_pos rfl]
    refine hc H3 ((e.trans e2).trans e3) _ fun H4 e4 => ⟨m, l, rfl, rfl, ?_⟩
    show Q (V.bl (p2 m l)) H4
    rw [h2]
    exact q H4 ((e2.trans e3).trans e4)⟩
theorem ev_iswhole (h : Ev te σ H (.int n)) : Ev (tCall spIsWhole [] E (tCons te tNil)) σ H (.bl true) := ev_call (ea_cons h ea_nil) fun H2 e2 Q q E => ⟨_, rfl, q H2 (Ex.refl _)⟩
end
def spRight : Sp := fun vs H Q _ => ∃ (v u : V) (r q : R2) (a b c d : Int), vs = [v, u, .int a, .int b, .int c, .int d] ∧ FrA H v r ∧ FrA H u q ∧ Bd 140 a ∧ Bd 140 b ∧ Bd 140 c ∧ Bd 140 d ∧ b ≠ 0 ∧ d ≠ 0 ∧ r.t * b = a * r.b ∧ q.t * d = c * q.b ∧ ∀ H', Same H H' → Q (.bl true) H'
section
variable {P : Program} {w : World} {K : PySem.W.Frag} {mg : Str → Option Value} {base : Heap} {C : Addr}
theorem scRight : FnScope ["one", "other", "a", "b", "c", "d", "low", "high"] ["one", "other", "a", "b", "c", "d"] (defScope sRight) := ⟨rfl, rfl, rfl, by decide +kernel, rfl, by decide +kernel, by decide +kernel⟩
theorem ok_right {f : Addr} {fd : FuncData} (F : Fun K "_law_are_right" "_law_are_right" sRight f fd) (zr : mg "repr" = none) (C1 : ClX P w K mg base 5 "plus" (spBin C nuP deB)) (C2 : ClX P w K mg base 5 "minus" (spBin C nuM deB))
    (C3 : ClX P w K mg base 5 "times" (spBin C nuT deB)) (C4 : ClX P w K mg base 5 "is_less" (spLess C)) (C5 : ClX P w K mg base 4 "whole_below" (spWhole C belowR)) (C6 : ClX P w K mg base 4 "whole_above" (spWhole C aboveR)) (CJ : Cl P w K mg base 2 "_law_is_just" spIsJust) (CW : Cl P w K mg base 1 "_law_is_whole" spIsWhole) :
    FnOk P w K mg base CX0 6 f fd ["one", "other", "a", "b", "c", "d"] spRight := by
  refine F.ok scRight (fun vs H Q E h => ?_) (fun cdv A outer s H vs Q E hr h => ?_)
  · obtain ⟨v, u, r, q, a, b, c, d, rfl, _⟩ := h
    rfl
  · obtain ⟨v, u, r, q, a, b, c, d, rfl, fv, fu, ba, bb, bc, bd, hb, hd, e1, e2, k⟩ := h
    have hu := hr.units
    refine ⟨_, (pss_cons (ps_if (pw_or (pt_not (pt_val (pe_cl CJ hr (by decide) (by rfl) (pa_cons (pe_clX C1 hr (by decide) (by rfl) (pa_cons (pv 0) (pa_cons (pv 1) pa_nil))) (pa_cons (pe_op op_add (pe_op op_mulW (pv 2) (pv 5)) (pe_op op_mulW (pv 4) (pv 3))) (pa_cons (pe_op op_mulW (pv 3) (pv 5)) pa_nil))))))
          (pw_or1 (pt_cmpR (op_neD hu) (pe_clX C1 hr (by decide) (by rfl) (pa_cons (pv 1) (pa_cons (pv 0) pa_nil))) (pe_clX C1 hr (by decide) (by rfl) (pa_cons (pv 0) (pa_cons (pv 1) pa_nil))) (nomark _)))).pt (pss_one (ps_ret pe_bl)) pss_nil)
      (pss_cons (ps_if (pw_or (pt_not (pt_val (pe_cl CJ hr (by decide) (by rfl) (pa_cons (pe_clX C2 hr (by decide) (by rfl) (pa_cons (pv 0) (pa_cons (pv 1) pa_nil))) (pa_cons (pe_op op_sub (pe_op op_mulW (pv 2) (pv 5)) (pe_op op_mulW (pv 4) (pv 3))) (pa_cons (pe_op op_mulW (pv 3) (pv 5)) pa_nil))))))
          (pw_or1 (pt_not (pt_val (pe_cl CJ hr (by decide) (by rfl) (pa_cons (pe_clX C3 hr (by decide) (by rfl) (pa_cons (pv 0) (pa_cons (pv 1) pa_nil))) (pa_cons (pe_op op_mulW (pv 2) (pv 4)) (pa_cons (pe_op op_mulW (pv 3) (pv 5)) pa_nil)))))))).pt (pss_one (ps_ret pe_bl)) pss_nil)
      (pss_cons (ps_if (pw_or (pt_cmpR op_ne (pe_callB call_repr_bl (by rfl) zr (by decide +kernel) (pa_cons (pe_clX C4 hr (by decide) (by rfl) (pa_cons (pv 0) (pa_cons (pv 1) pa_nil))) pa_nil))
          (pe_callB call_repr_bl (by rfl) zr (by decide +kernel) (pa_cons (pe_cmpR op_lt (pe_op op_mulW (pe_op op_mulW (pe_op op_mulW (pv 2) (pv 5)) (pv 3)) (pv 5)) (pe_op op_mulW (pe_op op_mulW (pe_op op_mulW (pv 4) (pv 3)) (pv 3)) (pv 5)) (nomark _)) pa_nil)) (nomark _))
          (pw_or1 (pt_cmpR op_notBl (pe_clX C4 hr (by decide) (by rfl) (pa_cons (pv 0) (pa_cons (pv 0) pa_nil))) pe_bl (nomark _)))).pt (pss_one (ps_ret pe_bl)) pss_nil)
      (pss_cons (ps_par (i := 6) (j := 7) (by rfl) scRight.nd rfl rfl (by decide) rfl rfl (pa_cons (pe_clX C5 hr (by decide) (by rfl) (pa_cons (pv 0) pa_nil)) (pa_cons (pe_clX C6 hr (by decide) (by rfl) (pa_cons (pv 0) pa_nil)) pa_nil)) (by rfl))
      (pss_cons (ps_if (pw_or (pt_not (pt_val (pe_cl CW hr (by decide) (by rfl) (pa_cons (pv 6) pa_nil)))) (pw_or (pt_not (pt_val (pe_cl CW hr (by decide) (by rfl) (pa_cons (pv 7) pa_nil))))
          (pw_or1 (pt_not (pt_chain op_le op_lt (pe_op op_mulW (pv 6) (pe_ix ix_tup (pv 0) pe_int (fun _ _ => rfl))) (pe_ix ix_tup (pv 0) pe_int (fun _ _ => rfl)) (pe_op op_mulW (pe_op op_add (pv 6) pe_int) (pe_ix ix_tup (pv 0) pe_int (fun _ _ => rfl)))))))).pt (pss_one (ps_ret pe_bl)) pss_nil)
      (pss_one (ps_ret (pe_chain op_lt op_le (pe_op op_mulW (pe_op op_sub (pv 7) pe_int) (pe_ix ix_tup (pv 0) pe_int (fun _ _ => rfl))) (pe_ix ix_tup (pv 0) pe_int (fun _ _ => rfl)) (pe_op op_mulW (pv 7) (pe_ix ix_tup (pv 0) pe_int (fun _ _ => rfl))))))))))), ?_⟩
    obtain ⟨⟨av, rfl, hav⟩, jr, br⟩ := id fv
    have va := fun {H1 : Hp} => ei_var (σ := L2.start ["one", "other", "a", "b", "c", "d", "low", "high"] [.ref av, u, .int a, .int b, .int c, .int d]) (H := H1) (i := 2) rfl ba
    have vb_ := fun {H1 : Hp} => ei_var (σ := L2.start ["one", "other", "a", "b", "c", "d", "low", "high"] [.ref av, u, .int a, .int b, .int c, .int d]) (H := H1) (i := 3) rfl bb
    have vc := fun {H1 : Hp} => ei_var (σ := L2.start ["one", "other", "a", "b", "c", "d", "low", "high"] [.ref av, u, .int a, .int b, .int c, .int d]) (H := H1) (i := 4) rfl bc
    have vd := fun {H1 : Hp} => ei_var (σ := L2.start ["one", "other", "a", "b", "c", "d", "low", "high"] [.ref av, u, .int a, .int b, .int c, .int d]) (H := H1) (i := 5) rfl bd
    have ne := de_ne jr fu.j
    have bde : Bd 4000 (deB r q) := br.b.mul fu.b.b
    have lP := low_ok (t := nuP r q) ne
    have lM := low_ok (t := nuM r q) ne
    have lT := low_ok (t := nuT r q) ne
    have bP : BdR 6000 (lowR (nuP r q) (deB r q)) := (low_bd ((br.t.mul fu.b.b).add (fu.b.t.mul br.b)) (bde.le (by decide : 4000 ≤ 4001))).le (by decide)
    have bM : BdR 6000 (lowR (nuM r q) (deB r q)) := (low_bd ((br.t.mul fu.b.b).sub (fu.b.t.mul br.b)) (bde.le (by decide : 4000 ≤ 4001))).le (by decide)
    have bT : BdR 6000 (lowR (nuT r q) (deB r q)) := (low_bd (br.t.mul fu.b.t) bde).le (by decide)
    have sw : lowR (nuP q r) (deB q r) = lowR (nuP r q) (deB r q) := by
      unfold nuP deB
      rw [Int.add_comm, Int.mul_comm q.b r.b]
    refine q_not (et_is (et_or (et_is (et_not (et_B (ev_just (eu_bin (ev_var rfl) (ev_var rfl) fv fu) lP.j bP ((EI.add (va.mul vd) (vc.mul vb_)).le (by decide)) ((vb_.mul vd).le (by decide)) (plus_ok jr fu.j e1 e2 lP.e)))) rfl)
      fun _ => et_test (ev_neUU (eu_bin (ev_var rfl) (ev_var rfl) fu fv) (eu_bin (ev_var rfl) (ev_var rfl) fv fu) sw)) rfl) fun H1 x1 => ?_
    have fv1 := fv.mono x1
    have fu1 := fu.mono x1
    refine q_not (et_is (et_or (et_is (et_not (et_B (ev_just (eu_bin (ev_var rfl) (ev_var rfl) fv1 fu1) lM.j bM ((EI.sub (va.mul vd) (vc.mul vb_)).le (by decide)) ((vb_.mul vd).le (by decide)) (minus_ok jr fu.j e1 e2 lM.e)))) rfl)
      fun _ => et_is (et_not (et_B (ev_just (eu_bin (ev_var rfl) (ev_var rfl) fv1 fu1) lT.j bT ((va.mul vc).le (by decide)) ((vb_.mul vd).le (by decide)) (times_ok jr fu.j e1 e2 lT.e)))) rfl) rfl) fun H2 x2 => ?_
    have fv2 := fv1.mono x2
    have fu2 := fu1.mono x2
    refine q_not (et_is (et_or (et_test (b := false) (ev_is (ev_op (ev_reprb (ev_less (ev_var rfl) (ev_var rfl) fv2 fu2)) (ev_reprb (ev_op (((va.mul vd).mul vb_).mul vd).v (((vc.mul vb_).mul vb_).mul vd).v rv_I0)) (rv_ne rfl)) ?_))
      fun _ => et_test (ev_is (ev_notB (ev_less (ev_var rfl) (ev_var rfl) fv2 fv2)) ?_)) rfl) fun H3 x3 => ?_
    · rw [less_ok jr fu.j hb hd e1 e2, decide_eq_true rfl]
      rfl
    · rw [decide_eq_false (Int.lt_irrefl _)]
      rfl
    have fv3 := fv2.mono x3
    refine q_par (ev_whole (ev_var rfl) fv3) (ev_whole (ev_var rfl) fv3) fun H4 x4 => ?_
    have hav4 := (((x1.trans x2).trans x3).trans x4) _ _ hav
    have bl := below_bd jr br
    have bh := above_bd jr br
    have b1 : Bd 2000 1 := (⟨by decide⟩ : Bd 1 1).le (by decide)
    have t0 : ∀ {H5 : Hp}, Ex H4 H5 → EI 2000 (tOp (rIxT K) (tVar 0) (tC (.int 0))) [some (.ref av), some u, some (.int a), some (.int b), some (.int c), some (.int d), some (.int (belowR r)), some (.int (aboveR r))] H5 r.t := fun e => ⟨ev_ixT (ev_var rfl) (e _ _ hav4) rfl, br.t⟩
    have t1 : ∀ {H5 : Hp}, Ex H4 H5 → EI 2000 (tOp (rIxT K) (tVar 0) (tC (.int 1))) [some (.ref av), some u, some (.int a), some (.int b), some (.int c), some (.int d), some (.int (belowR r)), some (.int (aboveR r))] H5 r.b := fun e => ⟨ev_ixT (ev_var rfl) (e _ _ hav4) rfl, br.b⟩
    have r0 := Ex.refl H4
    obtain ⟨l1, l2⟩ := below_ok jr
    obtain ⟨h1, h2⟩ := above_ok jr
    refine q_not (et_is (et_or (et_is (et_not (et_B (ev_iswhole (n := belowR r) (ev_var rfl)))) rfl) fun _ => et_is (et_or (et_is (et_not (et_B (ev_iswhole (n := aboveR r) (ev_var rfl)))) rfl)
      fun _ => et_is (et_not (et_test (ev_chain (p1 := fun i j => decide (i ≤ j)) (p2 := fun i j => decide (i < j)) (EI.mul (ei_var rfl bl) (t1 r0)).v (t0 r0).v (EI.mul (EI.add (ei_var rfl bl) (ei_c b1)) (t1 r0)).v (decide_eq_true l1) (decide_eq_true l2)))) rfl) rfl) rfl) fun H5 x5 => ?_
    exact s_ret (ev_chain (p1 := fun i j => decide (i < j)) (p2 := fun i j => decide (i ≤ j)) (EI.mul (EI.sub (ei_var rfl bh) (ei_c b1)) (t1 x5)).v (t0 x5).v (EI.mul (ei_var rfl bh) (t1 x5)).v (decide_eq_true h1) (decide_eq_true h2)) fun H6 x6 => k H6 ((((x1.trans x2).trans x3).trans x4).trans (x5.trans x6))
end
end Q
set_option Elab.async false
set_option linter.all false
set_option maxRecDepth 100000
set_option maxHeartbeats 2000000
namespace Q
open PySem L2 PySem.Spec PyProof.Rows PySem.Calls PySem.OwnX Evl
abbrev sRefd : Stmt := top 29
/-- a def that is called where nothing is being shown -/
structure ClG (P : Program) (w : World) (K : PySem.W.Frag) (mg : Str → Option Value) (base : Heap) (k : Nat) (x : Str) (sp : Sp) : Prop where
  ex : ∃ (f : Addr) (fd : FuncData) (ps : List Str), FnG P w K mg base CX0 k f fd ps sp ∧ mg x = some (.ref f) ∧ PySem.W.keepIn K (.ref f) = true ∧ Binds K fd ps []
section
variable {X : Cx} {k j : Nat} {x : Str} {sp : Sp} {p pos : Pos} {e : Expr} {es : List Expr} {t : TA}
theorem pe_clG (c : ClG X.prog X.w X.K X.mg X.base k x sp) (gd : X.A.guards = some []) (hr : Room j X.A) (hk : k ≤ j) (hg : Gl X x) (ha : PA X (e :: es) t)
    (hdb : (x == ("__debug__" : Str)) = false := by decide) (he : starEach (e :: es) X.env = (false, eval e X.env) :: starEach es X.env := by rfl) (hpl : (backTo pos (starEach es X.env)).any (·.1) = false := by rfl) :
    PE X (.Call (.Name x p) (e :: es) [] pos) (tCall sp [] E0 t) := by
  obtain ⟨f, fd, ps, F, hm, kp, b⟩ := c.ex
  exact pe_callG F gd (hr.mono hk) hg hm kp b pass0 ha hdb he hpl
end
/-- a tuple is given -/
def EvW (te : TE) (σ : L2.St) (H : Hp) (xs : List V) : Prop := ∀ H1, Ex H H1 → ∀ Q : VK, (∀ p H2, Ex H1 H2 → H2 p = some (.tup xs) → Q (.ref p) H2) → te σ H1 Q
def dS (x y : Str) : PyData := .tuple [.str x, .str y]
theorem dp_S {K : PySem.W.Frag} {H : Hp} {a : Addr} {x y : Str} (h : H a = some (.tup [.str x, .str y])) : Dp K H (.ref a) (dS x y) := .tup (SqT.of h) (.cons (.str _) (.cons (.str _) .nil))
def rEqP (K : PySem.W.Frag) : L2.R2 := fun x y H Q => ∃ d e, Dp K H x d ∧ Dp K H y e ∧ d.plain = true ∧ e.plain = true ∧ d.depth ≤ 20 ∧ Q (.bl (PyData.eqv d e)) H
def rNeP (K : PySem.W.Frag) : L2.R2 := fun x y H Q => ∃ d e, Dp K H x d ∧ Dp K H y e ∧ d.plain = true ∧ e.plain = true ∧ d.depth ≤ 20 ∧ Q (.bl (!PyData.eqv d e)) H
theorem op_eqP {X : Cx} (hu : X.A.units + 64 < cLine) : OpR X (compareOp .Eq) (rEqP X.K) := by
  rintro pins s σ H x y v u Q I rx ry ⟨d, e, hd, he, pd, pe, hp, q⟩
  obtain ⟨as, r1⟩ := Dp.reads I d x v hd rx
  obtain ⟨bs, r2⟩ := Dp.reads I e y u he ry
  exact PySem.SeqAt.eq_plain r1 r2 pd pe (by omega) ⟨.bl _, H, I, rfl, q⟩
theorem op_neP {X : Cx} (hu : X.A.units + 64 < cLine) : OpR X (compareOp .NotEq) (rNeP X.K) := by
  rintro pins s σ H x y v u Q I rx ry ⟨d, e, hd, he, pd, pe, hp, q⟩
  obtain ⟨as, r1⟩ := Dp.reads I d x v hd rx
  obtain ⟨bs, r2⟩ := Dp.reads I e y u he ry
  exact PySem.SeqAt.ne_plain r1 r2 pd pe (by omega) ⟨.bl _, H, I, rfl, q⟩
theorem plain_dS (x y : Str) : (dS x y).plain = true := by simp [dS, PyData.plain, PyData.plainAll]
theorem depth_dS (x y : Str) : (dS x y).depth ≤ 20 := by simp [dS, PyData.depth, PyData.depthAll]
theorem eqv_dS (x y : Str) : PyData.eqv (dS x y) (dS x y) = true := by
  unfold dS
  simp [PyData.eqv, PyData.eqvAll]
section
variable {K : PySem.W.Frag} {σ : L2.St} {H : Hp} {ta tb tc te : TE} {v u z : V} {r : R2} {C : Addr} {E : XK} {w n : Int} {d : PyData} {x y : Str} {D : Ends} {ts : TS} {p : Addr}
theorem ew_asked (ha : Ev ta σ H (.int w)) (hb : Ev tb σ H v) (hc : Ev tc σ H u) (hr : ∀ H1, Ex H H1 → Ref C H1 w v u z) (hd : Dd K H z d) (sh : Sh d) : EvW (tCall (spAsked K C) [] E (tCons ta (tCons tb (tCons tc tNil)))) σ H [.str "refused", .str d.shown] := fun H1 e Q k =>
  ha H1 e _ fun H2 e2 => hb H2 (e.trans e2) _ fun H3 e3 => hc H3 ((e.trans e2).trans e3) _ fun H4 e4 => ⟨w, v, u, z, d, rfl, hr H4 (((e.trans e2).trans e3).trans e4), hd.mono (((e.trans e2).trans e3).trans e4), sh, fun t H5 e5 h5 => k t H5 (((e2.trans e3).trans e4).trans e5) h5⟩
theorem ev_repr (ha : Ev te σ H v) (hd : Dd K H v d) (sh : Sh d) : Ev (tCB (rRepr K) (tCons te tNil)) σ H (.str d.shown) := ev_cb (ea_cons ha ea_nil) fun H1 e Q q => ⟨v, d, rfl, hd.mono e, sh, q H1 (Ex.refl _)⟩
theorem ew_pair (h : Ev te σ H (.str y)) : EvW (tTup (tCons (tC (.str x)) (tCons te tNil))) σ H [.str x, .str y] := fun H1 e Q k => eu_tup (ea_cons ev_c (ea_cons h ea_nil)) (by show 2 ≤ 100000; decide) H1 e Q fun p H2 _ e2 h2 => k p H2 e2 h2
theorem ev_neS (h1 : EvW ta σ H [.str x, .str y]) (h2 : EvW tb σ H [.str x, .str y]) : Ev (tOp (rNeP K) ta tb) σ H (.bl false) := fun H1 e Q k =>
  h1 H1 e _ fun p1 H2 e2 a1 => h2 H2 (e.trans e2) _ fun p2 H3 e3 a2 => by
    refine ⟨_, _, dp_S (e3 _ _ a1), dp_S a2, plain_dS x y, plain_dS x y, depth_dS x y, ?_⟩
    rw [eqv_dS]
    exact k H3 (e2.trans e3)
theorem ev_isfrN (ha : Ev te σ H v) (h : NoFr H v) : Ev (tCall spIsFr [] E (tCons te tNil)) σ H (.bl false) := ev_call (ea_cons ha ea_nil) fun H1 e Q q E => ⟨v, rfl, .inl ⟨h.mono e, q H1 (Ex.refl _)⟩⟩
theorem ev_isfrY (ha : Ev te σ H v) (h : FrA H v r) : Ev (tCall spIsFr [] E (tCons te tNil)) σ H (.bl true) := ev_call (ea_cons ha ea_nil) fun H1 e Q q E => ⟨v, rfl, .inr ⟨r, h.mono e, q H1 (Ex.refl _)⟩⟩
/-- a value of a written list of good ones, by the bag -/
theorem one_lst {G : Hp → V → Prop} {ta : TA} {n i : Nat} {Q : VK} (si : σ[i]? = some (some (.ref p))) (h : EvOs K p G ta σ n) (hn : n ≤ 500) (h0 : 0 < n) (hb : BagIn p H) (k : ∀ v d H', Bgd p H H' → Good K p G H' v d → Q v H') : tCall spOne [] E (tCons (tVar i) (tCons (tLst ta) tNil)) σ H Q := by
  refine ⟨_, si, ?_⟩
  refine eos_lst h (by omega) hb fun ys l2 H2 e2 hl2 hg2 hn2 => ?_
  have e3 := Ex.new (o := .lst ys) hn2
  have g3 := bag_ex (e2.trans e3) hb
  refine one_good (E := E) (G := G) g3.bag (ne_bag (bag_ex e2 hb).bag hn2) upd_same (by omega) (by omega) (fun v hv => ?_) fun v d H8 g8 gd => k v d H8 (g3.trans g8) gd
  obtain ⟨d, hd⟩ := hg2 v hv
  exact ⟨d, hd.mono (KB.ex e3)⟩
theorem q_asgG {PV : V → Hp → Prop} {i : Nat} (h : ∀ Q : VK, (∀ v H', PV v H' → Q v H') → te σ H Q) (k : ∀ v H', PV v H' → ts D (σ.set i (some v)) H') : tSeq (tAsg te (gName i)) ts D σ H := st_seq (st_setH (PV := PV) h k)
end
abbrev IsSc : Hp → V → Prop := fun H v => Sc H v false
section
variable {K : PySem.W.Frag} {σ : L2.St} {p : Addr}
theorem w_n : EvO K p IsSc (tC .non) σ := eo_val (fun H => val_c) (fun H => .non) (fun H => .dp .non (by simp [PyData.hasDict])) sh_none
theorem w_t (b : Bool) : EvO K p IsSc (tC (.bl b)) σ := eo_val (fun H => val_c) (fun H => .bl _) (fun H => .dp (.bl _) (by simp [PyData.hasDict])) (sh_flat (.bl _))
theorem q5 : Fs (.str "5") := .str _ (by decide) (by decide)
theorem w_s : EvO K p IsSc (tC (.str "5")) σ := eo_val (fun H => val_c) (fun H => .str _) (fun H => .dp (.str _) (by simp [PyData.hasDict])) (sh_flat q5)
theorem w_u : EvO K p IsSc (tT2 (tI 5) (tI 1)) σ := eo_pair (fun H => ev_c) (fun H => ev_c) (fun H => .int _) (fun H => .int _) (fi (by decide)) (fi (by decide)) (fun H a z => .tup z)
theorem w_l : EvO K p IsSc (tLst (tCons (tI 5) tNil)) σ := eo_lst (ds := [.int 5]) (fun H => ea_cons ev_c ea_nil) (fun H => .cons (.int _) .nil) (fs_all (fs_one (by decide))).2.2.2.2 (sh_lst (fs_one (by decide)) (by show 1 ≤ 10; decide)) (by show 1 ≤ sizeLine; decide) (fun H a h => .lst h)
theorem wholes : EvOs K p IsSc (tCons (tC .non) (tCons (tC (.bl true)) (tCons (tC (.str "5")) (tCons (tT2 (tI 5) (tI 1)) (tCons (tLst (tCons (tI 5) tNil)) (tCons (tC (.bl false)) tNil)))))) σ 6 := eos_cons w_n (eos_cons (w_t _) (eos_cons w_s (eos_cons w_u (eos_cons w_l (eos_cons (w_t _) eos_nil)))))
end
def spRefd : Sp := fun vs H Q _ => ∃ (p : Addr) (v : V) (r : R2), vs = [.ref p, v] ∧ BagIn p H ∧ FrA H v r ∧ ∀ H', Bgd p H H' → Q (.bl true) H'
section
variable {P : Program} {w : World} {K : PySem.W.Frag} {mg : Str → Option Value} {base : Heap} {C : Addr}
theorem scRefd : FnScope ["bag", "one", "odd", "other", "which", "whole"] ["bag", "one"] (defScope sRefd) := ⟨rfl, rfl, rfl, by decide +kernel, rfl, by decide +kernel, by decide +kernel⟩
theorem ok_refd {f : Addr} {fd : FuncData} (F : Fun K "_law_are_refused" "_law_are_refused" sRefd f fd) (zr : mg "repr" = none) (T : TB mg) (CO : Cl P w K mg base 3 "_law_odd_fraction" (spOdd K)) (CF : Cl P w K mg base 2 "is_fraction" spIsFr) (CA : ClG P w K mg base 6 "_law_asked" (spAsked K C))
    (C1 : Cl P w K mg base 2 "_law_one_of" spOne) (CI : Cl P w K mg base 3 "_law_integer" spInteger) : FnG P w K mg base CX0 7 f fd ["bag", "one"] spRefd := by
  refine FnG.on F scRefd (fun vs H Q E h => ?_) (fun cdv A outer s H vs Q E gd hr h => ?_)
  · obtain ⟨p, v, r, rfl, _⟩ := h
    rfl
  · obtain ⟨p, v, r, rfl, hb, fv, k⟩ := h
    have hu := hr.units
    have gu := Nat.lt_of_le_of_lt (Nat.add_le_add_left (by decide : 40 ≤ 64) _) hr.units
    refine ⟨_, (pss_cons (ps_par (i := 2) (j := 3) (by rfl) scRefd.nd rfl rfl (by decide) rfl rfl (pa_cons (pe_cl CO hr (by decide) (by rfl) (pa_cons (pv 0) pa_nil)) (pa_cons (pe_cl CO hr (by decide) (by rfl) (pa_cons (pv 0) pa_nil)) pa_nil)) (by rfl))
      (pss_cons (ps_if (pw_or (pt_cmpR op_notBl (pe_cl CF hr (by decide) (by rfl) (pa_cons (pv 2) pa_nil)) pe_bl (nomark _)) (pw_or1 (pt_cmpR op_notBl (pe_cl CF hr (by decide) (by rfl) (pa_cons (pv 1) pa_nil)) pe_bl (nomark _)))).pt (pss_one (ps_ret pe_bl)) pss_nil)
      (pss_cons (ps_for PassesOwn.never rfl (pi_range2 (by rfl) T.range (pa_cons (pe_int) (pa_cons (pe_int) pa_nil))) (pg_name (i := 4) scRefd.nd rfl (.inl rfl))
        (pss_cons (ps_if (pt_cmpR (op_neP hu) (pe_clG CA gd hr (by decide) (by rfl) (pa_cons (pv 4) (pa_cons (pv 2) (pa_cons (pv 1) pa_nil)))) (pe_tup (pa_cons (pe_str) (pa_cons (pe_callB (call_repr gd gu) (by rfl) zr (by decide +kernel) (pa_cons (pv 2) pa_nil)) pa_nil))) (nomark _)) (pss_one (ps_ret pe_bl)) pss_nil)
        (pss_cons (ps_if (pw_and (pt_cmpR op_lt (pv 4) pe_int (nomark _)) (pw_and1 (pt_cmpR (op_neP hu) (pe_clG CA gd hr (by decide) (by rfl) (pa_cons (pv 4) (pa_cons (pv 1) (pa_cons (pv 3) pa_nil)))) (pe_tup (pa_cons (pe_str) (pa_cons (pe_callB (call_repr gd gu) (by rfl) zr (by decide +kernel) (pa_cons (pv 3) pa_nil)) pa_nil))) (nomark _)))).pt (pss_one (ps_ret pe_bl)) pss_nil)
        (pss_one (ps_if (pw_and (pt_cmpR op_lt (pv 4) pe_int (nomark _)) (pw_and1 (pt_cmpR (op_neP hu) (pe_clG CA gd hr (by decide) (by rfl) (pa_cons (pv 4) (pa_cons (pv 2) (pa_cons (pv 3) pa_nil)))) (pe_tup (pa_cons (pe_str) (pa_cons (pe_callB (call_repr gd gu) (by rfl) zr (by decide +kernel) (pa_cons (pv 2) pa_nil)) pa_nil))) (nomark _)))).pt (pss_one (ps_ret pe_bl)) pss_nil)))))
      (pss_cons (ps_set (i := 5) scRefd.nd rfl (Or.inl rfl) (pe_cl C1 hr (by decide) (by rfl) (pa_cons (pv 0) (pa_cons (pe_lst (pa_cons (pe_non) (pa_cons (pe_bl) (pa_cons (pe_str) (pa_cons (pe_tup (pa_cons (pe_int) (pa_cons (pe_int) pa_nil))) (pa_cons (pe_lst (pa_cons (pe_int) pa_nil)) (pa_cons (pe_bl) pa_nil))))))) pa_nil))))
      (pss_cons (ps_if (pw_or (pt_cmpR (op_neP hu) (pe_clG CA gd hr (by decide) (by rfl) (pa_cons (pe_int) (pa_cons (pv 5) (pa_cons (pe_int) pa_nil)))) (pe_tup (pa_cons (pe_str) (pa_cons (pe_callB (call_repr gd gu) (by rfl) zr (by decide +kernel) (pa_cons (pv 5) pa_nil)) pa_nil))) (nomark _))
        (pw_or1 (pt_cmpR (op_neP hu) (pe_clG CA gd hr (by decide) (by rfl) (pa_cons (pe_int) (pa_cons (pe_int) (pa_cons (pv 5) pa_nil)))) (pe_tup (pa_cons (pe_str) (pa_cons (pe_callB (call_repr gd gu) (by rfl) zr (by decide +kernel) (pa_cons (pv 5) pa_nil)) pa_nil))) (nomark _)))).pt (pss_one (ps_ret pe_bl)) pss_nil)
      (pss_one (ps_ret (pe_cmpR (op_eqP hu) (pe_clG CA gd hr (by decide) (by rfl) (pa_cons (pe_int) (pa_cons (pe_cl CI hr (by decide) (by rfl) (pa_cons (pv 0) pa_nil)) (pa_cons (pe_int) pa_nil)))) (pe_tup (pa_cons (pe_str) (pa_cons (pe_str) pa_nil))) (nomark _))))))))), ?_⟩
    refine ⟨_, rfl, p, rfl, hb, fun v1 d1 H1 g1 gd1 => ⟨_, rfl, p, rfl, g1.bag, fun v2 d2 H2 g2 gd2 => ⟨_, _, rfl, ?_⟩⟩⟩
    dsimp only
    have fv2 := (fv.bgd g1 hb).bgd g2 g1.bag
    have o1 := gd1.mono (KB.bgd g2)
    obtain ⟨n1, dd1⟩ := o1.here
    obtain ⟨n2, dd2⟩ := gd2.here
    refine q_not (et_is (et_or (et_test (ev_is (ev_notB (ev_isfrN (ev_var rfl) n1)) rfl)) fun _ => et_test (ev_is (ev_notB (ev_isfrY (ev_var rfl) fv2)) rfl)) rfl) fun H3 x3 => ?_
    refine q_forR2 (lo := 1) (n := 7) (ea_cons ev_c (ea_cons ev_c ea_nil)) (by decide) (fun _ σ' H' => Ex H3 H' ∧ ∃ x, σ' = [some (.ref p), some v, some v1, some v2, x, none]) (fun H4 x4 => ⟨x4, _, rfl⟩) ?_ ?_
    · rintro i σ' H4 hi ⟨x4, x, rfl⟩
      have e4 := x3.trans x4
      have m1 := n1.mono e4
      have m2 := n2.mono e4
      have b1 := dd1.mono e4
      have b2 := dd2.mono e4
      have f4 := fv2.mono e4
      have w1 : 1 ≤ (1 : Int) + (i : Int) ∧ (1 : Int) + (i : Int) ≤ 6 := by omega
      generalize (1 : Int) + (i : Int) = wh at w1
      dsimp only [List.set]
      refine q_not (et_test (ev_neS (ew_asked (ev_var rfl) (ev_var rfl) (ev_var rfl) (fun H5 x5 => .inl ⟨w1.1, w1.2, m1.mono x5, rfl⟩) b1 gd1.1) (ew_pair (ev_repr (ev_var rfl) b1 gd1.1)))) fun H5 x5 => ?_
      refine q_not (et_is (et_and (et_test (ev_op (z := .bl (decide (wh < 5))) (ev_var rfl) ev_c rv_I0)) fun h5 => et_test (ev_neS (ew_asked (ev_var rfl) (ev_var rfl) (ev_var rfl) (fun H6 x6 => .inr (.inl ⟨w1.1, by have := of_decide_eq_true h5; omega, ⟨r, f4.mono (x5.trans x6)⟩, m2.mono (x5.trans x6), rfl⟩)) (b2.mono x5) gd2.1) (ew_pair (ev_repr (ev_var rfl) (b2.mono x5) gd2.1)))) (Bool.and_false _)) fun H6 x6 => ?_
      have x56 := x5.trans x6
      refine s_when (et_is (et_and (et_test (ev_op (z := .bl (decide (wh < 5))) (ev_var rfl) ev_c rv_I0)) fun h5 => et_test (ev_neS (ew_asked (ev_var rfl) (ev_var rfl) (ev_var rfl) (fun H7 x7 => .inl ⟨w1.1, w1.2, m1.mono (x56.trans x7), rfl⟩) (b1.mono x56) gd1.1) (ew_pair (ev_repr (ev_var rfl) (b1.mono x56) gd1.1)))) (Bool.and_false _)) (fun z => nomatch z) fun _ H7 x7 => ⟨(x4.trans x56).trans x7, _, rfl⟩
    · rintro σ' H4 ⟨x4, x, rfl⟩
      have e4 := x3.trans x4
      have g4 := (g1.trans g2).trans (bag_ex e4 g2.bag)
      refine q_asgG (PV := fun u H' => ∃ d, Bgd p H4 H' ∧ Good K p IsSc H' u d) (fun Q q => one_lst (i := 0) rfl (wholes (K := K)) (by decide) (by decide) g4.bag fun u d H5 g5 gu => q _ _ ⟨d, g5, gu⟩) ?_
      rintro u H5 ⟨d, g5, gdu⟩
      obtain ⟨su, du⟩ := gdu.here
      have sh := gdu.1
      have g45 := g4.trans g5
      dsimp only [List.set]
      refine q_not (et_is (et_or (et_test (ev_neS (ew_asked ev_c (ev_var rfl) ev_c (fun H6 x6 => .inr (.inr ⟨rfl, .inl ⟨su.mono x6, rfl⟩⟩)) du sh) (ew_pair (ev_repr (ev_var rfl) du sh))))
        fun _ => et_test (ev_neS (ew_asked ev_c ev_c (ev_var rfl) (fun H6 x6 => .inr (.inr ⟨rfl, .inr ⟨5, rfl, .inl ⟨su.mono x6, rfl⟩⟩⟩)) du sh) (ew_pair (ev_repr (ev_var rfl) du sh)))) rfl) fun H6 x6 => ?_
      have g6 := g45.trans (bag_ex x6 g45.bag)
      have z0 : (PyData.int 0).shown = "0" := by
        rw [PyData.shown_int]
        rfl
      refine ⟨_, rfl, p, rfl, g6.bag, fun n H7 hn g7 => ⟨0, .int n, .int 0, .int 0, .int 0, rfl, .inr (.inr ⟨rfl, .inr ⟨n, rfl, .inr ⟨rfl, rfl⟩⟩⟩), .dp (.int 0) (by simp [PyData.hasDict]), sh_flat (fi (by decide)), fun t H8 e8 h8 => ⟨(by show 2 ≤ sizeLine; decide), fun l hl => ?_⟩⟩⟩
      rw [z0] at h8
      refine ⟨_, _, dp_S (Ex.new hl _ _ h8), dp_S upd_same, plain_dS _ _, plain_dS _ _, depth_dS _ _, ?_⟩
      rw [eqv_dS]
      exact k _ (g6.trans (g7.trans (bag_ex (e8.trans (Ex.new hl)) g7.bag)))
end
end Q
set_option Elab.async false
set_option linter.all false
set_option maxRecDepth 100000
set_option maxHeartbeats 2000000
namespace Q
open PySem L2 PySem.Spec PyProof.Rows PySem.Calls PySem.OwnX Evl
/-! ### texts sign by sign -/
theorem vals_of : ∀ {xs : List V} {us : List Value}, xs.length = us.length → (∀ (j : Nat) x u, xs[j]? = some x → us[j]? = some u → RelV x u) → Vals xs us
  | [], [], _, _ => .nil
  | x :: xs, u :: us, h, r => .cons (r 0 x u rfl rfl) (vals_of (by simpa using h) fun j a b ha hb => r (j + 1) a b (by simpa using ha) (by simpa using hb))
  | [], _ :: _, h, _ => nomatch h
  | _ :: _, [], h, _ => nomatch h
def signsV (z : Str) : List V := z.cps.toList.map fun c => V.str ⟨#[c]⟩
def rLStr : List V → Hp → VK → Prop := fun xs H Q => ∃ z : Str, xs = [.str z] ∧ z.cps.size ≤ 1000 ∧ ∀ l, H l = none → Q (.ref l) (upd H l (.lst (signsV z)))
theorem call_lstr {X : Cx} (hc : X.calm = true) : CallR X (.type "list") rLStr := by
  rintro pins s σ H xs us Q I r ⟨z, rfl, hz, q⟩
  obtain ⟨u, rfl, ru⟩ := vals1 r
  obtain ⟨t, rfl⟩ := ru
  have hz' : z.cps.size ≤ sizeLine := Nat.le_trans hz (by decide)
  refine call_list_str (I.ok.hd hc) z t (hn := hz') fun h' tk acc c hk hS hi => ?_
  have rel : Vals (signsV z) acc.toList := vals_of (by simp [signsV, hi.1]) fun j x u hx hu => by
    obtain ⟨c, t, h1, h2⟩ := hi.2 j u (by simpa using hu)
    rw [h2]
    have e : x = V.str ⟨#[c]⟩ := by
      unfold signsV at hx
      rw [List.getElem?_map, Array.getElem?_toList, h1] at hx
      exact (Option.some.inj hx).symm
    rw [e]
    exact ⟨t, rfl⟩
  exact ⟨.ref s.heap.objs.size, _, I.laid (t' := tk) hk (Nat.le_refl _) (show ObjOk X.prog X.w _ h' _ (.lst (signsV z)) from ⟨by simpa [signsV] using hz', acc.toList, c, rel, by simpa using hS⟩), rfl, q _ (I.hok.fresh (Nat.le_refl _))⟩
theorem et_yes {σ : L2.St} {H : Hp} : EvT tYes σ H true := fun H1 _ Q q => q H1 (Ex.refl _)
theorem el_lcS {σ : L2.St} {H : Hp} {z : Str} {tl te : TE} {j : Nat} {vs : List Nat} (v : Nat → V) (h : Ev tl σ H (.str z)) (hz : z.cps.size ≤ 40000) (hw : ∀ x, wipe ((wipe σ vs).set j (some x)) vs = wipe σ vs)
    (he : ∀ (i : Nat) (c : Nat) H1, Ex H H1 → z.cps[i]? = some c → Ev te ((wipe σ vs).set j (some (.str ⟨#[c]⟩))) H1 (v i)) : EvL (tLc (iStr tl) (gName j) tYes te vs) σ H (given z.cps.size (fun _ => true) v) := fun H0 e Q q =>
  h H0 e _ fun H1 e1 => ⟨z, rfl, fun Dl hD => lc_it walk_str (Cw H1 (fun _ => true) v Dl) ⟨hD, Ex.new hD, upd_same⟩ (fun _ _ _ _ => True.intro) (fun i x H2 H3 hi p y => by
    obtain ⟨rfl, c, hc, rfl⟩ := y
    exact ⟨hw _, cw_turn p (by omega) et_yes fun _ => he i c H1 (e.trans e1) hc⟩) fun H' p => q Dl H' (fresh_back e1 p.1) (e1.trans p.2.1) p.2.2⟩
theorem given_all (n : Nat) (t : Nat → Bool) : given n (fun _ => true) (fun i => V.bl (t i)) = ((List.range n).map t).map V.bl := by
  unfold given
  rw [List.filter_eq_self.mpr (fun _ _ => rfl), List.map_map]
  rfl
/-! ### names -/
abbrev sNames : Stmt := top 30
def isLow (c : Nat) : Bool := decide (97 ≤ c) && decide (c ≤ 122)
def nameB (z : Str) : Bool := decide (1 ≤ z.length ∧ z.length ≤ 20) && z.cps.toList.all isLow
inductive Nm (H : Hp) : V → Bool → Prop where
  | str (z : Str) (h : z.cps.size ≤ 1000) : Nm H (.str z) (nameB z)
  | int (i : Int) : Nm H (.int i) false
  | non : Nm H .non false
  | lst {a : Addr} {xs : List V} (h : H a = some (.lst xs)) : Nm H (.ref a) false
  | tup {a : Addr} {xs : List V} (h : H a = some (.tup xs)) : Nm H (.ref a) false
theorem Nm.mono {H H' : Hp} {v : V} {b : Bool} (e : Ex H H') (h : Nm H v b) : Nm H' v b := by
  cases h with
  | str z h => exact .str z h
  | int i => exact .int i
  | non => exact .non
  | lst h => exact .lst (e _ _ h)
  | tup h => exact .tup (e _ _ h)
def spIsName : Sp := fun vs H Q _ => ∃ (v : V) (b : Bool), vs = [v] ∧ Nm H v b ∧ ∀ H', Same H H' → Q (.bl b) H'
def lowAt (z : Str) (i : Nat) : Bool := match z.cps[i]? with | some c => isLow c | none => true
theorem lowAt_all (z : Str) : ((List.range z.cps.size).map (lowAt z)).all id = z.cps.toList.all isLow := by
  rw [Bool.eq_iff_iff, List.all_eq_true, List.all_eq_true]
  constructor
  · intro h c hc
    obtain ⟨i, hi, e⟩ := List.getElem_of_mem hc
    rw [Array.length_toList] at hi
    have z1 := h (lowAt z i) (List.mem_map.mpr ⟨i, List.mem_range.mpr hi, rfl⟩)
    have e2 : z.cps[i]? = some c := by
      rw [← Array.getElem?_toList, List.getElem?_eq_getElem (by simpa using hi), e]
    unfold lowAt at z1
    rw [e2] at z1
    exact z1
  · intro h b hb
    obtain ⟨i, hi, rfl⟩ := List.mem_map.mp hb
    have hi := List.mem_range.mp hi
    unfold lowAt
    rw [Array.getElem?_eq_getElem hi]
    exact h _ (by simp)
theorem lt_one (a b : Nat) : ([a] < [b]) ↔ a < b := by
  rw [List.cons_lt_cons_iff]
  simp
def rLeS : L2.R2 := fun x y H Q => ∃ i j, x = V.str i ∧ y = V.str j ∧ Q (V.bl !decide (j.cps.toList < i.cps.toList)) H
def rLenStr : List V → Hp → VK → Prop := fun xs H Q => ∃ z : Str, xs = [V.str z] ∧ z.length ≤ sizeLine ∧ Q (V.int (z.length : Int)) H
section
variable {K : PySem.W.Frag} {σ : L2.St} {H : Hp} {ta tb tc te : TE} {i : Nat} {c : Nat} {z : Str} {n m l : Int} {D : Ends} {u : TS}
theorem ev_low (h : σ[i]? = some (some (.str ⟨#[c]⟩))) : Ev (tChain rLeS rLeS (tC (.str "a")) (tVar i) (tC (.str "z"))) σ H (.bl (isLow c)) := fun H1 e Q q => ⟨_, h, "a", ⟨#[c]⟩, rfl, rfl, _, rfl, by
  have e1 : (!decide (((⟨#[c]⟩ : Str)).cps.toList < ("a" : Str).cps.toList)) = decide (97 ≤ c) := by
    have ea : ("a" : Str).cps.toList = [97] := by decide +kernel
    rw [ea, show ((⟨#[c]⟩ : Str)).cps.toList = [c] from rfl, ← decide_not]
    refine decide_eq_decide.mpr ?_
    rw [lt_one]
    omega
  have e2 : (!decide (("z" : Str).cps.toList < ((⟨#[c]⟩ : Str)).cps.toList)) = decide (c ≤ 122) := by
    have ea : ("z" : Str).cps.toList = [122] := by decide +kernel
    rw [ea, show ((⟨#[c]⟩ : Str)).cps.toList = [c] from rfl, ← decide_not]
    refine decide_eq_decide.mpr ?_
    rw [lt_one]
    omega
  rw [e1]
  unfold isLow at q
  by_cases h1 : 97 ≤ c
  · rw [decide_eq_true h1, if_pos rfl]
    rw [decide_eq_true h1, Bool.true_and] at q
    refine ⟨⟨#[c]⟩, "z", rfl, rfl, ?_⟩
    rw [e2]
    exact q H1 (Ex.refl _)
  · rw [decide_eq_false h1, if_neg Bool.false_ne_true]
    rw [decide_eq_false h1, Bool.false_and] at q
    exact q H1 (Ex.refl _)⟩
theorem ev_chainB (ha : Ev ta σ H (.int n)) (hb : Ev tb σ H (.int m)) (hc : Ev tc σ H (.int l)) : Ev (tChain (rI0 fun i j => .bl (decide (i ≤ j))) (rI0 fun i j => .bl (decide (i ≤ j))) ta tb tc) σ H (.bl (decide (n ≤ m ∧ m ≤ l))) := fun H1 e Q q =>
  ha H1 e _ fun H2 e2 => hb H2 (e.trans e2) _ fun H3 e3 => ⟨n, m, rfl, rfl, _, rfl, by
    refine ite2 (fun c => ?_) (fun c => ?_)
    · refine hc H3 ((e.trans e2).trans e3) _ fun H4 e4 => ⟨m, l, rfl, rfl, ?_⟩
      have z : decide (m ≤ l) = decide (n ≤ m ∧ m ≤ l) := decide_eq_decide.mpr ⟨fun h => ⟨of_decide_eq_true c, h⟩, fun h => h.2⟩
      show Q (.bl (decide (m ≤ l))) H4
      rw [z]
      exact q H4 ((e2.trans e3).trans e4)
    · have z : decide (n ≤ m ∧ m ≤ l) = false := decide_eq_false fun h => no_dec c h.1
      rw [z] at q
      exact q H3 (e2.trans e3)⟩
theorem ev_lenS (h : Ev te σ H (.str z)) (hz : z.cps.size ≤ 1000) : Ev (tCB rLenStr (tCons te tNil)) σ H (.int (z.length : Int)) := ev_cb (ea_cons h ea_nil) fun H1 e Q q => ⟨z, rfl, Nat.le_trans (show z.length ≤ 1000 from hz) (by decide), q H1 (Ex.refl _)⟩
theorem ev_all {bs : List Bool} (h : EvL te σ H (bs.map V.bl)) : Ev (tCB (rAll K) (tCons te tNil)) σ H (.bl (bs.all id)) := fun H1 e Q q => h H1 e _ fun p H2 _ e2 h2 => ⟨p, bs, rfl, SqL.of h2, q H2 e2⟩
theorem q_yes {t : TT} {tu : TS} (h : EvT t σ H true) (k : ∀ H1, Ex H H1 → tu { D with nx := u D } σ H1) : tSeq (tIfS t tu tNext) u D σ H := q_when h (fun _ => k) fun z => nomatch z
end
section
variable {P : Program} {w : World} {K : PySem.W.Frag} {mg : Str → Option Value} {base : Heap}
theorem scIsName : FnScope ["value", "letter"] ["value"] (defScope sIsName) := ⟨rfl, rfl, rfl, by decide +kernel, rfl, by decide +kernel, by decide +kernel⟩
theorem ok_isname {f : Addr} {fd : FuncData} (F : Fun K "is_name" "is_name" sIsName f fd) (T : TI mg) : FnOk P w K mg base CX0 1 f fd ["value"] spIsName := by
  refine F.ok scIsName (fun vs H Q E h => ?_) (fun cdv A outer s H vs Q E hr h => ?_)
  · obtain ⟨v, b, rfl, _⟩ := h
    rfl
  · obtain ⟨v, b, rfl, hv, k⟩ := h
    refine ⟨_, (pss_cons (ps_if (pw_or (pt_not (pt_val (pe_callB call_isi (by rfl) T.isi PyProof.Rows.boot_isinstance (pa_cons (pv 0) (pa_cons (pe_bltn (v := .ty "str") (by rfl) T.str (by decide +kernel) rfl) pa_nil))))) (pw_or1 (pt_not (pt_chain op_le op_le pe_int (pe_callB call_len_str (by rfl) T.len PySem.boot_len (pa_cons (pv 0) pa_nil)) pe_int)))).pt (pss_one (ps_ret pe_bl)) pss_nil)
      (pss_one (ps_ret (pe_callB (cr_all rfl) (by rfl) T.all (by decide +kernel) (pa_cons (pe_lc (own := [("letter", 1)]) (g := gName 1) (by rfl) scIsName.nd (pi_str (pv 0)) (blkOk_by (own := [("letter", 1)]) (N := ["value", "letter"]) (sc := defScope sIsName) (by decide +kernel))
        (fun _ _ _ _ _ => pg_name (i := 1) scIsName.nd rfl (Or.inl rfl)) (fun _ _ _ _ _ => pts_nil) (fun _ _ _ _ _ => by exact (pe_chain op_le_str op_le_str pe_str (pv 1) pe_str))) pa_nil))))), ?_⟩
    have bad : ∀ {T : String}, (∀ H1, Ex H H1 → TyX K H1 v (.type T)) → PySem.W.kitOne K (.type T) (.type "str") = some false → EvT (tNot (tB (tCB (rIsi K) (tCons (tVar 0) (tCons (tC (.ty "str")) tNil))))) (L2.start ["value", "letter"] [v]) H true := fun ty ki =>
      et_is (et_not (et_B (ev_isi (ev_var rfl) ty ki))) rfl
    cases hv with
    | int i => exact q_yes (et_is (et_or (b := true) (bad (fun H1 e1 => .base (.int i)) (kit_ty (by decide +kernel))) fun z => nomatch z) rfl) fun H1 e1 => s_ret ev_c fun H2 e2 => k H2 (e1.trans e2)
    | non => exact q_yes (et_is (et_or (b := true) (bad (fun H1 e1 => .base .non) (kit_ty (by decide +kernel))) fun z => nomatch z) rfl) fun H1 e1 => s_ret ev_c fun H2 e2 => k H2 (e1.trans e2)
    | lst ha => exact q_yes (et_is (et_or (b := true) (bad (fun H1 e1 => .base (.lst (e1 _ _ ha))) (kit_ty (by decide +kernel))) fun z => nomatch z) rfl) fun H1 e1 => s_ret ev_c fun H2 e2 => k H2 (e1.trans e2)
    | tup ha => exact q_yes (et_is (et_or (b := true) (bad (fun H1 e1 => .base (.tup (e1 _ _ ha))) (kit_ty (by decide +kernel))) fun z => nomatch z) rfl) fun H1 e1 => s_ret ev_c fun H2 e2 => k H2 (e1.trans e2)
    | str z hz =>
      have good : EvT (tNot (tB (tCB (rIsi K) (tCons (tVar 0) (tCons (tC (.ty "str")) tNil))))) (L2.start ["value", "letter"] [.str z]) H false := et_is (et_not (et_B (ev_isi (b := true) (ev_var rfl) (fun H1 e1 => .base (.str z)) (kit_ty (by decide +kernel))))) rfl
      have len : EvT (tNot (tTest (tChain (rI0 fun i j => V.bl (decide (i ≤ j))) (rI0 fun i j => V.bl (decide (i ≤ j))) (tC (V.int 1)) (tCB rLenStr (tCons (tVar 0) tNil)) (tC (V.int 20))))) (L2.start ["value", "letter"] [.str z]) H (!decide ((1 : Int) ≤ (z.length : Int) ∧ (z.length : Int) ≤ 20)) := et_not (et_test (ev_chainB ev_c (ev_lenS (ev_var rfl) hz) ev_c))
      by_cases c : 1 ≤ z.length ∧ z.length ≤ 20
      · have c' : (1 : Int) ≤ (z.length : Int) ∧ (z.length : Int) ≤ 20 := by omega
        rw [decide_eq_true c'] at len
        refine q_not (et_is (et_or good fun _ => len) rfl) fun H1 e1 => ?_
        have lst := el_lcS (σ := L2.start ["value", "letter"] [.str z]) (H := H1) (z := z) (tl := tVar 0) (te := tChain rLeS rLeS (tC (.str "a")) (tVar 1) (tC (.str "z"))) (j := 1) (vs := [1]) (fun i => V.bl (lowAt z i)) (ev_var rfl) (by omega) (fun _ => rfl) fun i c H2 e2 hc => by
          have q : lowAt z i = isLow c := by
            unfold lowAt
            rw [hc]
          rw [q]
          exact ev_low rfl
        rw [given_all] at lst
        refine s_ret (ev_is (ev_all lst) ?_) fun H2 e2 => k H2 (e1.trans e2)
        rw [lowAt_all]
        unfold nameB
        rw [decide_eq_true c, Bool.true_and]
      · have c' : ¬ ((1 : Int) ≤ (z.length : Int) ∧ (z.length : Int) ≤ 20) := by omega
        rw [decide_eq_false c'] at len
        have e : nameB z = false := by
          unfold nameB
          rw [decide_eq_false c, Bool.false_and]
        rw [e] at k
        exact q_yes (et_is (et_or good fun _ => len) rfl) fun H1 e1 => s_ret ev_c fun H2 e2 => k H2 (e1.trans e2)
end
end Q
set_option Elab.async false
set_option linter.all false
set_option maxRecDepth 100000
set_option maxHeartbeats 2000000
namespace Q
open PySem L2 PySem.Spec PyProof.Rows PySem.Calls PySem.OwnX Evl TL
def oneS (c : Nat) : Str := ⟨#[c]⟩
/-! ### which texts are no names -/
theorem name_no {z : Str} {c : Nat} (h : c ∈ z.cps.toList) (hc : isLow c = false) : nameB z = false := by
  unfold nameB
  have e : z.cps.toList.all isLow = false := by
    rw [Bool.eq_false_iff]
    intro q
    rw [List.all_eq_true] at q
    have := q c h
    rw [hc] at this
    cases this
  rw [e, Bool.and_false]
theorem name_long {z : Str} (h : ¬ (1 ≤ z.length ∧ z.length ≤ 20)) : nameB z = false := by
  unfold nameB
  rw [decide_eq_false h, Bool.false_and]
theorem tl_oneS (cs : List Nat) : tl (Txt.join "" (cs.map oneS)) = cs := by
  rw [join_eq, tl_join]
  have e0 : tl ("" : Str) = [] := by decide +kernel
  rw [e0, List.map_map]
  induction cs with
  | nil => rfl
  | cons c r ih =>
    cases r with
    | nil => rfl
    | cons d r =>
      show tl (oneS c) ++ ([] ++ joinL [] ((d :: r).map (tl ∘ oneS))) = c :: d :: r
      rw [List.nil_append, ih]
      rfl
theorem name_join {cs : List Nat} (h1 : 1 ≤ cs.length) (h2 : cs.length ≤ 20) (h : ∀ c ∈ cs, isLow c = true) : nameB (Txt.join "" (cs.map oneS)) = true := by
  have e : (Txt.join "" (cs.map oneS)).cps.toList = cs := tl_oneS cs
  have l : (Txt.join "" (cs.map oneS)).length = cs.length := by
    show (Txt.join "" (cs.map oneS)).cps.size = cs.length
    rw [← Array.length_toList, e]
  unfold nameB
  rw [l, e, decide_eq_true ⟨h1, h2⟩, List.all_eq_true.mpr h]
  rfl
section
variable {K : PySem.W.Frag} {σ : L2.St} {H : Hp} {p : Addr} {te : TE} {i : Nat} {E : XK}
/-- a sign of a written text, by the bag -/
theorem one_sign {z : Str} {P : Nat → Bool} {Q : VK} (si : σ[i]? = some (some (.ref p))) (h0 : 0 < z.cps.size) (h1 : z.cps.size ≤ 1000) (hp : ∀ c ∈ z.cps.toList, P c = true) (hb : BagIn p H) (k : ∀ c H', P c = true → Bgd p H H' → Q (.str (oneS c)) H') :
    tCall spOne [] E (tCons (tVar i) (tCons (tCB rLStr (tCons (tC (.str z)) tNil)) tNil)) σ H Q := ⟨_, si, z, rfl, h1, fun l hl => by
  have nl := ne_bag hb hl
  have g := Bgd.new (o := .lst (signsV z)) (Bgd.id' hb) hl
  obtain ⟨a, b, c, e⟩ := hb
  refine ⟨p, l, a, b, c, signsV z, rfl, Ex.new hl _ _ e, nl, upd_same, by simpa [signsV] using h0, by simpa [signsV] using h1, fun j v H' hv g2 => ?_⟩
  unfold signsV at hv
  rw [List.getElem?_map] at hv
  cases hx : z.cps.toList[j]? with
  | none =>
    rw [hx] at hv
    cases hv
  | some c =>
    rw [hx] at hv
    cases hv
    exact k c H' (hp c (List.mem_of_getElem? hx)) (g.trans g2)⟩
/-- [a drawn sign for turn in range(n)] -/
theorem lc_signs {ta : TA} {j : Nat} {vs : List Nat} (h : ∀ Q : List V → Hp → Prop, (∀ n H', 1 ≤ n ∧ n ≤ 20 → Bgd p H H' → Q [.int n] H') → ta σ H Q) (hw : ∀ x, wipe ((wipe σ vs).set j (some x)) vs = wipe σ vs)
    (he : ∀ x H1, BagIn p H1 → ∀ Q : VK, (∀ c H', isLow c = true → Bgd p H1 H' → Q (.str (oneS c)) H') → te ((wipe σ vs).set j (some x)) H1 Q) {Q : VK}
    (k : ∀ Dl H2 (cs : List Nat), 1 ≤ cs.length ∧ cs.length ≤ 20 → (∀ c ∈ cs, isLow c = true) → Bgd p H H2 → Dl ≠ p → H2 Dl = some (.lst ((cs.map oneS).map V.str)) → Q (.ref Dl) H2) : tLc (iRng1 ta) (gName j) tYes te vs σ H Q :=
  h _ fun n H1 hn g1 => ⟨n, rfl, by omega, by omega, fun Dl hD =>
    lc_range (lo := 0) (n := n.toNat) (fun i H' => Bgd p H H' ∧ ∃ cs : List Nat, cs.length = i ∧ (∀ c ∈ cs, isLow c = true) ∧ H' Dl = some (.lst ((cs.map oneS).map V.str))) ⟨g1.trans ((Bgd.id' g1.bag).new hD), [], rfl, fun c hc => absurd hc (by simp), upd_same⟩
      (fun i H' hi pv => ⟨hw _, by
        obtain ⟨g, cs, hl, hr, hd⟩ := pv
        have nD : Dl ≠ p := ne_bag g1.bag hD
        refine he _ H' g.bag _ fun c H4 rc g4 => ⟨(cs.map oneS).map V.str, g4.keep _ _ nD hd, Nat.lt_of_lt_of_le (show ((cs.map oneS).map V.str).length < 1000 by rw [List.length_map, List.length_map]; omega) (by decide), ?_⟩
        have gg := g.trans g4
        refine ⟨⟨?_, fun l o n1 q => ?_⟩, cs ++ [c], by rw [List.length_append, hl]; rfl, fun m hm => ?_, ?_⟩
        · obtain ⟨a, b, c, z⟩ := gg.bag
          exact ⟨a, b, c, by rw [upd_ne nD.symm]; exact z⟩
        · have dN : H Dl = none := g1.free hD
          rw [upd_ne (ne_of_none q dN)]
          exact gg.keep _ _ n1 q
        · rcases List.mem_append.mp hm with q | q
          · exact hr m q
          · rw [List.mem_singleton.mp q]
            exact rc
        · rw [List.map_append, List.map_append]
          exact upd_same⟩)
      (fun H' pv => by
        obtain ⟨g, cs, hl, hr, hd⟩ := pv
        exact k Dl H' cs (by omega) hr g (ne_bag g1.bag hD) hd)⟩
end
theorem sum_ones : ∀ cs : List Nat, ((cs.map oneS).map (·.length)).sum = cs.length
  | [] => rfl
  | c :: cs => by
    have z := sum_ones cs
    simp only [List.map_cons, List.sum_cons, List.length_cons, z]
    show 1 + cs.length = cs.length + 1
    omega
theorem len_app (a b : Str) : (a ++ b).cps.size = a.cps.size + b.cps.size := by
  rw [Str.cps_append, Array.size_append]
theorem mem_app {a b : Str} {c : Nat} (h : c ∈ a.cps.toList ∨ c ∈ b.cps.toList) : c ∈ (a ++ b).cps.toList := by
  rw [Str.cps_append, Array.toList_append, List.mem_append]
  exact h
abbrev rAddStr : L2.R2 := fun x y H Q => ∃ i j, x = V.str i ∧ y = V.str j ∧ i.length + j.length ≤ sizeLine ∧ Q (V.str (i ++ j)) H
/-- what is no name -/
def EvN (te : TE) (σ : L2.St) (H : Hp) : Prop := ∀ H1, Ex H H1 → ∀ Q : VK, (∀ v H2, Ex H1 H2 → Nm H2 v false → Q v H2) → te σ H1 Q
def EvNs (ta : TA) (σ : L2.St) (H : Hp) (n : Nat) : Prop := ∀ H1, Ex H H1 → ∀ Q : List V → Hp → Prop, (∀ vs H2, Ex H1 H2 → vs.length = n → (∀ v ∈ vs, Nm H2 v false) → Q vs H2) → ta σ H1 Q
section
variable {K : PySem.W.Frag} {σ : L2.St} {H : Hp} {te ta tb : TE} {tr : TA} {n : Nat} {v : V} {b : Bool} {y z : Str} {xs : List V} {tl th : TO} {lo hi : Option Int} {E : XK}
theorem en_nil : EvNs tNil σ H 0 := fun H1 _ Q q => q [] H1 (Ex.refl _) rfl fun v hv => absurd hv (by simp)
theorem en_cons (h : EvN te σ H) (ht : EvNs tr σ H n) : EvNs (tCons te tr) σ H (n + 1) := fun H1 e Q q =>
  h H1 e _ fun v H2 e2 g2 => ht H2 (e.trans e2) _ fun vs H3 e3 hl hg => q (v :: vs) H3 (e2.trans e3) (by rw [List.length_cons, hl]) fun x hx => by
    rcases List.mem_cons.mp hx with rfl | hx
    · exact g2.mono e3
    · exact hg x hx
theorem en_val (h : Ev te σ H v) (hn : Nm H v false) : EvN te σ H := fun H1 e Q q => h H1 e _ fun H2 e2 => q v H2 e2 (hn.mono (e.trans e2))
theorem en_str (h : Ev te σ H (.str z)) (hz : z.cps.size ≤ 1000) (hn : nameB z = false) : EvN te σ H := en_val h (by
  have w := Nm.str (H := H) z hz
  rw [hn] at w
  exact w)
theorem en_tup (h : EvU te σ H xs) : EvN te σ H := fun H1 e Q q => h H1 e _ fun p H2 _ e2 h2 => q _ H2 e2 (.tup h2)
theorem en_lst (h : EvNs tr σ H n) (hn : n ≤ 1000) (Q : VK) (k : ∀ xs l H2, Ex H H2 → (∀ v ∈ xs, Nm H2 v false) → xs.length = n → H2 l = some (.lst xs) → Q (.ref l) H2) : tLst tr σ H Q :=
  h H (Ex.refl _) _ fun vs H2 e2 hl hg => ⟨Nat.le_trans (show vs.length ≤ 1000 by omega) (by decide), fun l hn => k vs l _ (e2.trans (Ex.new hn)) (fun v hv => (hg v hv).mono (Ex.new hn)) hl upd_same⟩
theorem ev_add (h1 : Ev ta σ H (.str y)) (h2 : Ev tb σ H (.str z)) (hy : y.cps.size ≤ 1000) (hz : z.cps.size ≤ 1000) : Ev (tOp rAddStr ta tb) σ H (.str (y ++ z)) := ev_op h1 h2 fun H1 _ Q q => ⟨y, z, rfl, rfl, Nat.le_trans (show y.length + z.length ≤ 2000 from Nat.add_le_add hy hz) (by decide), q H1 (Ex.refl _)⟩
theorem ev_slS (h : Ev te σ H (.str z)) (h1 : Evl.EvO tl σ H lo) (h2 : Evl.EvO th σ H hi) (hz : z.cps.size ≤ 1000) : Ev (tSl rSlS te tl th) σ H (.str (cutS z lo hi)) := fun H1 e Q q =>
  h H1 e _ fun H2 e2 => h1 H2 (e.trans e2) _ fun H3 e3 => h2 H3 ((e.trans e2).trans e3) _ fun H4 e4 => ⟨z, rfl, Nat.le_trans (show z.length ≤ 1000 from hz) (by decide), q H4 ((e2.trans e3).trans e4)⟩
theorem ev_isname (h : Ev te σ H v) (hn : Nm H v b) : Ev (tCall spIsName [] E (tCons te tNil)) σ H (.bl b) := ev_call (ea_cons h ea_nil) fun H1 e Q q E => ⟨v, b, rfl, hn.mono e, fun H2 e2 => q H2 e2⟩
theorem ev_eq00 (h1 : EvL ta σ H []) (h2 : EvL tb σ H []) : Ev (tOp (rEqD K) ta tb) σ H (.bl true) := ev_opLL h1 h2 fun p q H1 a1 a2 _ => fun H2 e2 Q k =>
  ⟨.list [], .list [], .lst (SqL.of (e2 _ _ a1)) .nil, .lst (SqL.of (e2 _ _ a2)) .nil, rfl, rfl, by
    have z : PyData.eqv (.list []) (.list []) = true := by simp [PyData.eqv, PyData.eqvAll]
    rw [z]
    exact k H2 (Ex.refl _)⟩
theorem given_none (n : Nat) (v : Nat → V) : given n (fun _ => false) v = [] := by
  unfold given
  simp
end
def spNames : Sp := fun vs H Q _ => ∃ p : Addr, vs = [.ref p] ∧ BagIn p H ∧ ∀ H', Bgd p H H' → Q (.bl true) H'
section
variable {P : Program} {w : World} {K : PySem.W.Frag} {mg : Str → Option Value} {base : Heap}
theorem scNames : FnScope ["bag", "signs", "name", "at", "odd", "near", "turn", "one"] ["bag"] (defScope sNames) := ⟨rfl, rfl, rfl, by decide +kernel, rfl, by decide +kernel, by decide +kernel⟩
theorem ok_names {f : Addr} {fd : FuncData} (F : Fun K "_law_are_names" "_law_are_names" sNames f fd) (T : TB mg) (CD : Cl P w K mg base 1 "_law_draw" spDraw) (CO : Cl P w K mg base 2 "_law_one_of" spOne) (CN : Cl P w K mg base 1 "is_name" spIsName) : FnOk P w K mg base CX0 3 f fd ["bag"] spNames := by
  refine F.ok scNames (fun vs H Q E h => ?_) (fun cdv A outer s H vs Q E hr h => ?_)
  · obtain ⟨p, rfl, _⟩ := h
    rfl
  · obtain ⟨p, rfl, hb, k⟩ := h
    have hu := hr.units
    refine ⟨_, (pss_cons (ps_setLc (i := 1) (own := [("turn", 6)]) (g := gName 6) (by rfl) scNames.nd rfl rfl (sw_true rfl rfl rfl (by decide +kernel)) (pi_range1 rfl T.range (pa_cons (pe_op op_add pe_int (pe_cl CD hr (by decide) (by rfl) (pa_cons (pv 0) (pa_cons (pe_int) pa_nil)))) pa_nil))
          (blkOk_by (own := [("turn", 6)]) (N := ["bag", "signs", "name", "at", "odd", "near", "turn", "one"]) (sc := defScope sNames) (by decide +kernel))
          (fun _ _ _ _ _ => pg_name (i := 6) scNames.nd rfl (Or.inl rfl)) (fun _ _ _ _ _ => pts_nil)
          (te := tCall spOne [] E0 (tCons (tVar 0) (tCons (tCB rLStr (tCons (tC (.str "abcdefghijklmnopqrstuvwxyz")) tNil)) tNil)))
          (fun _ _ _ _ _ => by exact (pe_cl CO hr (by decide) (by rfl) (by exact (pa_cons (pv 0) (pa_cons (pe_callTy (call_lstr rfl) (by rfl) T.list (by decide +kernel) (pa_cons (pe_str) pa_nil)) pa_nil))))))
      (pss_cons (ps_par (i := 2) (j := 3) (by rfl) scNames.nd rfl rfl (by decide) rfl rfl (pa_cons (pe_join pe_str (pv 1)) (pa_cons (pe_cl CD hr (by decide) (by rfl) (pa_cons (pv 0) (pa_cons (pe_callB call_len_seq (by rfl) T.len PySem.boot_len (pa_cons (pv 1) pa_nil)) pa_nil))) pa_nil)) (by rfl))
      (pss_cons (ps_set (i := 4) scNames.nd rfl (Or.inl rfl) (pe_cl CO hr (by decide) (by rfl) (pa_cons (pv 0) (pa_cons (pe_callTy (call_lstr rfl) (by rfl) T.list (by decide +kernel) (pa_cons (pe_str) pa_nil)) pa_nil))))
      (pss_cons (ps_set (i := 5) scNames.nd rfl (Or.inl rfl) (pe_lst (pa_cons (pe_op op_add_str (pv 2) pe_str) (pa_cons (pe_str) (pa_cons (pe_op op_add_str (pe_op op_add_str (pe_slice sl_str (pv 2) po_none (po_some (pv 3))) (pv 4)) (pe_slice sl_str (pv 2) (po_some (pe_op op_add (pv 3) pe_int)) po_none)) (pa_cons (pe_op op_add_str (pe_slice sl_str (pv 2) po_none (po_some pe_int)) (pv 4)) (pa_cons (pv 1) (pa_cons (pe_non) (pa_cons (pe_tup (pa_cons (pv 2) pa_nil)) (pa_cons (pe_int) pa_nil))))))))))
      (pss_one (ps_ret (pe_and (pe_cmpR op_isBl (pe_cl CN hr (by decide) (by rfl) (pa_cons (pv 2) pa_nil)) pe_bl (nomark _)) (pe_one (pe_cmpR (op_eqD hu) (pe_lc (own := [("one", 7)]) (g := gName 7) (by rfl) scNames.nd (pi_list (pv 5))
            (blkOk_by (own := [("one", 7)]) (N := ["bag", "signs", "name", "at", "odd", "near", "turn", "one"]) (sc := defScope sNames) (by decide +kernel))
            (fun _ _ _ _ _ => pg_name (i := 7) scNames.nd rfl (Or.inl rfl)) (fun _ _ _ _ _ => pts_one (by exact (pt_cmpR op_notBl (pe_cl CN hr (by decide) (by rfl) (pa_cons (pv 7) pa_nil)) pe_bl (nomark _))))
            (tt := tTest (tOp rNotB (tCall spIsName [] E0 (tCons (tVar 7) tNil)) (tC (.bl false)))) (te := tVar 7) (fun _ _ _ _ _ => by exact (pv 7))) (pe_lst pa_nil) (nomark _)))))))))), ?_⟩
    have dr : EvB p (tOp (rI0 fun i j => .int (i + j)) (tC (.int 1)) (tCall spDraw [] E0 (tCons (tVar 0) (tCons (tC (.int 20)) tNil)))) (L2.start ["bag", "signs", "name", "at", "odd", "near", "turn", "one"] [.ref p]) (fun n => 1 ≤ n ∧ n ≤ 20) :=
      eb_op (g := fun i j => i + j) (R := fun n => n = 1) (eb_c rfl) (eb_draw (N := 20) rfl (eb_c ⟨by decide, by decide, by decide⟩)) fun m n hm hn => by
        subst hm
        exact ⟨by omega, by omega⟩
    refine q_asgG (PV := fun v H' => ∃ Dl, ∃ cs : List Nat, v = .ref Dl ∧ (1 ≤ cs.length ∧ cs.length ≤ 20) ∧ (∀ c ∈ cs, isLow c = true) ∧ Bgd p H H' ∧ Dl ≠ p ∧ H' Dl = some (.lst ((cs.map oneS).map V.str)))
      (fun Q q => lc_signs (fun Q q => dr H hb _ fun n H' hn g => q n H' hn g) (fun _ => rfl) (fun x H1 hb1 Q q => one_sign (P := isLow) rfl (by decide +kernel) (by decide +kernel) (by decide +kernel) hb1 q) fun Dl H2 cs h1 h2 h3 h4 h5 => q _ _ ⟨Dl, cs, rfl, h1, h2, h3, h4, h5⟩) ?_
    rintro v H1 ⟨Dl, cs, rfl, hl, hlow, g1, nD, hD⟩
    obtain ⟨ba, bb, bc, hbag⟩ := g1.bag
    refine ⟨⟨_, rfl⟩, _, rfl, "", Dl, cs.map oneS, rfl, rfl, .inl (SqL.of hD), ?_, _, rfl, _, rfl, Dl, _, rfl, .inl (SqL.of hD), p, ba, bb, bc, _, rfl, hbag, ?_, ?_, fun at_ H2 a0 a1 g2 => ⟨_, _, rfl, ?_⟩⟩
    · rw [sum_ones]
      show cs.length + (cs.map oneS).length * 0 ≤ 16777216
      omega
    · rw [List.length_map, List.length_map]
      omega
    · rw [List.length_map, List.length_map]
      exact log_of (by omega)
    dsimp only
    have g12 := g1.trans g2
    have hD2 := g2.keep _ _ nD hD
    have nm := name_join hl.1 hl.2 hlow
    have nl : (Txt.join "" (cs.map oneS)).cps.size = cs.length := by
      rw [← Array.length_toList]
      exact congrArg List.length (tl_oneS cs)
    generalize Txt.join "" (cs.map oneS) = name at nm nl
    have n20 : name.cps.size ≤ 20 := by omega
    refine q_asgG (PV := fun v H' => ∃ c, isLow c = false ∧ Bgd p H2 H' ∧ v = .str (oneS c)) (fun Q q => one_sign (i := 0) (P := fun c => !isLow c) rfl (by decide +kernel) (by decide +kernel) (by decide +kernel) g2.bag fun c H' hc g => q _ _ ⟨c, by simpa using hc, g, rfl⟩) ?_
    rintro v H3 ⟨c, hc, g3, rfl⟩
    have hD3 := g3.keep _ _ nD hD2
    have g13 := g12.trans g3
    have cin : c ∈ (oneS c).cps.toList := by simp [oneS]
    have c1 : (oneS c).cps.size = 1 := rfl
    have cut : ∀ lo hi, (cutS name lo hi).cps.size ≤ 20 := fun lo hi => Nat.le_trans (cutS_length name lo hi) n20
    refine q_asgG (PV := fun v H' => ∃ l, ∃ xs : List V, v = .ref l ∧ Ex H3 H' ∧ H' l = some (.lst xs) ∧ xs.length = 8 ∧ ∀ x ∈ xs, Nm H' x false) (fun Q q => en_lst (n := 8)
      (en_cons (en_str (ev_add (ev_var (i := 2) rfl) ev_c (by omega) (by decide +kernel)) ?_ ?_)
      (en_cons (en_str ev_c (by decide +kernel) (by decide +kernel))
      (en_cons (en_str (ev_add (ev_add (ev_slS (ev_var (i := 2) rfl) eo_none (eo_some (ev_var (i := 3) rfl)) (by omega)) (ev_var (i := 4) rfl) (Nat.le_trans (cut _ _) (by decide)) (by omega)) (ev_slS (ev_var (i := 2) rfl) (eo_some (ev_op (ev_var (i := 3) rfl) ev_c rv_I0)) eo_none (by omega)) ?_ (Nat.le_trans (cut _ _) (by decide))) ?_ ?_)
      (en_cons (en_str (ev_add (ev_slS (ev_var (i := 2) rfl) eo_none (eo_some ev_c) (by omega)) (ev_var (i := 4) rfl) (Nat.le_trans (cut _ _) (by decide)) (by omega)) ?_ ?_)
      (en_cons (en_val (ev_var (i := 1) rfl) (.lst hD3))
      (en_cons (en_val ev_c .non)
      (en_cons (en_tup (eu_tup (ea_cons (ev_var (i := 2) rfl) ea_nil) (by show 1 ≤ 100000; decide)))
      (en_cons (en_val ev_c (.int 5)) en_nil)))))))) (by decide) Q fun xs l H4 e4 hg hl4 h4 => q _ _ ⟨l, xs, rfl, e4, h4, hl4, hg⟩) ?_
    · rw [len_app]
      have z : ("abcdefghijklmnopqrst" : Str).cps.size = 20 := by decide +kernel
      omega
    · refine name_long fun h => ?_
      have z : ("abcdefghijklmnopqrst" : Str).cps.size = 20 := by decide +kernel
      have z2 : (name ++ ("abcdefghijklmnopqrst" : Str)).length = name.cps.size + ("abcdefghijklmnopqrst" : Str).cps.size := len_app _ _
      omega
    · rw [len_app]
      have := cut none (some at_)
      omega
    · rw [len_app, len_app]
      have z1 := cut none (some at_)
      have z2 := cut (some (at_ + 1)) none
      omega
    · exact name_no (mem_app (.inl (mem_app (.inr cin)))) hc
    · rw [len_app]
      have := cut none (some 10)
      omega
    · exact name_no (mem_app (.inr cin)) hc
    rintro v H4 ⟨l, xs, rfl, e4, h4, l8, hg⟩
    have nn : Nm H4 (.str name) true := by
      have z := Nm.str (H := H4) name (by omega)
      rw [nm] at z
      exact z
    have lc := el_lcL (K := K) (σ := [some (.ref p), some (.ref Dl), some (.str name), some (.int at_), some (.str (oneS c)), some (.ref l), none, none]) (H := H4) (a := l) (xs := xs) (tl := tVar 5) (t := tTest (tOp rNotB (tCall spIsName [] E0 (tCons (tVar 7) tNil)) (tC (.bl false)))) (te := tVar 7) (j := 7) (vs := [7]) (fun _ => false) (fun _ => .non) (ev_var rfl) (SqL.of h4) (by omega) (fun _ => rfl)
      (fun i x H5 e5 hx => et_test (ev_is (ev_notB (ev_isname (ev_var rfl) ((hg x (List.mem_of_getElem? hx)).mono e5))) rfl)) (fun i x H5 e5 hx z => nomatch z)
    rw [given_none] at lc
    exact s_ret (ev_is (ev_andV (ev_is (ev_isB (ev_isname (ev_var rfl) nn)) rfl) fun _ => ev_eq00 lc (el_lst ea_nil (by decide))) rfl) fun H5 e5 => k H5 ((g13.trans (bag_ex e4 g13.bag)).trans (bag_ex e5 (bag_ex e4 g13.bag).bag))
end
end Q
set_option Elab.async false
set_option linter.all false
set_option maxRecDepth 100000
set_option maxHeartbeats 4000000
namespace Q
open PySem L2 PySem.Spec PyProof.Rows PySem.Calls PySem.OwnX Evl
abbrev sLaw : Stmt := top 31
def moreI (c : Int) : Int := c % 2000003 - 1000001
def underI (c : Int) : Int := (if c < 0 then -c else c) / 2000003 % 999 + 1
theorem more_bd (c : Int) : Bd 20 (moreI c) := ⟨by
  unfold moreI
  have h1 := Int.emod_nonneg c (b := 2000003) (by decide)
  have h2 := Int.emod_lt_of_pos c (b := 2000003) (by decide)
  exact Nat.lt_of_le_of_lt (show _ ≤ 1000001 by omega) (by decide)⟩
theorem under_in (c : Int) : 1 ≤ underI c ∧ underI c ≤ 999 := by
  unfold underI
  generalize (if c < 0 then -c else c) / 2000003 = x
  have h1 := Int.emod_nonneg x (b := 999) (by decide)
  have h2 := Int.emod_lt_of_pos x (b := 999) (by decide)
  omega
theorem under_bd (c : Int) : Bd 10 (underI c) := ⟨by
  have := under_in c
  exact Nat.lt_of_le_of_lt (show _ ≤ 999 by omega) (by decide)⟩
theorem cut_ints' (ns : List Int) (lo hi : Option Int) : ∃ ms : List Int, cutV (ns.map V.int) lo hi = ms.map V.int ∧ ms.length ≤ ns.length := by
  have cut : ∀ i j : Nat, ((ns.map V.int).drop i).take j = ((ns.drop i).take j).map V.int := fun i j => by rw [← List.map_drop, ← List.map_take]
  refine ⟨_, cut _ _, ?_⟩
  rw [List.length_take, List.length_drop]
  omega
/-- a sum told, and what is due -/
structure Sum (i : Nat) (H : Hp) (t b : Int) (v : V) (r : R2) : Prop where
  a : ∃ l, v = .ref l ∧ H l = some (.tup r.vs)
  j : Just r
  e : r.t * b = t * r.b
  b0 : b ≠ 0
  bt : Bd (11 * i + 22) t
  bb : Bd (10 * i + 1) b
  rt : Bd (11 * i + 22) r.t
  rb : Bd (10 * i + 1) r.b
theorem Sum.fr {i : Nat} {H : Hp} {t b : Int} {v : V} {r : R2} (x : Sum i H t b v r) (h : i ≤ 63) : FrA H v r := ⟨x.a, x.j, x.rt.le (by omega), x.rb.le (by omega)⟩
theorem Sum.mono {i : Nat} {H H' : Hp} {t b : Int} {v : V} {r : R2} (e : Ex H H') (x : Sum i H t b v r) : Sum i H' t b v r := by
  obtain ⟨l, h1, h2⟩ := x.a
  exact ⟨⟨l, h1, e _ _ h2⟩, x.j, x.e, x.b0, x.bt, x.bb, x.rt, x.rb⟩
section
variable {K : PySem.W.Frag} {σ : L2.St} {H : Hp} {ta tb te : TE} {t b n : Int} {E : XK} {C : Addr} {p : Addr} {v : V} {r q : R2} {P P2 : Hp → Prop} {t1 t2 : TT}
theorem eu_low (ha : Ev ta σ H (.int t)) (hb : Ev tb σ H (.int b)) (h0 : b ≠ 0) (bb : Bd 6000 b) : EvU (tCall (spLowOf C) [] E (tCons ta (tCons tb tNil))) σ H (lowR t b).vs := fun H1 e Q k =>
  ha H1 e _ fun H2 e2 => hb H2 (e.trans e2) _ fun H3 e3 => ⟨_, _, rfl, .inr ⟨t, rfl, .inr (.inr ⟨b, rfl, h0, bb, fun l H' h1 h2 h3 => k l H' (fresh_back (e2.trans e3) h1) ((e2.trans e3).trans h2) h3⟩)⟩⟩
/-- the same with a fraction made on the way -/
theorem eu_binU {nu de : R2 → R2 → Int} (ha : Ev ta σ H v) (hb : EvU tb σ H q.vs) (fv : FrA H v r) (jq : Just q) (bq : BdR 2000 q) : EvU (tCall (spBin C nu de) [] E (tCons ta (tCons tb tNil))) σ H (lowR (nu r q) (de r q)).vs := fun H1 e Q k =>
  ha H1 e _ fun H2 e2 => hb H2 (e.trans e2) _ fun l2 H3 _ e3 h3 => ⟨v, .ref l2, rfl, .inr (.inr ⟨r, q, fv.mono ((e.trans e2).trans e3), ⟨⟨l2, rfl, h3⟩, jq, bq⟩, fun l H' h1 h2 h3 => k l H' (fresh_back (e2.trans e3) h1) ((e2.trans e3).trans h2) h3⟩)⟩
theorem q_asgU' {xs : List V} {i : Nat} {D : Ends} {u : TS} (h : EvU te σ H xs) (k : ∀ l H1, H l = none → Ex H H1 → H1 l = some (.tup xs) → u D (σ.set i (some (.ref l))) H1) : tSeq (tAsg te (gName i)) u D σ H := q_asgU h k
/-- a, b = two new tuples -/
theorem q_parUU {xs ys : List V} {i j : Nat} {D : Ends} {u : TS} (h1 : EvU ta σ H xs) (h2 : EvU tb σ H ys) (k : ∀ l1 l2 H1, Ex H H1 → H1 l1 = some (.tup xs) → H1 l2 = some (.tup ys) → u D ((σ.set i (some (.ref l1))).set j (some (.ref l2))) H1) : tSeq (tPar i j (tCons ta (tCons tb tNil))) u D σ H :=
  h1 H (Ex.refl H) _ fun l1 H2 _ e2 x1 => h2 H2 e2 _ fun l2 H3 _ e3 x2 => ⟨_, _, rfl, k l1 l2 H3 (e2.trans e3) (e3 _ _ x1) x2⟩
theorem ansH_or (h1 : AnsH t1 σ H false P) (h2 : ∀ H1, P H1 → AnsH t2 σ H1 false P2) : AnsH (tOr t1 t2) σ H false P2 := by
  intro Q q
  refine h1 _ fun H1 p1 => ?_
  show (if false = true then Q true H1 else t2 σ H1 Q)
  rw [if_neg Bool.false_ne_true]
  exact h2 H1 p1 Q q
theorem ansH_not (h1 : ∀ Q : VK, (∀ H', P H' → Q (.bl true) H') → te σ H Q) : AnsH (tNot (tB te)) σ H false P := fun Q q => h1 _ fun H' p => ⟨true, rfl, q H' p⟩
end
theorem low_bt {k : Nat} {t b : Int} (x : Bd k t) : Bd k (lowR t b).t := by
  unfold lowR
  split
  · exact x.neg.of_le (Int.natAbs_ediv_le_natAbs _ _)
  · exact x.of_le (Int.natAbs_ediv_le_natAbs _ _)
theorem low_bb {k : Nat} {t b : Int} (x : Bd k b) : Bd k (lowR t b).b := by
  unfold lowR
  split
  · exact x.neg.of_le (Int.natAbs_ediv_le_natAbs _ _)
  · exact x.of_le (Int.natAbs_ediv_le_natAbs _ _)
def spLaw (K : PySem.W.Frag) : Sp := fun vs H Q _ => ∃ (a : Addr) (ns : List Int), vs = [.ref a] ∧ SqL K H a (ns.map V.int) ∧ ns.length ≤ 63 ∧ ∀ H', Q (.bl true) H'
structure TL (mg : Str → Option Value) : Prop extends TB mg where
  min : mg "min" = none
section
variable {P : Program} {w : World} {K : PySem.W.Frag} {mg : Str → Option Value} {base : Heap} {C : Addr}
theorem scL : FnScope ["script", "top", "bottom", "sum_told", "cell", "more", "under", "at", "bag", "a", "b", "c", "d", "one", "other"] ["script"] (defScope sLaw) := ⟨rfl, rfl, rfl, by decide +kernel, rfl, by decide +kernel, by decide +kernel⟩
theorem ok_law {f : Addr} {fd : FuncData} (F : Fun K "law" "law" sLaw f fd) (T : TL mg) (CB : Cl P w K mg base 1 "_law_bag" (spBag K)) (CD : Cl P w K mg base 1 "_law_draw" spDraw) (CP : ClX P w K mg base 5 "plus" (spBin C nuP deB)) (CL : ClX P w K mg base 2 "lowest_of" (spLowOf C)) (CJ : Cl P w K mg base 2 "_law_is_just" spIsJust)
    (CI : Cl P w K mg base 3 "_law_integer" spInteger) (CO : Cl P w K mg base 4 "_law_bottom" spBottom) (CR : Cl P w K mg base 6 "_law_are_right" spRight) (CF : ClG P w K mg base 7 "_law_are_refused" spRefd) (CN : Cl P w K mg base 3 "_law_are_names" spNames) : FnG P w K mg base CX0 8 f fd ["script"] (spLaw K) := by
  refine FnG.on F scL (fun vs H Q E h => ?_) (fun cdv A outer s H0 vs Q E gd hr h => ?_)
  · obtain ⟨a, ns, rfl, _⟩ := h
    rfl
  · obtain ⟨sa, ns, rfl, hS, hlen, k⟩ := h
    have hu := hr.units
    refine ⟨_, (pss_cons (ps_asg (pe_tup (pa_cons (pe_int) (pa_cons (pe_int) (pa_cons (pe_tup (pa_cons (pe_int) (pa_cons (pe_int) pa_nil))) pa_nil)))) (pg_tup (by rfl) (pgs_cons (pg_name (i := 1) scL.nd rfl (.inl rfl)) (pgs_cons (pg_name (i := 2) scL.nd rfl (.inl rfl)) (pgs_cons (pg_name (i := 3) scL.nd rfl (.inl rfl)) pgs_nil)))))
      (pss_cons (ps_for PassesOwn.never rfl (pi_list (pe_slice sl_list (pv 0) po_none (po_some pe_int))) (pg_name (i := 4) scL.nd rfl (.inl rfl))
        (pss_cons (ps_par (i := 5) (j := 6) (by rfl) scL.nd rfl rfl (by decide) rfl rfl (pa_cons (pe_op op_sub (pe_op op_mod (pe_callTy call_int1 (by rfl) T.int (by decide +kernel) (pa_cons (pv 4) pa_nil)) pe_int) pe_int) (pa_cons (pe_op op_add (pe_op op_mod (pe_op op_fdiv (pe_callTy call_int1 (by rfl) T.int (by decide +kernel) (pa_cons (pe_callB call_abs (by rfl) T.abs (by decide +kernel) (pa_cons (pv 4) pa_nil)) pa_nil)) pe_int) pe_int) pe_int) pa_nil)) (by rfl))
        (pss_cons (ps_par (i := 1) (j := 2) (by rfl) scL.nd rfl rfl (by decide) rfl rfl (pa_cons (pe_op op_add (pe_op op_mulW (pv 1) (pv 6)) (pe_op op_mulW (pv 5) (pv 2))) (pa_cons (pe_op op_mulW (pv 2) (pv 6)) pa_nil)) (by rfl))
        (pss_one (ps_set (i := 3) scL.nd rfl (Or.inl rfl) (pe_clX CP hr (by decide) (by rfl) (pa_cons (pv 3) (pa_cons (pe_clX CL hr (by decide) (by rfl) (pa_cons (pv 5) (pa_cons (pv 6) pa_nil))) pa_nil))))))))
      (pss_cons (ps_if (pt_not (pt_val (pe_cl CJ hr (by decide) (by rfl) (pa_cons (pv 3) (pa_cons (pv 1) (pa_cons (pv 2) pa_nil)))))) (pss_one (ps_ret pe_bl)) pss_nil)
      (pss_cons (ps_for PassesOwn.never rfl (pi_range1 rfl T.range (pa_cons (pe_callB (call_max2 rfl) (by rfl) T.max (by decide +kernel) (pa_cons (pe_int) (pa_cons (pe_callB (call_min2 rfl) (by rfl) T.min (by decide +kernel) (pa_cons (pe_int) (pa_cons (pe_callB call_len_seq (by rfl) T.len PySem.boot_len (pa_cons (pv 0) pa_nil)) pa_nil))) pa_nil))) pa_nil))
        (pg_name (i := 7) scL.nd rfl (Or.inl rfl))
        (Evl.pss_cut (ps_set (i := 8) scL.nd rfl (Or.inl rfl) (pe_cl CB hr (by decide) (by rfl) (pa_cons (pv 0) (pa_cons (pv 7) pa_nil))))
        (Evl.pss_cut (ps_asg (pe_tup (pa_cons (pe_cl CI hr (by decide) (by rfl) (pa_cons (pv 8) pa_nil)) (pa_cons (pe_cl CO hr (by decide) (by rfl) (pa_cons (pv 8) pa_nil)) (pa_cons (pe_cl CI hr (by decide) (by rfl) (pa_cons (pv 8) pa_nil)) (pa_cons (pe_cl CO hr (by decide) (by rfl) (pa_cons (pv 8) pa_nil)) pa_nil))))) (pg_tup (by rfl) (pgs_cons (pg_name (i := 9) scL.nd rfl (.inl rfl)) (pgs_cons (pg_name (i := 10) scL.nd rfl (.inl rfl)) (pgs_cons (pg_name (i := 11) scL.nd rfl (.inl rfl)) (pgs_cons (pg_name (i := 12) scL.nd rfl (.inl rfl)) pgs_nil))))))
        (Evl.pss_cut (ps_if (pt_cmpR op_eq (pe_cl CD hr (by decide) (by rfl) (pa_cons (pv 8) (pa_cons (pe_int) pa_nil))) pe_int (nomark _)) (pss_one (ps_par (i := 11) (j := 12) (by rfl) scL.nd rfl rfl (by decide) rfl rfl (pa_cons (pe_op op_sub (pe_op op_add (pv 9) (pe_cl CD hr (by decide) (by rfl) (pa_cons (pv 8) (pa_cons (pe_int) pa_nil)))) pe_int) (pa_cons (pv 10) pa_nil)) (by rfl))) pss_nil)
        (pss_cons (ps_par (i := 13) (j := 14) (by rfl) scL.nd rfl rfl (by decide) rfl rfl (pa_cons (pe_clX CL hr (by decide) (by rfl) (pa_cons (pv 9) (pa_cons (pv 10) pa_nil))) (pa_cons (pe_clX CL hr (by decide) (by rfl) (pa_cons (pv 11) (pa_cons (pv 12) pa_nil))) pa_nil)) (by rfl))
        (pss_cons (ps_if (pw_or (pt_not (pt_val (pe_cl CJ hr (by decide) (by rfl) (pa_cons (pv 13) (pa_cons (pv 9) (pa_cons (pv 10) pa_nil)))))) (pw_or (pt_not (pt_val (pe_cl CJ hr (by decide) (by rfl) (pa_cons (pv 14) (pa_cons (pv 11) (pa_cons (pv 12) pa_nil))))))
            (pw_or1 (pt_cmpR (op_neD hu) (pe_clX CL hr (by decide) (by rfl) (pa_cons ((pe_ix ix_tup (pv 13) pe_int (fun _ _ => rfl))) (pa_cons ((pe_ix ix_tup (pv 13) pe_int (fun _ _ => rfl))) pa_nil))) (pv 13) (nomark _))))).pt (pss_one (ps_ret pe_bl)) pss_nil)
        (pss_one (ps_if (pw_or (pt_not (pt_val (pe_cl CR hr (by decide) (by rfl) (pa_cons (pv 13) (pa_cons (pv 14) (pa_cons (pv 9) (pa_cons (pv 10) (pa_cons (pv 11) (pa_cons (pv 12) pa_nil))))))))) (pw_or (pt_not (pt_val (pe_clG CF gd hr (by decide) (by rfl) (pa_cons (pv 8) (pa_cons (pv 13) pa_nil))))) (pw_or1 (pt_not (pt_val (pe_cl CN hr (by decide) (by rfl) (pa_cons (pv 8) pa_nil))))))).pt (pss_one (ps_ret pe_bl)) pss_nil))))))))
      (pss_one (ps_ret pe_bl)))))), ?_⟩
    refine ⟨(by show 2 ≤ sizeLine; decide), fun l0 hl0 => ⟨(by show 3 ≤ sizeLine; decide), fun l1 hl1 => ⟨l1, _, rfl, SqT.of upd_same, rfl, _, _, rfl, _, _, rfl, _, _, rfl, rfl, ?_⟩⟩⟩
    dsimp only
    have x1 := (Ex.new (o := .tup [.int 0, .int 1]) hl0).trans (Ex.new (o := .tup [.int 0, .int 1, .ref l0]) hl1)
    have a1 : upd (upd H0 l0 (.tup [.int 0, .int 1])) l1 (.tup [.int 0, .int 1, .ref l0]) l0 = some (.tup [.int 0, .int 1]) := Ex.new hl1 _ _ upd_same
    generalize upd (upd H0 l0 (.tup [.int 0, .int 1])) l1 (.tup [.int 0, .int 1, .ref l0]) = H1 at x1 a1 ⊢
    obtain ⟨ms, hms, hml⟩ := cut_ints' ns none (some 63)
    have S0 : Sum 0 H1 0 1 (.ref l0) ⟨0, 1⟩ := ⟨⟨l0, rfl, a1⟩, ⟨by decide, by decide⟩, rfl, by decide, ⟨by decide⟩, ⟨by decide⟩, ⟨by decide⟩, ⟨by decide⟩⟩
    have hS1 := ex_l x1 hS
    have el := el_sl (K := K) (σ := [some (.ref sa), some (.int 0), some (.int 1), some (.ref l0), none, none, none, none, none, none, none, none, none, none, none]) (H := H1) (te := tVar 0) (tl := tNoPart) (th := tPart (tC (.int 63))) (ev_var rfl) eo_none (eo_some ev_c) hS1
    rw [hms] at el
    refine q_forNLn el (fun q i σ' H' => H' q = some (.lst (ms.map V.int)) ∧ Ex H1 H' ∧ ∃ t b v r y4 y5 y6, Sum i H' t b v r ∧ σ' = [some (.ref sa), some (.int t), some (.int b), some v, y4, y5, y6, none, none, none, none, none, none, none, none]) (fun q H2 _ x2 hq => ⟨hq, x2, 0, 1, .ref l0, ⟨0, 1⟩, none, none, none, S0.mono x2, rfl⟩) (fun q i σ' H' _ pv => SqL.of pv.1) ?_ ?_
    · rintro q i x σ' H2 hx ⟨hq, x2, t, b, v, r, y4, y5, y6, S, rfl⟩
      have i63 : i < 63 := by
        have z := (List.getElem?_eq_some_iff.mp hx).1
        rw [List.length_map] at z
        omega
      rw [List.getElem?_map] at hx
      cases hc : ms[i]? with
      | none =>
        rw [hc] at hx
        cases hx
      | some c =>
        rw [hc] at hx
        cases hx
        dsimp only [List.set]
        have u1 := under_in c
        refine q_par (v1 := .int (moreI c)) (v2 := .int (underI c)) (ev_op (ev_op (ev_cb (ea_cons (ev_var rfl) ea_nil) fun H1 e Q q => .inl ⟨_, rfl, q H1 (Ex.refl _)⟩) ev_c (rv_I (by show (0 : Int) < 2000003; decide))) ev_c rv_I0)
          (ev_op (ev_op (ev_op (ev_cb (ea_cons (ev_cb (ea_cons (ev_var rfl) ea_nil) fun H1 e Q q => ⟨_, rfl, q H1 (Ex.refl _)⟩) ea_nil) fun H1 e Q q => .inl ⟨_, rfl, q H1 (Ex.refl _)⟩) ev_c (rv_I ⟨by decide, by decide⟩)) ev_c (rv_I (by show (0 : Int) < 999; decide))) ev_c rv_I0) fun H3 x3 => ?_
        dsimp only [List.set]
        have nt : EI (11 * i + 22 + 10 + 1) (tOp (rI0 fun i j => .int (i + j)) (tOp (rI CMulW fun i j => .int (i * j)) (tVar 1) (tVar 6)) (tOp (rI CMulW fun i j => .int (i * j)) (tVar 5) (tVar 2))) [some (.ref sa), some (.int t), some (.int b), some v, some (.int c), some (.int (moreI c)), some (.int (underI c)), none, none, none, none, none, none, none, none] H3 (t * underI c + moreI c * b) :=
          EI.add (a := 11 * i + 22 + 10) (EI.mul (a := 11 * i + 22) (b := 10) (ei_var rfl S.bt) (ei_var rfl (under_bd c)) (by omega)) ((EI.mul (a := 20) (b := 10 * i + 1) (ei_var rfl (more_bd c)) (ei_var rfl S.bb) (by omega)).le (by omega))
        have nb : EI (10 * i + 1 + 10) (tOp (rI CMulW fun i j => .int (i * j)) (tVar 2) (tVar 6)) [some (.ref sa), some (.int t), some (.int b), some v, some (.int c), some (.int (moreI c)), some (.int (underI c)), none, none, none, none, none, none, none, none] H3 (b * underI c) :=
          EI.mul (a := 10 * i + 1) (b := 10) (ei_var rfl S.bb) (ei_var rfl (under_bd c)) (by omega)
        refine q_par nt.v nb.v fun H4 x4 => ?_
        dsimp only [List.set]
        have S4 := (S.mono x3).mono x4
        have ls := low_ok (t := moreI c) (b := underI c) (by omega)
        have bt : Bd 20 (lowR (moreI c) (underI c)).t := low_bt (more_bd c)
        have bb : Bd 10 (lowR (moreI c) (underI c)).b := low_bb (under_bd c)
        refine s_asgU (eu_binU (nu := nuP) (de := deB) (ev_var rfl) (eu_low (ev_var rfl) (ev_var rfl) (by omega) ((under_bd c).le (by decide))) (S4.fr (by omega)) ls.j ⟨bt.le (by decide), bb.le (by decide)⟩) fun l5 H5 _ x5 h5 => ?_
        generalize lowR (moreI c) (underI c) = z at ls bt bb h5
        have lr := low_ok (t := nuP r z) (de_ne S.j ls.j)
        have e5 := (x3.trans x4).trans x5
        refine ⟨e5 _ _ hq, x2.trans e5, _, _, _, lowR (nuP r z) (deB r z), _, _, _, ⟨⟨l5, rfl, h5⟩, lr.j, plus_ok S.j ls.j S.e ls.e lr.e, Int.mul_ne_zero S.b0 (by omega), nt.b.le (by omega), nb.b.le (by omega), low_bt ?_, low_bb ?_⟩, rfl⟩
        · exact ((S.rt.mul bb).add ((bt.mul S.rb).le (by omega))).le (by omega)
        · exact (S.rb.mul bb).le (by omega)
    · rintro q σ' H2 ⟨hq, x2, t, b, v, r, y4, y5, y6, S, rfl⟩
      have l63 : (ms.map V.int).length ≤ 63 := by
        rw [List.length_map]
        omega
      obtain ⟨lv, rfl, hlv⟩ := S.a
      refine q_not (et_is (et_not (et_B (ev_justA (ev_var rfl) hlv S.j ⟨S.rt.le (by omega), S.rb.le (by omega)⟩ (ei_var rfl (S.bt.le (by omega))) (ei_var rfl (S.bb.le (by omega))) S.e))) rfl) fun H3 x3 => ?_
      have x13 := (x1.trans x2).trans x3
      refine ⟨_, rfl, sa, _, rfl, .inl (ex_l x13 hS), _, _, rfl, _, _, rfl, _, rfl, ?b1, ?b2, for_range (lo := 0) (n := _) (fun i σ H' => Same H0 H' ∧ ∃ r1 r2 r3 r4 r5 r6 r7 r8 r9 r10 r11 r12 r13 r14 : Option V, σ = [some (.ref sa), r1, r2, r3, r4, r5, r6, r7, r8, r9, r10, r11, r12, r13, r14]) ?h0 ?hs ?hd⟩
      case b1 => split <;> split <;> omega
      case b2 => split <;> split <;> omega
      case h0 => exact ⟨x13, _, _, _, _, _, _, _, _, _, _, _, _, _, _, rfl⟩
      case hd => exact fun σ H' _ => k _
      case hs =>
        rintro i σ H4 hi ⟨s1, r1, r2, r3, r4, r5, r6, r7, r8, r9, r10, r11, r12, r13, r14, rfl⟩
        have hi2 : i < 1000 := by
          have hn : ∀ x : Int, (if (if x < 3 then x else 3) > 1 then (if x < 3 then x else 3) else 1).toNat ≤ 4 := fun x => by split <;> split <;> omega
          exact Nat.lt_of_lt_of_le hi (Nat.le_trans (hn _) (by decide))
        rw [show (0 : Int) + (i : Int) = (i : Int) from Int.zero_add _]
        refine q_cut (M := fun σ' H' => ∃ p, Same H0 H' ∧ H0 p = none ∧ BagIn p H' ∧ σ' = [some (.ref sa), r1, r2, r3, r4, r5, r6, some (.int i), some (.ref p), r9, r10, r11, r12, r13, r14]) ?_ ?_
        · exact ⟨_, rfl, _, rfl, sa, ns, i, rfl, s1.seq hS, hi2, fun p H5 hp sm hb => ⟨p, s1.trans sm, s1.free hp, hb, rfl⟩⟩
        rintro σ2 H5 ⟨p, s2, n0, hb2, rfl⟩
        refine q_cut (M := fun σ' H' => ∃ a b c d : Int, InS (10 ^ 40) a ∧ InS (10 ^ 40) b ∧ InS (10 ^ 40) c ∧ InS (10 ^ 40) d ∧ b ≠ 0 ∧ d ≠ 0 ∧ Bgd p H5 H' ∧ σ' = [some (.ref sa), r1, r2, r3, r4, r5, r6, some (.int i), some (.ref p), some (.int a), some (.int b), some (.int c), some (.int d), r13, r14]) ?_ ?_
        · exact ⟨_, rfl, p, rfl, hb2, fun a H6 ia g6 => ⟨_, rfl, p, rfl, g6.bag, fun b H7 ib b0 g7 => ⟨_, rfl, p, rfl, g7.bag, fun c H8 ic g8 => ⟨_, rfl, p, rfl, g8.bag, fun d H9 id' d0 g9 => ⟨(by show 4 ≤ sizeLine; decide), fun tt ht =>
            ⟨tt, _, rfl, SqT.of upd_same, rfl, _, _, rfl, _, _, rfl, _, _, rfl, _, _, rfl, rfl, a, b, c, d, ia, ib, ic, id', b0, d0, (((g6.trans g7).trans g8).trans g9).new ht, rfl⟩⟩⟩⟩⟩⟩
        rintro σ3 H6 ⟨a, b, c, d, ia, ib, ic, id', b0, d0, g6, rfl⟩
        have bI : ∀ {n : Int}, InS (10 ^ 40) n → Bd 140 n := fun h => bd_of (by
          obtain ⟨x, y⟩ := h
          omega)
        refine q_cut (M := fun σ' H' => ∃ c d : Int, Bd 140 c ∧ Bd 140 d ∧ d ≠ 0 ∧ Bgd p H6 H' ∧ σ' = [some (.ref sa), r1, r2, r3, r4, r5, r6, some (.int i), some (.ref p), some (.int a), some (.int b), some (.int c), some (.int d), r13, r14]) ?_ ?_
        · refine (eb_draw (p := p) (i := 8) (N := 4) rfl (eb_c ⟨by decide, by decide, by decide⟩)) H6 g6.bag _ fun n H7 rn g7 => ⟨rfl, _, rfl, ite2 (fun _ => ?_) (fun _ => ?_)⟩
          · have z : EvB p (tOp (rI0 fun i j => .int (i - j)) (tOp (rI0 fun i j => .int (i + j)) (tVar 9) (tCall spDraw [] E0 (tCons (tVar 8) (tCons (tC (.int 3)) tNil)))) (tC (.int 1))) [some (.ref sa), r1, r2, r3, r4, r5, r6, some (.int i), some (.ref p), some (.int a), some (.int b), some (.int c), some (.int d), r13, r14] (fun n => a - 1 ≤ n ∧ n ≤ a + 1) :=
              eb_op (g := fun i j => i - j) (R := fun n => a ≤ n ∧ n ≤ a + 2) (S := fun n => n = 1) (eb_op (g := fun i j => i + j) (R := fun n => n = a) (eb_var rfl rfl) (eb_draw (N := 3) rfl (eb_c ⟨by decide, by decide, by decide⟩)) (fun m n hm hn => by
                subst hm
                exact ⟨by omega, by omega⟩)) (eb_c rfl) (fun m n hm hn => by
                subst hn
                exact ⟨by omega, by omega⟩)
            refine z H7 g7.bag _ fun n H8 rn g8 => ⟨_, rfl, _, _, rfl, n, b, ⟨?_⟩, bI ib, b0, g7.trans g8, rfl⟩
            obtain ⟨x, y⟩ := ia
            exact Nat.lt_of_le_of_lt (show _ ≤ 10 ^ 40 + 1 by omega) (by decide)
          · exact ⟨c, d, bI ic, bI id', d0, g7, rfl⟩
        rintro σ4 H7 ⟨c, d, bc, bd, d0, g7, rfl⟩
        have ba := bI ia
        have bb := bI ib
        refine q_parUU (eu_low (ev_var rfl) (ev_var rfl) b0 (bb.le (by decide))) (eu_low (ev_var rfl) (ev_var rfl) d0 (bd.le (by decide))) fun l1 l2 H8 x8 h1 h2 => ?_
        dsimp only [List.set]
        have o1 := low_ok (t := a) b0
        have o2 := low_ok (t := c) d0
        have w1 : BdR 140 (lowR a b) := low_bd ba bb
        have w2 : BdR 140 (lowR c d) := low_bd bc bd
        generalize lowR a b = ra at o1 w1 h1
        generalize lowR c d = rc at o2 w2 h2
        have g8 := (g6.trans g7).trans (bag_ex x8 g7.bag)
        refine q_not (et_is (et_or (et_is (et_not (et_B (ev_justA (ev_var rfl) h1 o1.j (w1.le (by decide)) (ei_var rfl (ba.le (by decide))) (ei_var rfl (bb.le (by decide))) o1.e))) rfl) fun _ => et_is (et_or (et_is (et_not (et_B (ev_justA (ev_var rfl) h2 o2.j (w2.le (by decide)) (ei_var rfl (bc.le (by decide))) (ei_var rfl (bd.le (by decide))) o2.e))) rfl)
          fun _ => et_test (ev_neUA (eu_low (ev_ixT (ev_var rfl) h1 rfl) (ev_ixT (ev_var rfl) h1 rfl) (by have := o1.j.b; omega) (w1.b.le (by decide))) (ev_var rfl) h1 (low_self o1.j))) rfl) rfl) fun H9 x9 => ?_
        have f1 : FrA H9 (.ref l1) ra := ⟨⟨l1, rfl, x9 _ _ h1⟩, o1.j, w1.le (by decide)⟩
        have f2 : FrA H9 (.ref l2) rc := ⟨⟨l2, rfl, x9 _ _ h2⟩, o2.j, w2.le (by decide)⟩
        have g9 := g8.trans (bag_ex x9 g8.bag)
        refine st_noH (P := fun H' => Bgd p H9 H') (ansH_or (P := fun H' => Ex H9 H') (ansH_not fun Q q => ⟨_, rfl, _, rfl, _, rfl, _, rfl, _, rfl, _, rfl, .ref l1, .ref l2, ra, rc, a, b, c, d, rfl, f1, f2, ba, bb, bc, bd, b0, d0, o1.e, o2.e, fun H' e => q H' e⟩)
          fun G1 y1 => ansH_or (P := fun H' => Bgd p H9 H') (ansH_not fun Q q => ⟨_, rfl, _, rfl, p, .ref l1, ra, rfl, (bag_ex y1 g9.bag).bag, f1.mono y1, fun H' g => q H' ((bag_ex y1 g9.bag).trans g)⟩)
          fun G2 y2 => ansH_not fun Q q => ⟨_, rfl, p, rfl, y2.bag, fun H' g => q H' (y2.trans g)⟩) fun G3 y3 => ?_
        exact ⟨(g9.trans y3).same s2 n0, _, _, _, _, _, _, _, _, _, _, _, _, _, _, rfl⟩
end
end Q
set_option Elab.async false
set_option linter.all false
set_option maxRecDepth 100000
set_option maxHeartbeats 8000000
namespace Q
open PySem L2 PySem.Spec PyProof.Rows PySem.Calls PySem.OwnX
section
variable {P : Program} {w : World} {K : PySem.W.Frag} {C fI : Addr} {bmB : List Value} {newId B : String}
theorem keeps_value (SF : StoreFacts B bmB "object.__setattr__" "object") (T : OwnTxt K C fI bmB newId) {qual : Str} (noN : PySem.W.findIn K (.ref C) "value" = some none)
    (fn : IsInit K fI qual (fun a => ∃ p1 p2, a = iArgs [argOf "self" p1, argOf "value" p2]) (fun b => ∃ q1 q2 q3 q4, b = [putSt "value" "value" q1 q2 q3 q4]) (iScope ["self", "value"])) : Keeps P w K C fI 1 fldV := by
  intro vs us r ln
  match vs, us, r, ln with
  | [v], [u], .cons rv .nil, _ =>
    refine ⟨fun y => if y = "value" then some u else none, fun f => ?_, fun X hl hx hnx hd hq => init_value SF T noN fn X hl hx hnx hd hq⟩
    show RelO (List.lookup f [("value", v)]) (if f = "value" then some u else none)
    by_cases hf : f = "value"
    · subst hf
      rw [if_pos rfl]
      have e : List.lookup ("value" : Str) [(("value" : Str), v)] = some v := by simp [List.lookup]
      rw [e]
      exact rv
    · rw [if_neg hf]
      have q : (f == ("value" : Str)) = false := by simpa using hf
      have e : List.lookup f [(("value" : Str), v)] = none := by simp [List.lookup, q]
      rw [e]
      trivial
end
section
variable {K : PySem.W.Frag} {nm q : Str} {C N : Addr} {bs bm : List Value} {sn : List Str} {sub : List Value} {ab : Bool} {col : Option Bool} {dd : Option Addr} {k0 k1 k2 k3 k5 : Option Value} {newId : String}
theorem own_of {fI : Addr} {bmB : List Value} (e : K.lookup C = some (excClassObj nm q C N bs bm true sn sub ab col dd k0 k1 k2 k3 k5 newId)) (hx : PySem.W.excTail bmB bm = true) (be : PySem.W.subIn K (.ref C) (.type "BaseException") = some true)
    (sa : PySem.W.findIn K (.ref C) "__setattr__" = some (some (.builtin "object.__setattr__"))) (ga : PySem.W.findIn K (.ref C) "__getattribute__" = some (some (.builtin "BaseException.__getattribute__"))) (gg : PySem.W.findIn K (.ref C) "__getattr__" = some none)
    (iC : PySem.W.findIn K (.ref C) "__init__" = some (some (.ref fI))) (tC : PySem.W.typeIn K (.ref fI) = some (.type "function")) (kC : PySem.W.keepIn K (.ref C) = true) (tyC : PySem.W.typeIn K (.ref C) = some (.type "type")) (hd : PySem.W.hasDictIn K C = true) : OwnTxt K C fI bmB newId :=
  ⟨⟨nm, q, N, bs, bm, sn, sub, ab, col, dd, k0, k1, k2, k3, k5, e, hx⟩, sa, ga, gg, iC, tC, kC, be, tyC, hd⟩
theorem me_of {C : Addr} (h : PySem.W.subIn K (.ref C) (.type "BaseException") = some true) (t : PySem.W.typeIn K (.ref C) = some (.type "type")) (m : PySem.W.subIn K (.ref C) (.ref C) = some true) : PySem.W.exmOne K (.ref C) (.ref C) = some true := by
  have hc : (PySem.W.clsIn K C).isSome = true := by
    have z : PySem.W.mroIn K C (.type "BaseException") = some true := h
    unfold PySem.W.mroIn at z
    cases q : PySem.W.clsIn K C with
    | none =>
      rw [q] at z
      cases z
    | some _ => rfl
  show (if (PySem.W.subIn K (.ref C) (.type "BaseException") == some true) = true then (if ((PySem.W.clsIn K C).isSome && PySem.W.typeIn K (.ref C) == some (.type "type")) = true then PySem.W.subIn K (.ref C) (.ref C) else none) else none) = _
  rw [h, if_pos (by rfl), hc, t, if_pos (by simp), m]
end
theorem all_mk {l : PySem.W.OpenLaw} {w : World} {K : PySem.W.Frag} {h : Heap} {mg : Str → Option Value} {fa : Addr} (XX : K.In h) (GG : h.Ns mainGlobals mg) (hfa : mg "law" = some (.ref fa))
    {cE fI NE : Addr} {nmE qnE : Str} {bsE sbE : List Value} {snE : List Str} {abE : Bool} {coE : Option Bool} {ddE : Option Addr} {kaE kbE kcE kdE keE : Option Value} {ocE dcE pmE cdE ctE : Value} {odE anE : Option Addr} {slE : Array (Option Value)} {paE pbE qaE qbE qcE qdE : Pos} {g4 : Addr} {oc4 kV4 dc4 pm4 cd4 ct4 : Value} {od4 an4 : Option Addr} {sl4 : Array (Option Value)} {g5 : Addr} {oc5 kV5 dc5 pm5 cd5 ct5 : Value} {od5 an5 : Option Addr} {sl5 : Array (Option Value)} {g6 : Addr} {oc6 kV6 dc6 pm6 cd6 ct6 : Value} {od6 an6 : Option Addr} {sl6 : Array (Option Value)} {g7 : Addr} {oc7 kV7 dc7 pm7 cd7 ct7 : Value} {od7 an7 : Option Addr} {sl7 : Array (Option Value)} {g8 : Addr} {oc8 kV8 dc8 pm8 cd8 ct8 : Value} {od8 an8 : Option Addr} {sl8 : Array (Option Value)} {g9 : Addr} {oc9 kV9 dc9 pm9 cd9 ct9 : Value} {od9 an9 : Option Addr} {sl9 : Array (Option Value)} {g10 : Addr} {oc10 kV10 dc10 pm10 cd10 ct10 : Value} {od10 an10 : Option Addr} {sl10 : Array (Option Value)} {g11 : Addr} {oc11 kV11 dc11 pm11 cd11 ct11 : Value} {od11 an11 : Option Addr} {sl11 : Array (Option Value)} {g12 : Addr} {oc12 kV12 dc12 pm12 cd12 ct12 : Value} {od12 an12 : Option Addr} {sl12 : Array (Option Value)} {g13 : Addr} {oc13 kV13 dc13 pm13 cd13 ct13 : Value} {od13 an13 : Option Addr} {sl13 : Array (Option Value)} {g14 : Addr} {oc14 kV14 dc14 pm14 cd14 ct14 : Value} {od14 an14 : Option Addr} {sl14 : Array (Option Value)} {g15 : Addr} {oc15 kV15 dc15 pm15 cd15 ct15 : Value} {od15 an15 : Option Addr} {sl15 : Array (Option Value)} {g16 : Addr} {oc16 kV16 dc16 pm16 cd16 ct16 : Value} {od16 an16 : Option Addr} {sl16 : Array (Option Value)} {g18 : Addr} {oc18 kV18 dc18 pm18 cd18 ct18 : Value} {od18 an18 : Option Addr} {sl18 : Array (Option Value)} {g19 : Addr} {oc19 kV19 dc19 pm19 cd19 ct19 : Value} {od19 an19 : Option Addr} {sl19 : Array (Option Value)} {g20 : Addr} {oc20 kV20 dc20 pm20 cd20 ct20 : Value} {od20 an20 : Option Addr} {sl20 : Array (Option Value)} {g21 : Addr} {oc21 kV21 dc21 pm21 cd21 ct21 : Value} {od21 an21 : Option Addr} {sl21 : Array (Option Value)} {g22 : Addr} {oc22 kV22 dc22 pm22 cd22 ct22 : Value} {od22 an22 : Option Addr} {sl22 : Array (Option Value)} {g23 : Addr} {oc23 kV23 dc23 pm23 cd23 ct23 : Value} {od23 an23 : Option Addr} {sl23 : Array (Option Value)} {g24 : Addr} {oc24 kV24 dc24 pm24 cd24 ct24 : Value} {od24 an24 : Option Addr} {sl24 : Array (Option Value)} {g25 : Addr} {oc25 kV25 dc25 pm25 cd25 ct25 : Value} {od25 an25 : Option Addr} {sl25 : Array (Option Value)} {g26 : Addr} {oc26 kV26 dc26 pm26 cd26 ct26 : Value} {od26 an26 : Option Addr} {sl26 : Array (Option Value)} {g27 : Addr} {oc27 kV27 dc27 pm27 cd27 ct27 : Value} {od27 an27 : Option Addr} {sl27 : Array (Option Value)} {g28 : Addr} {oc28 kV28 dc28 pm28 cd28 ct28 : Value} {od28 an28 : Option Addr} {sl28 : Array (Option Value)} {g29 : Addr} {oc29 kV29 dc29 pm29 cd29 ct29 : Value} {od29 an29 : Option Addr} {sl29 : Array (Option Value)} {g30 : Addr} {oc30 kV30 dc30 pm30 cd30 ct30 : Value} {od30 an30 : Option Addr} {sl30 : Array (Option Value)} {g31 : Addr} {oc31 kV31 dc31 pm31 cd31 ct31 : Value} {od31 an31 : Option Addr} {sl31 : Array (Option Value)}
    (AE : PySem.W.nsIn K mainGlobals "InvalidNumber" = some (some (.ref cE)))
    (XE_ : K.lookup cE = some (excClassObj nmE qnE cE NE bsE [.type "IndexError", .type "LookupError", .type "Exception", .type "BaseException", .type "object"] true snE sbE abE coE ddE kaE kbE kcE kdE keE "IndexError.__new__"))
    (GE : PySem.W.findIn K (.ref cE) "__getattribute__" = some (some (.builtin "BaseException.__getattribute__")))
    (HE : PySem.W.findIn K (.ref cE) "__getattr__" = some none)
    (TE_ : PySem.W.typeIn K (.ref cE) = some (.type "type"))
    (KE_ : PySem.W.keepIn K (.ref cE) = true)
    (SE : PySem.W.findIn K (.ref cE) "__setattr__" = some (some (.builtin "object.__setattr__")))
    (IE : PySem.W.findIn K (.ref cE) "__init__" = some (some (.ref fI)))
    (FE : PySem.W.typeIn K (.ref fI) = some (.type "function"))
    (LE : K.lookup fI = some ⟨ocE, odE, .func (PySem.W.fnOf "__init__" "InvalidNumber.__init__" (iArgs [argOf "self" paE, argOf "value" pbE]) [putSt "value" "value" qaE qbE qcE qdE] (iScope ["self", "value"]) .none .none dcE pmE anE cdE ctE), slE⟩)
    (DE : PySem.W.codeIn K cdE "InvalidNumber.__init__" = true)
    (YE : PySem.W.hasDictIn K cE = true)
    (NEx : PySem.W.findIn K (.ref cE) "value" = some none)
    (ME : PySem.W.subIn K (.ref cE) (.ref cE) = some true)
    (BE : PySem.W.subIn K (.ref cE) (.type "BaseException") = some true)
    (gc0 : PySem.W.nsIn K mainGlobals "gcd" = some (some (.builtin "math.gcd")))
    (a4 : PySem.W.nsIn K mainGlobals "is_integer" = some (some (.ref g4)))
    (l4 : K.lookup g4 = some ⟨oc4, od4, .func (PySem.W.fnOf "is_integer" "is_integer" (defArgs sIsInt) (defBody sIsInt) (defScope sIsInt) .none kV4 dc4 pm4 an4 cd4 ct4), sl4⟩)
    (c4d : PySem.W.codeIn K cd4 "is_integer" = true)
    (k4 : PySem.W.keepIn K (.ref g4) = true)
    (a5 : PySem.W.nsIn K mainGlobals "is_name" = some (some (.ref g5)))
    (l5 : K.lookup g5 = some ⟨oc5, od5, .func (PySem.W.fnOf "is_name" "is_name" (defArgs sIsName) (defBody sIsName) (defScope sIsName) .none kV5 dc5 pm5 an5 cd5 ct5), sl5⟩)
    (c5d : PySem.W.codeIn K cd5 "is_name" = true)
    (k5 : PySem.W.keepIn K (.ref g5) = true)
    (a6 : PySem.W.nsIn K mainGlobals "is_fraction" = some (some (.ref g6)))
    (l6 : K.lookup g6 = some ⟨oc6, od6, .func (PySem.W.fnOf "is_fraction" "is_fraction" (defArgs sIsFr) (defBody sIsFr) (defScope sIsFr) .none kV6 dc6 pm6 an6 cd6 ct6), sl6⟩)
    (c6d : PySem.W.codeIn K cd6 "is_fraction" = true)
    (k6 : PySem.W.keepIn K (.ref g6) = true)
    (a7 : PySem.W.nsIn K mainGlobals "lowest_of" = some (some (.ref g7)))
    (l7 : K.lookup g7 = some ⟨oc7, od7, .func (PySem.W.fnOf "lowest_of" "lowest_of" (defArgs sLowOf) (defBody sLowOf) (defScope sLowOf) .none kV7 dc7 pm7 an7 cd7 ct7), sl7⟩)
    (c7d : PySem.W.codeIn K cd7 "lowest_of" = true)
    (k7 : PySem.W.keepIn K (.ref g7) = true)
    (a8 : PySem.W.nsIn K mainGlobals "plus" = some (some (.ref g8)))
    (l8 : K.lookup g8 = some ⟨oc8, od8, .func (PySem.W.fnOf "plus" "plus" (defArgs sPlus) (defBody sPlus) (defScope sPlus) .none kV8 dc8 pm8 an8 cd8 ct8), sl8⟩)
    (c8d : PySem.W.codeIn K cd8 "plus" = true)
    (k8 : PySem.W.keepIn K (.ref g8) = true)
    (a9 : PySem.W.nsIn K mainGlobals "minus" = some (some (.ref g9)))
    (l9 : K.lookup g9 = some ⟨oc9, od9, .func (PySem.W.fnOf "minus" "minus" (defArgs sMinus) (defBody sMinus) (defScope sMinus) .none kV9 dc9 pm9 an9 cd9 ct9), sl9⟩)
    (c9d : PySem.W.codeIn K cd9 "minus" = true)
    (k9 : PySem.W.keepIn K (.ref g9) = true)
    (a10 : PySem.W.nsIn K mainGlobals "times" = some (some (.ref g10)))
    (l10 : K.lookup g10 = some ⟨oc10, od10, .func (PySem.W.fnOf "times" "times" (defArgs sTimes) (defBody sTimes) (defScope sTimes) .none kV10 dc10 pm10 an10 cd10 ct10), sl10⟩)
    (c10d : PySem.W.codeIn K cd10 "times" = true)
    (k10 : PySem.W.keepIn K (.ref g10) = true)
    (a11 : PySem.W.nsIn K mainGlobals "is_less" = some (some (.ref g11)))
    (l11 : K.lookup g11 = some ⟨oc11, od11, .func (PySem.W.fnOf "is_less" "is_less" (defArgs sLess) (defBody sLess) (defScope sLess) .none kV11 dc11 pm11 an11 cd11 ct11), sl11⟩)
    (c11d : PySem.W.codeIn K cd11 "is_less" = true)
    (k11 : PySem.W.keepIn K (.ref g11) = true)
    (a12 : PySem.W.nsIn K mainGlobals "whole_below" = some (some (.ref g12)))
    (l12 : K.lookup g12 = some ⟨oc12, od12, .func (PySem.W.fnOf "whole_below" "whole_below" (defArgs sBelow) (defBody sBelow) (defScope sBelow) .none kV12 dc12 pm12 an12 cd12 ct12), sl12⟩)
    (c12d : PySem.W.codeIn K cd12 "whole_below" = true)
    (k12 : PySem.W.keepIn K (.ref g12) = true)
    (a13 : PySem.W.nsIn K mainGlobals "whole_above" = some (some (.ref g13)))
    (l13 : K.lookup g13 = some ⟨oc13, od13, .func (PySem.W.fnOf "whole_above" "whole_above" (defArgs sAbove) (defBody sAbove) (defScope sAbove) .none kV13 dc13 pm13 an13 cd13 ct13), sl13⟩)
    (c13d : PySem.W.codeIn K cd13 "whole_above" = true)
    (k13 : PySem.W.keepIn K (.ref g13) = true)
    (a14 : PySem.W.nsIn K mainGlobals "_lowest" = some (some (.ref g14)))
    (l14 : K.lookup g14 = some ⟨oc14, od14, .func (PySem.W.fnOf "_lowest" "_lowest" (defArgs sLow2) (defBody sLow2) (defScope sLow2) .none kV14 dc14 pm14 an14 cd14 ct14), sl14⟩)
    (c14d : PySem.W.codeIn K cd14 "_lowest" = true)
    (k14 : PySem.W.keepIn K (.ref g14) = true)
    (a15 : PySem.W.nsIn K mainGlobals "_check" = some (some (.ref g15)))
    (l15 : K.lookup g15 = some ⟨oc15, od15, .func (PySem.W.fnOf "_check" "_check" (defArgs sCheck) (defBody sCheck) (defScope sCheck) .none kV15 dc15 pm15 an15 cd15 ct15), sl15⟩)
    (c15d : PySem.W.codeIn K cd15 "_check" = true)
    (k15 : PySem.W.keepIn K (.ref g15) = true)
    (a16 : PySem.W.nsIn K mainGlobals "_check_both" = some (some (.ref g16)))
    (l16 : K.lookup g16 = some ⟨oc16, od16, .func (PySem.W.fnOf "_check_both" "_check_both" (defArgs sBoth) (defBody sBoth) (defScope sBoth) .none kV16 dc16 pm16 an16 cd16 ct16), sl16⟩)
    (c16d : PySem.W.codeIn K cd16 "_check_both" = true)
    (k16 : PySem.W.keepIn K (.ref g16) = true)
    (a18 : PySem.W.nsIn K mainGlobals "_law_bag" = some (some (.ref g18)))
    (l18 : K.lookup g18 = some ⟨oc18, od18, .func (PySem.W.fnOf "_law_bag" "_law_bag" (defArgs sBag) (defBody sBag) (defScope sBag) .none kV18 dc18 pm18 an18 cd18 ct18), sl18⟩)
    (c18d : PySem.W.codeIn K cd18 "_law_bag" = true)
    (k18 : PySem.W.keepIn K (.ref g18) = true)
    (a19 : PySem.W.nsIn K mainGlobals "_law_draw" = some (some (.ref g19)))
    (l19 : K.lookup g19 = some ⟨oc19, od19, .func (PySem.W.fnOf "_law_draw" "_law_draw" (defArgs sDraw) (defBody sDraw) (defScope sDraw) .none kV19 dc19 pm19 an19 cd19 ct19), sl19⟩)
    (c19d : PySem.W.codeIn K cd19 "_law_draw" = true)
    (k19 : PySem.W.keepIn K (.ref g19) = true)
    (a20 : PySem.W.nsIn K mainGlobals "_law_one_of" = some (some (.ref g20)))
    (l20 : K.lookup g20 = some ⟨oc20, od20, .func (PySem.W.fnOf "_law_one_of" "_law_one_of" (defArgs sOne) (defBody sOne) (defScope sOne) .none kV20 dc20 pm20 an20 cd20 ct20), sl20⟩)
    (c20d : PySem.W.codeIn K cd20 "_law_one_of" = true)
    (k20 : PySem.W.keepIn K (.ref g20) = true)
    (a21 : PySem.W.nsIn K mainGlobals "_law_shared" = some (some (.ref g21)))
    (l21 : K.lookup g21 = some ⟨oc21, od21, .func (PySem.W.fnOf "_law_shared" "_law_shared" (defArgs sShared) (defBody sShared) (defScope sShared) .none kV21 dc21 pm21 an21 cd21 ct21), sl21⟩)
    (c21d : PySem.W.codeIn K cd21 "_law_shared" = true)
    (k21 : PySem.W.keepIn K (.ref g21) = true)
    (a22 : PySem.W.nsIn K mainGlobals "_law_integer" = some (some (.ref g22)))
    (l22 : K.lookup g22 = some ⟨oc22, od22, .func (PySem.W.fnOf "_law_integer" "_law_integer" (defArgs sInteger) (defBody sInteger) (defScope sInteger) .none kV22 dc22 pm22 an22 cd22 ct22), sl22⟩)
    (c22d : PySem.W.codeIn K cd22 "_law_integer" = true)
    (k22 : PySem.W.keepIn K (.ref g22) = true)
    (a23 : PySem.W.nsIn K mainGlobals "_law_bottom" = some (some (.ref g23)))
    (l23 : K.lookup g23 = some ⟨oc23, od23, .func (PySem.W.fnOf "_law_bottom" "_law_bottom" (defArgs sBottom) (defBody sBottom) (defScope sBottom) .none kV23 dc23 pm23 an23 cd23 ct23), sl23⟩)
    (c23d : PySem.W.codeIn K cd23 "_law_bottom" = true)
    (k23 : PySem.W.keepIn K (.ref g23) = true)
    (a24 : PySem.W.nsIn K mainGlobals "_law_is_whole" = some (some (.ref g24)))
    (l24 : K.lookup g24 = some ⟨oc24, od24, .func (PySem.W.fnOf "_law_is_whole" "_law_is_whole" (defArgs sIsWhole) (defBody sIsWhole) (defScope sIsWhole) .none kV24 dc24 pm24 an24 cd24 ct24), sl24⟩)
    (c24d : PySem.W.codeIn K cd24 "_law_is_whole" = true)
    (k24 : PySem.W.keepIn K (.ref g24) = true)
    (a25 : PySem.W.nsIn K mainGlobals "_law_is_just" = some (some (.ref g25)))
    (l25 : K.lookup g25 = some ⟨oc25, od25, .func (PySem.W.fnOf "_law_is_just" "_law_is_just" (defArgs sIsJust) (defBody sIsJust) (defScope sIsJust) .none kV25 dc25 pm25 an25 cd25 ct25), sl25⟩)
    (c25d : PySem.W.codeIn K cd25 "_law_is_just" = true)
    (k25 : PySem.W.keepIn K (.ref g25) = true)
    (a26 : PySem.W.nsIn K mainGlobals "_law_odd_fraction" = some (some (.ref g26)))
    (l26 : K.lookup g26 = some ⟨oc26, od26, .func (PySem.W.fnOf "_law_odd_fraction" "_law_odd_fraction" (defArgs sOdd) (defBody sOdd) (defScope sOdd) .none kV26 dc26 pm26 an26 cd26 ct26), sl26⟩)
    (c26d : PySem.W.codeIn K cd26 "_law_odd_fraction" = true)
    (k26 : PySem.W.keepIn K (.ref g26) = true)
    (a27 : PySem.W.nsIn K mainGlobals "_law_asked" = some (some (.ref g27)))
    (l27 : K.lookup g27 = some ⟨oc27, od27, .func (PySem.W.fnOf "_law_asked" "_law_asked" (defArgs sAsked) (defBody sAsked) (defScope sAsked) .none kV27 dc27 pm27 an27 cd27 ct27), sl27⟩)
    (c27d : PySem.W.codeIn K cd27 "_law_asked" = true)
    (k27 : PySem.W.keepIn K (.ref g27) = true)
    (a28 : PySem.W.nsIn K mainGlobals "_law_are_right" = some (some (.ref g28)))
    (l28 : K.lookup g28 = some ⟨oc28, od28, .func (PySem.W.fnOf "_law_are_right" "_law_are_right" (defArgs sRight) (defBody sRight) (defScope sRight) .none kV28 dc28 pm28 an28 cd28 ct28), sl28⟩)
    (c28d : PySem.W.codeIn K cd28 "_law_are_right" = true)
    (k28 : PySem.W.keepIn K (.ref g28) = true)
    (a29 : PySem.W.nsIn K mainGlobals "_law_are_refused" = some (some (.ref g29)))
    (l29 : K.lookup g29 = some ⟨oc29, od29, .func (PySem.W.fnOf "_law_are_refused" "_law_are_refused" (defArgs sRefd) (defBody sRefd) (defScope sRefd) .none kV29 dc29 pm29 an29 cd29 ct29), sl29⟩)
    (c29d : PySem.W.codeIn K cd29 "_law_are_refused" = true)
    (k29 : PySem.W.keepIn K (.ref g29) = true)
    (a30 : PySem.W.nsIn K mainGlobals "_law_are_names" = some (some (.ref g30)))
    (l30 : K.lookup g30 = some ⟨oc30, od30, .func (PySem.W.fnOf "_law_are_names" "_law_are_names" (defArgs sNames) (defBody sNames) (defScope sNames) .none kV30 dc30 pm30 an30 cd30 ct30), sl30⟩)
    (c30d : PySem.W.codeIn K cd30 "_law_are_names" = true)
    (k30 : PySem.W.keepIn K (.ref g30) = true)
    (a31 : PySem.W.nsIn K mainGlobals "law" = some (some (.ref g31)))
    (l31 : K.lookup g31 = some ⟨oc31, od31, .func (PySem.W.fnOf "law" "law" (defArgs sLaw) (defBody sLaw) (defScope sLaw) .none kV31 dc31 pm31 an31 cd31 ct31), sl31⟩)
    (c31d : PySem.W.codeIn K cd31 "law" = true)
    (k31 : PySem.W.keepIn K (.ref g31) = true)
    (z_isinstance : PySem.W.nsIn K mainGlobals "isinstance" = some none)
    (z_len : PySem.W.nsIn K mainGlobals "len" = some none)
    (z_sum : PySem.W.nsIn K mainGlobals "sum" = some none)
    (z_int : PySem.W.nsIn K mainGlobals "int" = some none)
    (z_abs : PySem.W.nsIn K mainGlobals "abs" = some none)
    (z_max : PySem.W.nsIn K mainGlobals "max" = some none)
    (z_min : PySem.W.nsIn K mainGlobals "min" = some none)
    (z_range : PySem.W.nsIn K mainGlobals "range" = some none)
    (z_list : PySem.W.nsIn K mainGlobals "list" = some none)
    (z_tuple : PySem.W.nsIn K mainGlobals "tuple" = some none)
    (z_bool : PySem.W.nsIn K mainGlobals "bool" = some none)
    (z_str : PySem.W.nsIn K mainGlobals "str" = some none)
    (z_repr : PySem.W.nsIn K mainGlobals "repr" = some none)
    (z_all : PySem.W.nsIn K mainGlobals "all" = some none)
    : ∃ fd : FuncData, (∀ (s : Shared) (v : Value), BindsTo s fd ⟨[v], []⟩ [("script", v)]) ∧ ∀ base : Heap, K.In base → base.Ns mainGlobals mg → FnG l.prog w K mg base CX0 8 fa fd ["script"] (spLaw K) := by
  have e := hfa.symm.trans (PySem.W.mg_of XX GG a31)
  cases e
  have mgn : ∀ {x : Str}, PySem.W.nsIn K mainGlobals x = some none → mg x = none := fun e => PySem.W.mg_none_of XX GG e
  have TB1 : TB mg := ⟨mgn z_len, mgn z_sum, mgn z_int, mgn z_abs, mgn z_max, mgn z_range, mgn z_list⟩
  have T1 : TL mg := ⟨TB1, mgn z_min⟩
  have TI1 : TI mg := ⟨mgn z_isinstance, mgn z_int, mgn z_bool, mgn z_tuple, mgn z_str, mgn z_len, mgn z_all⟩
  have TM1 : TM mg := ⟨PySem.W.mg_of XX GG gc0⟩
  have zr := mgn z_repr
  have oE : OwnTxt K cE fI ixTail "IndexError.__new__" := own_of XE_ (show PySem.W.excTail ixTail [.type "IndexError", .type "LookupError", .type "Exception", .type "BaseException", .type "object"] = true by decide +kernel) BE SE GE HE IE FE KE_ TE_ YE
  have NN_ : NoN l.prog w K mg cE := ⟨PySem.W.mg_of XX GG AE, ⟨fI, "IndexError.__new__", oE, ⟨_, _, PySem.F.excBase_IndexError⟩, ⟨rfl, rfl, rfl⟩, keeps_value PySem.F.store_IndexError oE NEx ⟨_, _, _, _, _, _, _, _, _, _, LE, DE, ⟨_, _, rfl⟩, ⟨_, _, _, _, rfl⟩⟩⟩, NEx, me_of BE TE_ ME⟩
  have F4_ := fun_mk (st := sIsInt) l4 c4d k4
  have g4_ := PySem.W.mg_of XX GG a4
  have b4_ := F4_.binds (ps := ["value"]) fun _ _ _ _ _ _ us hl => match us, hl with | [_], _ => rfl
  have F5_ := fun_mk (st := sIsName) l5 c5d k5
  have g5_ := PySem.W.mg_of XX GG a5
  have b5_ := F5_.binds (ps := ["value"]) fun _ _ _ _ _ _ us hl => match us, hl with | [_], _ => rfl
  have F6_ := fun_mk (st := sIsFr) l6 c6d k6
  have g6_ := PySem.W.mg_of XX GG a6
  have b6_ := F6_.binds (ps := ["value"]) fun _ _ _ _ _ _ us hl => match us, hl with | [_], _ => rfl
  have F7_ := fun_mk (st := sLowOf) l7 c7d k7
  have g7_ := PySem.W.mg_of XX GG a7
  have b7_ := F7_.binds (ps := ["top", "bottom"]) fun _ _ _ _ _ _ us hl => match us, hl with | [_, _], _ => rfl
  have F8_ := fun_mk (st := sPlus) l8 c8d k8
  have g8_ := PySem.W.mg_of XX GG a8
  have b8_ := F8_.binds (ps := ["one", "other"]) fun _ _ _ _ _ _ us hl => match us, hl with | [_, _], _ => rfl
  have F9_ := fun_mk (st := sMinus) l9 c9d k9
  have g9_ := PySem.W.mg_of XX GG a9
  have b9_ := F9_.binds (ps := ["one", "other"]) fun _ _ _ _ _ _ us hl => match us, hl with | [_, _], _ => rfl
  have F10_ := fun_mk (st := sTimes) l10 c10d k10
  have g10_ := PySem.W.mg_of XX GG a10
  have b10_ := F10_.binds (ps := ["one", "other"]) fun _ _ _ _ _ _ us hl => match us, hl with | [_, _], _ => rfl
  have F11_ := fun_mk (st := sLess) l11 c11d k11
  have g11_ := PySem.W.mg_of XX GG a11
  have b11_ := F11_.binds (ps := ["one", "other"]) fun _ _ _ _ _ _ us hl => match us, hl with | [_, _], _ => rfl
  have F12_ := fun_mk (st := sBelow) l12 c12d k12
  have g12_ := PySem.W.mg_of XX GG a12
  have b12_ := F12_.binds (ps := ["one"]) fun _ _ _ _ _ _ us hl => match us, hl with | [_], _ => rfl
  have F13_ := fun_mk (st := sAbove) l13 c13d k13
  have g13_ := PySem.W.mg_of XX GG a13
  have b13_ := F13_.binds (ps := ["one"]) fun _ _ _ _ _ _ us hl => match us, hl with | [_], _ => rfl
  have F14_ := fun_mk (st := sLow2) l14 c14d k14
  have g14_ := PySem.W.mg_of XX GG a14
  have b14_ := F14_.binds (ps := ["top", "bottom"]) fun _ _ _ _ _ _ us hl => match us, hl with | [_, _], _ => rfl
  have F15_ := fun_mk (st := sCheck) l15 c15d k15
  have g15_ := PySem.W.mg_of XX GG a15
  have b15_ := F15_.binds (ps := ["value"]) fun _ _ _ _ _ _ us hl => match us, hl with | [_], _ => rfl
  have F16_ := fun_mk (st := sBoth) l16 c16d k16
  have g16_ := PySem.W.mg_of XX GG a16
  have b16_ := F16_.binds (ps := ["one", "other"]) fun _ _ _ _ _ _ us hl => match us, hl with | [_, _], _ => rfl
  have F18_ := fun_mk (st := sBag) l18 c18d k18
  have g18_ := PySem.W.mg_of XX GG a18
  have b18_ := F18_.binds (ps := ["script", "at"]) fun _ _ _ _ _ _ us hl => match us, hl with | [_, _], _ => rfl
  have F19_ := fun_mk (st := sDraw) l19 c19d k19
  have g19_ := PySem.W.mg_of XX GG a19
  have b19_ := F19_.binds (ps := ["bag", "total"]) fun _ _ _ _ _ _ us hl => match us, hl with | [_, _], _ => rfl
  have F20_ := fun_mk (st := sOne) l20 c20d k20
  have g20_ := PySem.W.mg_of XX GG a20
  have b20_ := F20_.binds (ps := ["bag", "items"]) fun _ _ _ _ _ _ us hl => match us, hl with | [_, _], _ => rfl
  have F21_ := fun_mk (st := sShared) l21 c21d k21
  have g21_ := PySem.W.mg_of XX GG a21
  have b21_ := F21_.binds (ps := ["one", "other"]) fun _ _ _ _ _ _ us hl => match us, hl with | [_, _], _ => rfl
  have F22_ := fun_mk (st := sInteger) l22 c22d k22
  have g22_ := PySem.W.mg_of XX GG a22
  have b22_ := F22_.binds (ps := ["bag"]) fun _ _ _ _ _ _ us hl => match us, hl with | [_], _ => rfl
  have F23_ := fun_mk (st := sBottom) l23 c23d k23
  have g23_ := PySem.W.mg_of XX GG a23
  have b23_ := F23_.binds (ps := ["bag"]) fun _ _ _ _ _ _ us hl => match us, hl with | [_], _ => rfl
  have F24_ := fun_mk (st := sIsWhole) l24 c24d k24
  have g24_ := PySem.W.mg_of XX GG a24
  have b24_ := F24_.binds (ps := ["value"]) fun _ _ _ _ _ _ us hl => match us, hl with | [_], _ => rfl
  have F25_ := fun_mk (st := sIsJust) l25 c25d k25
  have g25_ := PySem.W.mg_of XX GG a25
  have b25_ := F25_.binds (ps := ["told", "top", "bottom"]) fun _ _ _ _ _ _ us hl => match us, hl with | [_, _, _], _ => rfl
  have F26_ := fun_mk (st := sOdd) l26 c26d k26
  have g26_ := PySem.W.mg_of XX GG a26
  have b26_ := F26_.binds (ps := ["bag"]) fun _ _ _ _ _ _ us hl => match us, hl with | [_], _ => rfl
  have F27_ := fun_mk (st := sAsked) l27 c27d k27
  have g27_ := PySem.W.mg_of XX GG a27
  have b27_ := F27_.binds (ps := ["which", "one", "other"]) fun _ _ _ _ _ _ us hl => match us, hl with | [_, _, _], _ => rfl
  have F28_ := fun_mk (st := sRight) l28 c28d k28
  have g28_ := PySem.W.mg_of XX GG a28
  have b28_ := F28_.binds (ps := ["one", "other", "a", "b", "c", "d"]) fun _ _ _ _ _ _ us hl => match us, hl with | [_, _, _, _, _, _], _ => rfl
  have F29_ := fun_mk (st := sRefd) l29 c29d k29
  have g29_ := PySem.W.mg_of XX GG a29
  have b29_ := F29_.binds (ps := ["bag", "one"]) fun _ _ _ _ _ _ us hl => match us, hl with | [_, _], _ => rfl
  have F30_ := fun_mk (st := sNames) l30 c30d k30
  have g30_ := PySem.W.mg_of XX GG a30
  have b30_ := F30_.binds (ps := ["bag"]) fun _ _ _ _ _ _ us hl => match us, hl with | [_], _ => rfl
  have F31_ := fun_mk (st := sLaw) l31 c31d k31
  have g31_ := PySem.W.mg_of XX GG a31
  have b31_ := F31_.binds (ps := ["script"]) fun _ _ _ _ _ _ us hl => match us, hl with | [_], _ => rfl
  refine ⟨PySem.W.fnOf "law" "law" (defArgs sLaw) (defBody sLaw) (defScope sLaw) .none kV31 dc31 pm31 an31 cd31 ct31, fun s v => .of_eq rfl, fun base _ _ => ?_⟩
  have C4 : Cl l.prog w K mg base 1 "is_integer" _ := ⟨⟨_, _, _, ok_isint F4_ TI1, g4_, k4, b4_⟩⟩
  have C14 : Cl l.prog w K mg base 1 "_lowest" _ := ⟨⟨_, _, _, ok_low2 F14_ TM1, g14_, k14, b14_⟩⟩
  have C6 : Cl l.prog w K mg base 2 "is_fraction" _ := ⟨⟨_, _, _, ok_isfr F6_ TI1 TM1 C4, g6_, k6, b6_⟩⟩
  have C5 : Cl l.prog w K mg base 1 "is_name" _ := ⟨⟨_, _, _, ok_isname F5_ TI1, g5_, k5, b5_⟩⟩
  have C15 : ClX l.prog w K mg base 3 "_check" _ := ⟨⟨_, _, _, ok_check F15_ NN_ C6, g15_, k15, b15_⟩⟩
  have C16 : ClX l.prog w K mg base 4 "_check_both" _ := ⟨⟨_, _, _, ok_both F16_ C15, g16_, k16, b16_⟩⟩
  have C7 : ClX l.prog w K mg base 2 "lowest_of" _ := ⟨⟨_, _, _, ok_lowof F7_ NN_ C4 C14, g7_, k7, b7_⟩⟩
  have C8 : ClX l.prog w K mg base 5 "plus" _ := ⟨⟨_, _, _, ok_plus F8_ C16 C14, g8_, k8, b8_⟩⟩
  have C9 : ClX l.prog w K mg base 5 "minus" _ := ⟨⟨_, _, _, ok_minus F9_ C16 C14, g9_, k9, b9_⟩⟩
  have C10 : ClX l.prog w K mg base 5 "times" _ := ⟨⟨_, _, _, ok_times F10_ C16 C14, g10_, k10, b10_⟩⟩
  have C11 : ClX l.prog w K mg base 5 "is_less" _ := ⟨⟨_, _, _, ok_less F11_ C16, g11_, k11, b11_⟩⟩
  have C12 : ClX l.prog w K mg base 4 "whole_below" _ := ⟨⟨_, _, _, ok_below F12_ C15, g12_, k12, b12_⟩⟩
  have C13 : ClX l.prog w K mg base 4 "whole_above" _ := ⟨⟨_, _, _, ok_above F13_ C15, g13_, k13, b13_⟩⟩
  have C18 : Cl l.prog w K mg base 1 "_law_bag" _ := ⟨⟨_, _, _, ok_bag F18_ TB1, g18_, k18, b18_⟩⟩
  have D1 := ok_draw (P := l.prog) (w := w) (base := base) F19_ TB1
  have C19 : Cl l.prog w K mg base 1 "_law_draw" _ := ⟨⟨_, _, _, D1, g19_, k19, b19_⟩⟩
  have C20 : Cl l.prog w K mg base 2 "_law_one_of" _ := ⟨⟨_, _, _, ok_one F20_ TB1 D1 b19_ g19_ k19, g20_, k20, b20_⟩⟩
  have C21 : Cl l.prog w K mg base 1 "_law_shared" _ := ⟨⟨_, _, _, ok_shared F21_ TB1, g21_, k21, b21_⟩⟩
  have C22 : Cl l.prog w K mg base 3 "_law_integer" _ := ⟨⟨_, _, _, ok_integer F22_ C19 C20, g22_, k22, b22_⟩⟩
  have C23 : Cl l.prog w K mg base 4 "_law_bottom" _ := ⟨⟨_, _, _, ok_bottom F23_ C19 C22, g23_, k23, b23_⟩⟩
  have C24 : Cl l.prog w K mg base 1 "_law_is_whole" _ := ⟨⟨_, _, _, ok_iswhole F24_ TI1, g24_, k24, b24_⟩⟩
  have C25 : Cl l.prog w K mg base 2 "_law_is_just" _ := ⟨⟨_, _, _, ok_isjust F25_ TI1 C24 C21, g25_, k25, b25_⟩⟩
  have C26 : Cl l.prog w K mg base 3 "_law_odd_fraction" _ := ⟨⟨_, _, _, ok_odd F26_ C19 C20, g26_, k26, b26_⟩⟩
  have C27 : ClG l.prog w K mg base 6 "_law_asked" _ := ⟨⟨_, _, _, ok_asked F27_ zr NN_ C7 C8 C9 C10 C11 C12 C13, g27_, k27, b27_⟩⟩
  have C28 : Cl l.prog w K mg base 6 "_law_are_right" _ := ⟨⟨_, _, _, ok_right F28_ zr C8 C9 C10 C11 C12 C13 C25 C24, g28_, k28, b28_⟩⟩
  have C29 : ClG l.prog w K mg base 7 "_law_are_refused" _ := ⟨⟨_, _, _, ok_refd F29_ zr TB1 C26 C6 C27 C20 C22, g29_, k29, b29_⟩⟩
  have C30 : Cl l.prog w K mg base 3 "_law_are_names" _ := ⟨⟨_, _, _, ok_names F30_ TB1 C19 C20 C5, g30_, k30, b30_⟩⟩
  exact ok_law F31_ T1 C18 C19 C8 C7 C25 C22 C23 C28 C29 C30
theorem walk {l : PySem.W.OpenLaw} {q : Program} {loose : List Str} {XP : (Str → Option Value) → Heap → Prop} {YP : World → Heap → Prop} {d : DefRec} {K : Params → PySem.W.Frag} (hn : l.most = some 63) (hdf : d.params.defaults = [])
    (hY : ∀ (w : World) (h : Heap), YP w h → (K w.params).In h)
    (F : ∀ (w : World) (mg : Str → Option Value) (fa : Addr) (h : Heap), (K w.params).In h → h.Ns mainGlobals mg → mg d.name = some (.ref fa) →
      ∃ fd : FuncData, (∀ (s : Shared) (u : Value), BindsTo s fd ⟨[u], []⟩ [("script", u)]) ∧ ∀ base : Heap, (K w.params).In base → base.Ns mainGlobals mg → FnG l.prog w (K w.params) mg base CX0 8 fa fd ["script"] (spLaw (K w.params))) :
    PySem.W.WalkO q loose XP YP l.row.toRowW d [] (fun f vs => PySem.call f vs) :=
  L2.walk_G (n := 63) (k := 8) (x := "script") (sp := fun w => spLaw (K w.params)) hn (by decide) hdf ⟨rfl, by decide, by decide⟩ hY F fun _ _ a ns hl hS => ⟨a, ns, rfl, hS, hl, fun _ => rfl⟩
end Q
set_option Elab.async false
set_option linter.all false
set_option maxRecDepth 100000
open PySem PySem.W PyProof.Rows
set_option maxRecDepth 100000 in
set_option maxHeartbeats 0 in
theorem PySem.Challenge.cw_wherebase_k01_whole_fractions_and_names_holds : PySem.Challenge.rw_wherebase_k01_whole_fractions_and_names.Holds := by
  w_on; o_law; k_head; (case hw => w_witness2)
  k_fill
  refine Q.walk (l := PySem.Challenge.rw_wherebase_k01_whole_fractions_and_names) rfl rfl (fun w h Y => PySem.W.kIn_of Y) ?F
  case F =>
    intro w mg fa h KX G hmg
    refine' Q.all_mk KX G hmg ?AE ?XE_ ?GE ?HE ?TE_ ?KE_ ?SE ?IE ?FE ?LE ?DE ?YE ?NEx ?ME ?BE ?gc0 ?a4 ?l4 ?c4d ?k4 ?a5 ?l5 ?c5d ?k5 ?a6 ?l6 ?c6d ?k6 ?a7 ?l7 ?c7d ?k7 ?a8 ?l8 ?c8d ?k8 ?a9 ?l9 ?c9d ?k9 ?a10 ?l10 ?c10d ?k10 ?a11 ?l11 ?c11d ?k11 ?a12 ?l12 ?c12d ?k12 ?a13 ?l13 ?c13d ?k13 ?a14 ?l14 ?c14d ?k14 ?a15 ?l15 ?c15d ?k15 ?a16 ?l16 ?c16d ?k16 ?a18 ?l18 ?c18d ?k18 ?a19 ?l19 ?c19d ?k19 ?a20 ?l20 ?c20d ?k20 ?a21 ?l21 ?c21d ?k21 ?a22 ?l22 ?c22d ?k22 ?a23 ?l23 ?c23d ?k23 ?a24 ?l24 ?c24d ?k24 ?a25 ?l25 ?c25d ?k25 ?a26 ?l26 ?c26d ?k26 ?a27 ?l27 ?c27d ?k27 ?a28 ?l28 ?c28d ?k28 ?a29 ?l29 ?c29d ?k29 ?a30 ?l30 ?c30d ?k30 ?a31 ?l31 ?c31d ?k31 ?z_isinstance ?z_len ?z_sum ?z_int ?z_abs ?z_max ?z_min ?z_range ?z_list ?z_tuple ?z_bool ?z_str ?z_repr ?z_all
    (case AE => k_is)
    (case XE_ => k_is)
    (case GE => k_is)
    (case HE => k_is)
    (case TE_ => k_is)
    (case KE_ => k_is)
    (case SE => k_is)
    (case IE => k_is)
    (case FE => k_is)
    (case LE => k_is)
    (case DE => k_is)
    (case YE => k_is)
    (case NEx => k_is)
    (case ME => k_is)
    (case BE => k_is)
    (case gc0 => k_is)
    (case a4 => k_is)
    (case l4 => k_is)
    (case c4d => k_is)
    (case k4 => k_is)
    (case a5 => k_is)
    (case l5 => k_is)
    (case c5d => k_is)
    (case k5 => k_is)
    (case a6 => k_is)
    (case l6 => k_is)
    (case c6d => k_is)
    (case k6 => k_is)
    (case a7 => k_is)
    (case l7 => k_is)
    (case c7d => k_is)
    (case k7 => k_is)
    (case a8 => k_is)
    (case l8 => k_is)
    (case c8d => k_is)
    (case k8 => k_is)
    (case a9 => k_is)
    (case l9 => k_is)
    (case c9d => k_is)
    (case k9 => k_is)
    (case a10 => k_is)
    (case l10 => k_is)
    (case c10d => k_is)
    (case k10 => k_is)
    (case a11 => k_is)
    (case l11 => k_is)
    (case c11d => k_is)
    (case k11 => k_is)
    (case a12 => k_is)
    (case l12 => k_is)
    (case c12d => k_is)
    (case k12 => k_is)
    (case a13 => k_is)
    (case l13 => k_is)
    (case c13d => k_is)
    (case k13 => k_is)
    (case a14 => k_is)
    (case l14 => k_is)
    (case c14d => k_is)
    (case k14 => k_is)
    (case a15 => k_is)
    (case l15 => k_is)
    (case c15d => k_is)
    (case k15 => k_is)
    (case a16 => k_is)
    (case l16 => k_is)
    (case c16d => k_is)
    (case k16 => k_is)
    (case a18 => k_is)
    (case l18 => k_is)
    (case c18d => k_is)
    (case k18 => k_is)
    (case a19 => k_is)
    (case l19 => k_is)
    (case c19d => k_is)
    (case k19 => k_is)
    (case a20 => k_is)
    (case l20 => k_is)
    (case c20d => k_is)
    (case k20 => k_is)
    (case a21 => k_is)
    (case l21 => k_is)
    (case c21d => k_is)
    (case k21 => k_is)
    (case a22 => k_is)
    (case l22 => k_is)
    (case c22d => k_is)
    (case k22 => k_is)
    (case a23 => k_is)
    (case l23 => k_is)
    (case c23d => k_is)
    (case k23 => k_is)
    (case a24 => k_is)
    (case l24 => k_is)
    (case c24d => k_is)
    (case k24 => k_is)
    (case a25 => k_is)
    (case l25 => k_is)
    (case c25d => k_is)
    (case k25 => k_is)
    (case a26 => k_is)
    (case l26 => k_is)
    (case c26d => k_is)
    (case k26 => k_is)
    (case a27 => k_is)
    (case l27 => k_is)
    (case c27d => k_is)
    (case k27 => k_is)
    (case a28 => k_is)
    (case l28 => k_is)
    (case c28d => k_is)
    (case k28 => k_is)
    (case a29 => k_is)
    (case l29 => k_is)
    (case c29d => k_is)
    (case k29 => k_is)
    (case a30 => k_is)
    (case l30 => k_is)
    (case c30d => k_is)
    (case k30 => k_is)
    (case a31 => k_is)
    (case l31 => k_is)
    (case c31d => k_is)
    (case k31 => k_is)
    (case z_isinstance => k_is)
    (case z_len => k_is)
    (case z_sum => k_is)
    (case z_int => k_is)
    (case z_abs => k_is)
    (case z_max => k_is)
    (case z_min => k_is)
    (case z_range => k_is)
    (case z_list => k_is)
    (case z_tuple => k_is)
    (case z_bool => k_is)
    (case z_str => k_is)
    (case z_repr => k_is)
    (case z_all => k_is)
