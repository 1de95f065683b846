import PyProof.Rows.All
import Wide.All
import OpenK.AllK
import Wide.FinOn
import HandS.ForMost
import HandS.ForExc
import HandS.Wide
import HandS.Evl
import HandS.Gcd
import HandS.Style
import HandS.NoneIn
import HandS.IsInst
import HandS.TryOnly
import HandS.Star
import HandS.Defaults
import HandS.Conv
import HandS.ForSpec
import KE.KMathG
import HandS.Steps
import HandS.More
import HandS.RaiseMore
import HandS.ExcOwn
import HandS.WordsExc
import HandS.TryMany
import HandS.Deep
import HandS.TupSets
import HandS.SortOrd
import HandS.SortRule
import HandS.TupLe
import PyProof.MinMaxWalk
import KE.DataMinMax
import HandS.WideBits
import HandS.SortKw
import KE.GoesMore
import KE.GoesComp
import HandS.Exc
import PyProof.P3In
import PyProof.P3Eq
import PySem.Challenge.RW_wherebase_k03_whole_pieces_and_rounds
set_option Elab.async false
set_option linter.all false
set_option maxRecDepth 100000
set_option maxHeartbeats 2000000
namespace Q
open PySem L2
def top (i : Nat) : Stmt := PySem.Challenge.pw_wherebase_k03_whole_pieces_and_rounds.main.body.getD i (.Pass ⟨0, 0, 0, 0⟩)
abbrev sBag : Stmt := top 32
abbrev sDraw : Stmt := top 33
abbrev sOne : Stmt := top 34
/-! ### powers of any size that fits -/
def CPowW (i j : Int) : Prop := 0 ≤ j ∧ (Builtin.Int.intBits i : Int) * j ≤ 2 ^ 27
theorem op_powW {X : Cx} : OpR X (binaryOp .Pow) (rI CPowW fun i j => .int (i ^ j.toNat)) := opI fun _ _ _ _ _ _ _ hc q => PyProof.Rows.pow_int hc.1 hc.2 q
/-! ### what a draw changes -/
structure Bgd (p : Addr) (H H' : Hp) : Prop where
  bag : ∃ a b c : Int, H' p = some (.lst [.int a, .int b, .int c])
  keep : ∀ l o, l ≠ p → H l = some o → H' l = some o
theorem Bgd.rfl' {p : Addr} {H : Hp} {a b c : Int} (h : H p = some (.lst [.int a, .int b, .int c])) : Bgd p H H := ⟨⟨a, b, c, h⟩, fun _ _ _ e => e⟩
theorem Bgd.trans {p : Addr} {H H1 H2 : Hp} (x : Bgd p H H1) (y : Bgd p H1 H2) : Bgd p H H2 := ⟨y.bag, fun l o n e => y.keep l o n (x.keep l o n e)⟩
theorem Bgd.free {p l : Addr} {H H1 : Hp} (x : Bgd p H H1) (h : H1 l = none) : H l = none := by
  obtain ⟨a, b, c, e⟩ := x.bag
  by_cases z : l = p
  · rw [z, e] at h
    cases h
  · cases q : H l with
    | none => rfl
    | some o =>
      rw [x.keep l o z q] at h
      cases h
theorem Bgd.new {p l : Addr} {H H1 : Hp} {o : HO} (x : Bgd p H H1) (h : H1 l = none) : Bgd p H (upd H1 l o) := by
  obtain ⟨a, b, c, e⟩ := x.bag
  refine ⟨⟨a, b, c, ?_⟩, fun m u n q => ?_⟩
  · rw [upd_ne (ne_of_none e h)]
    exact e
  · have q1 := x.keep m u n q
    rw [upd_ne (ne_of_none q1 h)]
    exact q1
theorem Bgd.put {p : Addr} {H H1 : Hp} (x : Bgd p H H1) (a b c : Int) : Bgd p H (upd H1 p (.lst [.int a, .int b, .int c])) := by
  refine ⟨⟨a, b, c, upd_same⟩, fun m u n q => ?_⟩
  rw [upd_ne n]
  exact x.keep m u n q
theorem Bgd.same {p : Addr} {H0 H H1 : Hp} (s : Same H0 H) (n : H0 p = none) (x : Bgd p H H1) : Same H0 H1 := fun l o e => x.keep l o (ne_of_none e n) (s l o e)
theorem atI_in {xs : List V} {r : Int} (h0 : 0 ≤ r) (h : r < xs.length) : ∃ v, atI xs r = some v ∧ xs[r.toNat]? = some v := by
  obtain ⟨n, rfl⟩ := Int.eq_ofNat_of_zero_le h0
  have hn : n < xs.length := by omega
  refine ⟨xs[n], ?_, ?_⟩
  · rw [atI_nat]
    simp [hn]
  · simp [hn]
theorem cut_ints (ns : List Int) (lo hi : Option Int) : ∃ ms : List Int, cutV (ns.map V.int) lo hi = ms.map V.int := by
  have cut : ∀ i j : Nat, ((ns.map V.int).drop i).take j = ((ns.drop i).take j).map V.int := fun i j => by rw [← List.map_drop, ← List.map_take]
  exact ⟨_, cut _ _⟩
theorem log_len {n : Nat} (h : n ≤ 1000) : ((n : Nat) : Int).natAbs.log2 < 9000 := by
  rw [Int.natAbs_natCast]
  exact Nat.lt_of_le_of_lt (Nat.le_trans (Nat.log2_le_self n) h) (by decide)
/-! ### the promises -/
def spBag (K : PySem.W.Frag) : Sp := fun vs H Q _ => ∃ (a : Addr) (ns : List Int) (i : Nat), vs = [.ref a, .int i] ∧ SqL K H a (ns.map V.int) ∧ i < 1000 ∧
  ∀ (p : Addr) (H' : Hp), H p = none → Same H H' → (∃ a b c : Int, H' p = some (.lst [.int a, .int b, .int c])) → Q (.ref p) H'
def spDraw : Sp := fun vs H Q _ => ∃ (p : Addr) (a b c n : Int), vs = [.ref p, .int n] ∧ H p = some (.lst [.int a, .int b, .int c]) ∧ 0 < n ∧ n.natAbs.log2 < 9000 ∧
  ∀ (r : Int) (H' : Hp), 0 ≤ r → r < n → Bgd p H H' → Q (.int r) H'
def spOne : Sp := fun vs H Q _ => ∃ (p q : Addr) (a b c : Int) (xs : List V), vs = [.ref p, .ref q] ∧ H p = some (.lst [.int a, .int b, .int c]) ∧ q ≠ p ∧ H q = some (.lst xs) ∧ 0 < xs.length ∧ xs.length ≤ 1000 ∧
  ∀ (i : Nat) (v : V) (H' : Hp), xs[i]? = some v → Bgd p H H' → Q v H'
def spShuf : Sp := fun vs H Q _ => ∃ (p q : Addr) (a b c : Int) (xs : List V), vs = [.ref p, .ref q] ∧ H p = some (.lst [.int a, .int b, .int c]) ∧ q ≠ p ∧ H q = some (.lst xs) ∧ xs.length ≤ 1000 ∧
  ∀ (l : Addr) (ys : List V) (H' : Hp), ys.Perm xs → H' l = some (.lst ys) → H l = none → Bgd p H H' → Q (.ref l) H'
structure TB (mg : Str → Option Value) : Prop where
  len : mg "len" = none
  sum : mg "sum" = none
  int : mg "int" = none
  abs : mg "abs" = none
  max : mg "max" = none
  range : mg "range" = none
  list : mg "list" = none
section
variable {P : Program} {w : World} {K : PySem.W.Frag} {mg : Str → Option Value} {base : Heap}
theorem scBag : FnScope ["script", "at", "cell", "great", "mixed"] ["script", "at"] (defScope sBag) := ⟨rfl, rfl, rfl, by decide +kernel, rfl, by decide +kernel, by decide +kernel⟩
theorem bigM : ((((10 : Int) ^ (Int.toNat 47)) ^ (Int.toNat 13))) ≠ 0 := by decide +kernel
theorem ok_bag {f : Addr} {fd : FuncData} (F : Fun K "_law_bag" "_law_bag" sBag f fd) (T : TB mg) : FnOk P w K mg base CX0 1 f fd ["script", "at"] (spBag K) := by
  refine F.ok scBag (fun vs H Q E h => ?_) (fun cdv A outer s H vs Q E hr h => ?_)
  · obtain ⟨a, ns, i, rfl, _⟩ := h
    rfl
  · obtain ⟨a, ns, i, rfl, hS, hi, k⟩ := h
    refine ⟨_, Evl.pss_cut (ps_set (i := 2) scBag.nd rfl (Or.inl rfl) (pe_ifExp (pt_cmpR op_lt (pv 1) (pe_callB call_len_seq (by rfl) T.len PySem.boot_len (pa_cons (pv 0) pa_nil)) (nomark _))
        (pe_ix ix_list (pv 0) (pv 1) (fun _ _ => rfl))
        (pe_op op_add (pe_op op_add (pe_callB (cr_sum rfl) (by rfl) T.sum (by decide +kernel) (pa_cons (pe_slice sl_list (pv 0) po_none (po_some pe_int)) pa_nil)) (pe_op op_mul pe_int (pv 1))) pe_int)))
      (pss_cons (ps_set (i := 3) scBag.nd rfl (Or.inl rfl) (pe_op op_modN (pe_callTy call_int1 (by rfl) T.int (by decide +kernel) (pa_cons (pe_callB call_abs (by rfl) T.abs (by decide +kernel) (pa_cons (pv 2) pa_nil)) pa_nil)) (pe_op op_powW (pe_op op_powW pe_int pe_int) pe_int)))
      (pss_cons (ps_set (i := 4) scBag.nd rfl (Or.inl rfl) (pe_op op_add (pe_op op_add (pe_op op_add (pe_op op_mul (pe_op op_mod (pe_callTy call_int1 (by rfl) T.int (by decide +kernel) (pa_cons (pv 3) pa_nil)) pe_int) pe_int) (pe_op op_mul pe_int (pv 1))) (pe_op op_mul pe_int (pe_callTy call_int1 (by rfl) T.int (by decide +kernel) (pa_cons (pe_cmpR op_lt (pv 2) pe_int (nomark _)) pa_nil)))) pe_int))
      (pss_one (ps_ret (pe_lst (pa_cons (pe_callB (call_max2 rfl) (by rfl) T.max (by decide +kernel) (pa_cons pe_int (pa_cons (pe_op op_sub (pv 3) (pe_op op_powW pe_int pe_int)) pa_nil))) (pa_cons (pe_op op_mod (pe_callTy call_int1 (by rfl) T.int (by decide +kernel) (pa_cons (pv 4) pa_nil)) pe_int) (pa_cons pe_int pa_nil)))))))), ?_⟩
    refine ⟨fun σ' H' => Same H H' ∧ ∃ c : Int, σ' = [some (.ref a), some (.int i), some (.int c), none, none], ?_, ?_⟩
    · refine ⟨_, rfl, _, rfl, a, _, rfl, .inl hS, _, _, rfl, rfl, _, rfl, ?_⟩
      refine ite2 (fun hlt => ?_) (fun _ => ?_)
      · have hlt := of_decide_eq_true hlt
        rw [List.length_map] at hlt
        have hl : i < ns.length := by omega
        refine ⟨_, rfl, _, rfl, a, _, _, V.int ns[i], rfl, rfl, hS, ?_, ?_⟩
        · rw [atI_nat]
          simp [hl]
        · exact ⟨Same.refl H, _, rfl⟩
      · refine ⟨_, rfl, _, rfl, a, ns.map V.int, rfl, hS, fun l hl => ?_⟩
        obtain ⟨ms, em⟩ := cut_ints ns none (some 1)
        rw [em]
        refine ⟨l, ms, rfl, SqL.of upd_same, _, rfl, _, _, rfl, rfl, .inl ?_, _, _, rfl, rfl, _, _, rfl, rfl, ?_⟩
        · show -(2 ^ 64) < (103 : Int) ∧ (103 : Int) < 2 ^ 64
          decide
        · exact ⟨fun b o e => by rw [upd_ne (ne_of_none e hl)]; exact e, _, rfl⟩
    · rintro σ' H1 ⟨s1, cell, rfl⟩
      refine ⟨_, rfl, cell, rfl, .inl ⟨_, rfl, ?_⟩⟩
      refine ⟨_, _, rfl, rfl, ⟨by decide, by decide +kernel⟩, _, _, rfl, rfl, ⟨by decide, by decide +kernel⟩, _, _, rfl, rfl, bigM, ?_⟩
      refine ⟨_, rfl, .inl ⟨_, rfl, _, _, rfl, rfl, (by show (0 : Int) < 2305843009213693723; decide), _, _, rfl, rfl, .inr ?_, _, rfl, _, _, rfl, rfl, .inl ?_, _, _, rfl, rfl, ?_⟩⟩
      · show -(2 ^ 64) < (1000231 : Int) ∧ (1000231 : Int) < 2 ^ 64
        decide
      · show -(2 ^ 64) < (9011 : Int) ∧ (9011 : Int) < 2 ^ 64
        decide
      · refine ⟨_, rfl, _, _, rfl, rfl, .inr ⟨_, rfl, _, _, rfl, rfl, .inl ?_, _, _, rfl, rfl, _, _, rfl, rfl, ?_⟩⟩
        · show -(2 ^ 64) < (41 : Int) ∧ (41 : Int) < 2 ^ 64
          decide
        · refine ⟨_, rfl, _, _, rfl, rfl, ⟨by decide, by decide +kernel⟩, _, _, rfl, rfl, _, _, rfl, ?_⟩
          refine ⟨_, rfl, .inl ⟨_, rfl, _, _, rfl, rfl, ?_, (by show 3 ≤ sizeLine; decide), fun p hp => ?_⟩⟩
          · show (0 : Int) < 2305843009213693951
            decide
          · exact k p _ (s1.free hp) (fun b o e => by rw [upd_ne (ne_of_none (s1 b o e) hp)]; exact s1 b o e) ⟨_, _, _, upd_same⟩
theorem scDraw : FnScope ["bag", "total", "found", "one", "two"] ["bag", "total"] (defScope sDraw) := ⟨rfl, rfl, rfl, by decide +kernel, rfl, by decide +kernel, by decide +kernel⟩
theorem ok_draw {f : Addr} {fd : FuncData} (F : Fun K "_law_draw" "_law_draw" sDraw f fd) (T : TB mg) : FnOk P w K mg base CX0 1 f fd ["bag", "total"] spDraw := by
  refine F.ok scDraw (fun vs H Q E h => ?_) (fun cdv A outer s H vs Q E hr h => ?_)
  · obtain ⟨p, a, b, c, n, rfl, _⟩ := h
    rfl
  · obtain ⟨p, a, b, c, n, rfl, hp, hn, hw, k⟩ := h
    have B0 : Bgd p H H := Bgd.rfl' hp
    refine ⟨_, pss_cons (ps_if (pt_cmpR op_gt (pe_ix ix_list (pv 0) pe_int (fun _ _ => rfl)) pe_int (nomark _))
        (pss_cons (ps_set (i := 2) scDraw.nd rfl (Or.inl rfl) (pe_op op_mod (pe_callTy call_int1 (by rfl) T.int (by decide +kernel) (pa_cons (pe_ix ix_list (pv 0) pe_int (fun _ _ => rfl)) pa_nil)) (pv 1)))
        (pss_cons (ps_asg (pe_op op_fdivW (pe_ix ix_list (pv 0) pe_int (fun _ _ => rfl)) (pv 1)) (pg_sub (pv 0) pe_int set_list))
        (pss_one (ps_ret (pv 2))))) pss_nil)
      (pss_cons (ps_asg (pe_op op_add (pe_ix ix_list (pv 0) pe_int (fun _ _ => rfl)) pe_int) (pg_sub (pv 0) pe_int set_list))
      (pss_cons (ps_set (i := 3) scDraw.nd rfl (Or.inl rfl) (pe_op op_mod (pe_callTy call_int1 (by rfl) T.int (by decide +kernel) (pa_cons (pe_op op_add (pe_ix ix_list (pv 0) pe_int (fun _ _ => rfl)) (pe_op op_mul pe_int (pe_ix ix_list (pv 0) pe_int (fun _ _ => rfl)))) pa_nil)) pe_int))
      (pss_cons (ps_set (i := 4) scDraw.nd rfl (Or.inl rfl) (pe_op op_add (pe_op op_mul (pe_op op_mod (pe_callTy call_int1 (by rfl) T.int (by decide +kernel) (pa_cons (pe_op op_mul (pv 3) (pv 3)) pa_nil)) pe_int) (pv 3)) (pe_op op_mul pe_int (pe_ix ix_list (pv 0) pe_int (fun _ _ => rfl)))))
      (pss_one (ps_ret (pe_op op_mod (pe_callTy call_int1 (by rfl) T.int (by decide +kernel) (pa_cons (pe_op op_fdiv (pe_op op_mod (pe_callTy call_int1 (by rfl) T.int (by decide +kernel) (pa_cons (pv 4) pa_nil)) pe_int) pe_int) pa_nil)) (pv 1))))))), ?_⟩
    refine ⟨_, rfl, p, _, _, V.int a, rfl, rfl, SqL.of hp, rfl, _, _, rfl, rfl, _, rfl, ?_⟩
    refine ite2 (fun _ => ?_) (fun _ => ?_)
    · refine ⟨_, rfl, p, _, _, V.int a, rfl, rfl, SqL.of hp, rfl, .inl ⟨_, rfl, _, rfl, _, _, rfl, rfl, hn, ?_⟩⟩
      refine ⟨_, rfl, p, _, _, V.int a, rfl, rfl, SqL.of hp, rfl, _, rfl, _, _, rfl, rfl, ⟨hn, hw⟩, ?_⟩
      refine ⟨_, rfl, p, _, _, 0, rfl, rfl, hp, rfl, _, rfl, ?_⟩
      exact k _ _ (Int.emod_nonneg _ (by omega)) (Int.emod_lt_of_pos _ hn) (B0.put _ _ _)
    · refine ⟨_, rfl, p, _, _, V.int c, rfl, rfl, SqL.of hp, rfl, _, _, rfl, rfl, ?_⟩
      refine ⟨_, rfl, p, _, _, 2, rfl, rfl, hp, rfl, ?_⟩
      refine ⟨_, rfl, p, _, _, V.int b, rfl, rfl, SqL.of upd_same, rfl, _, rfl, p, _, _, V.int (c + 1), rfl, rfl, SqL.of upd_same, rfl, _, _, rfl, rfl, .inl ?_, _, _, rfl, rfl, .inl ⟨_, rfl, _, _, rfl, rfl, ?_, ?_⟩⟩
      · show -(2 ^ 64) < (1048609 : Int) ∧ (1048609 : Int) < 2 ^ 64
        decide
      · show (0 : Int) < 2305843009213693951
        decide
      have o1 : 0 ≤ (b + 1048609 * (c + 1)) % 2305843009213693951 := Int.emod_nonneg _ (by decide)
      have o2 : (b + 1048609 * (c + 1)) % 2305843009213693951 < 2305843009213693951 := Int.emod_lt_of_pos _ (by decide)
      generalize (b + 1048609 * (c + 1)) % 2305843009213693951 = one at o1 o2 ⊢
      refine ⟨_, rfl, _, rfl, _, _, rfl, rfl, .inl ⟨by omega, by omega⟩, .inl ⟨_, rfl, _, _, rfl, rfl, ?_, ?_⟩⟩
      · show (0 : Int) < 2305843009213693723
        decide
      have t1 : 0 ≤ one * one % 2305843009213693723 := Int.emod_nonneg _ (by decide)
      have t2 : one * one % 2305843009213693723 < 2305843009213693723 := Int.emod_lt_of_pos _ (by decide)
      generalize one * one % 2305843009213693723 = sq at t1 t2 ⊢
      refine ⟨_, rfl, _, _, rfl, rfl, .inl ⟨by omega, by omega⟩, _, rfl, p, _, _, V.int (c + 1), rfl, rfl, SqL.of upd_same, rfl, _, _, rfl, rfl, .inl ?_, _, _, rfl, rfl, ?_⟩
      · show -(2 ^ 64) < (8117 : Int) ∧ (8117 : Int) < 2 ^ 64
        decide
      generalize sq * one + 8117 * (c + 1) = two
      refine ⟨_, rfl, .inl ⟨_, rfl, _, _, rfl, rfl, ?_, _, _, rfl, rfl, ?_, .inl ⟨_, rfl, _, rfl, _, _, rfl, rfl, hn, ?_⟩⟩⟩
      · show (0 : Int) < 2305843009213693921
        decide
      · exact ⟨by decide, by decide⟩
      exact k _ _ (Int.emod_nonneg _ (by omega)) (Int.emod_lt_of_pos _ hn) (B0.put _ _ _)
theorem scOne : FnScope ["bag", "items"] ["bag", "items"] (defScope sOne) := ⟨rfl, rfl, rfl, by decide +kernel, rfl, by decide +kernel, by decide +kernel⟩
theorem ok_one {f fD : Addr} {fd fdD : FuncData} (F : Fun K "_law_one_of" "_law_one_of" sOne f fd) (T : TB mg) (FD : FnOk P w K mg base CX0 1 fD fdD ["bag", "total"] spDraw) (bD : Binds K fdD ["bag", "total"] []) (gD : mg "_law_draw" = some (.ref fD)) (kD : PySem.W.keepIn K (.ref fD) = true) :
    FnOk P w K mg base CX0 2 f fd ["bag", "items"] spOne := by
  refine F.ok scOne (fun vs H Q E h => ?_) (fun cdv A outer s H vs Q E hr h => ?_)
  · obtain ⟨p, q, a, b, c, xs, rfl, _⟩ := h
    rfl
  · obtain ⟨p, q, a, b, c, xs, rfl, hp, hne, hq, h0, h1, k⟩ := h
    refine ⟨_, pss_one (ps_ret (pe_ix ix_list (pv 1) (pe_call FD hr (by rfl) gD kD bD .nil pass0 (pa_cons (pv 0) (pa_cons (pe_callB call_len_seq (by rfl) T.len PySem.boot_len (pa_cons (pv 1) pa_nil)) pa_nil))) (fun _ _ => rfl))), ?_⟩
    refine ⟨_, rfl, _, rfl, _, rfl, q, _, rfl, .inl (SqL.of hq), p, a, b, c, _, rfl, hp, by omega, log_len h1, ?_⟩
    · intro r H' r0 r1 B
      obtain ⟨v, e1, e2⟩ := atI_in r0 r1
      exact ⟨q, xs, _, v, rfl, rfl, SqL.of (B.keep _ _ hne hq), e1, k r.toNat _ _ e2 B⟩
end
end Q
set_option Elab.async false
set_option linter.all false
set_option maxRecDepth 100000
set_option maxHeartbeats 2000000
namespace PM
def gc (x y w : Int) : Int := ((Nat.gcd (Nat.gcd x.natAbs y.natAbs) w.natAbs : Nat) : Int)
end PM
namespace Q
open PySem L2 PySem.Spec PyProof.Rows PySem.Calls
theorem args_gcd3 (a b c : Value) : argsOk "math.gcd" ⟨[a, b, c], []⟩ := by unfold argsOk; kernel_rfl
theorem run_gcd3 (a : Int) (t : Tok) (b : Int) (u : Tok) (c : Int) (v : Tok) :
    Gives (Builtin.«math.gcd» ⟨[.int a t, .int b u, .int c v], []⟩) (.int ((((Nat.gcd 0 a.natAbs).gcd b.natAbs).gcd c.natAbs : Nat) : Int)) :=
  .of_wp fun M A E s Q h => by obtain ⟨hp, g, d, tk, os⟩ := s; wp_walk; exact ⟨_, rfl, h⟩
section
variable {X : Cx}
def rGcd3 : List V → Hp → VK → Prop := fun vs H Q => ∃ a b c : Int, vs = [.int a, .int b, .int c] ∧ Q (.int (PM.gc a b c)) H
theorem cr_gcd3 : CallR X (.builtin "math.gcd") rGcd3 := by
  intro pins s σ H vs us Q I r h
  obtain ⟨a, b, c, rfl, q⟩ := h
  cases r with
  | cons r1 r =>
    cases r with
    | cons r2 r =>
      cases r with
      | cons r3 r =>
        cases r
        obtain ⟨t1, rfl⟩ := r1
        obtain ⟨t2, rfl⟩ := r2
        obtain ⟨t3, rfl⟩ := r3
        have g := run_gcd3 a t1 b t2 c t3
        rw [Nat.gcd_zero_left] at g
        exact call_function_meets PySem.W.MGF.kind_gcd PySem.W.MGF.plain_gcd PySem.W.MGF.entry_gcd (args_gcd3 _ _ _) g.meets ⟨.int _, H, I.tok _, ⟨_, rfl⟩, q⟩
/-- // by any divisor but 0, below 2 ^ 9000 -/
def CDv (_ j : Int) : Prop := j ≠ 0 ∧ j.natAbs.log2 < 9000
theorem op_dv : OpR X (binaryOp .FloorDiv) (rI CDv fun i j => .int (i.fdiv j)) := opI fun i j _ _ _ _ _ hc q => floordiv_int hc.1 q (.inl (PyProof.noPylong_of_log2 hc.2))
end
/-! ### how wide numbers are -/
structure Bd (k : Nat) (i : Int) : Prop where
  lt : i.natAbs < 2 ^ k
theorem Bd.le {a b : Nat} {i : Int} (x : Bd a i) (h : a ≤ b) : Bd b i := ⟨Nat.lt_of_lt_of_le x.lt (Nat.pow_le_pow_right (by decide) h)⟩
theorem Bd.neg {a : Nat} {i : Int} (x : Bd a i) : Bd a (-i) := ⟨by rw [Int.natAbs_neg]; exact x.lt⟩
theorem Bd.mul {a b : Nat} {i j : Int} (x : Bd a i) (y : Bd b j) : Bd (a + b) (i * j) := ⟨wide_lt x.lt y.lt⟩
theorem Bd.add {a : Nat} {i j : Int} (x : Bd a i) (y : Bd a j) : Bd (a + 1) (i + j) := ⟨by
  have h1 := x.lt
  have h2 := y.lt
  have h3 := Int.natAbs_add_le i j
  rw [Nat.pow_succ]
  omega⟩
theorem Bd.sub {a : Nat} {i j : Int} (x : Bd a i) (y : Bd a j) : Bd (a + 1) (i - j) := by
  rw [Int.sub_eq_add_neg]
  exact x.add y.neg
theorem Bd.pos {a : Nat} {i : Int} (x : Bd a i) : Bd (a + 1) i := x.le (Nat.le_succ a)
theorem Bd.mw {a b : Nat} {i j : Int} (x : Bd a i) (y : Bd b j) (h : a + b + 2 ≤ 1000000) : CMulW i j := wide_mul x.pos.lt y.pos.lt (Nat.succ_pos _) (Nat.succ_pos _) (by omega)
theorem Bd.log {a : Nat} {i : Int} (x : Bd a i) (h : a + 1 ≤ 9000) : i.natAbs.log2 < 9000 := Nat.lt_of_lt_of_le (PySem.Flt.log2_lt_of (Nat.succ_pos _) x.pos.lt) h
theorem Bd.of_le {a : Nat} {i j : Int} (x : Bd a j) (h : i.natAbs ≤ j.natAbs) : Bd a i := ⟨Nat.lt_of_le_of_lt h x.lt⟩
theorem gc_le {x y w : Int} (h : w ≠ 0) : (PM.gc x y w).natAbs ≤ w.natAbs := by
  unfold PM.gc
  rw [Int.natAbs_natCast]
  exact Nat.le_of_dvd (Int.natAbs_pos.mpr h) (Nat.gcd_dvd_right _ _)
end Q
set_option Elab.async false
set_option linter.all false
set_option maxRecDepth 100000
set_option maxHeartbeats 2000000
namespace PM
structure P3 where
  x : Int
  y : Int
  w : Int
def low (x y w : Int) : P3 := ⟨x / gc x y w, y / gc x y w, w / gc x y w⟩
theorem gc_dvd (x y w : Int) : gc x y w ∣ x ∧ gc x y w ∣ y ∧ gc x y w ∣ w := by
  unfold gc
  refine ⟨?_, ?_, ?_⟩
  · exact Int.ofNat_dvd_left.mpr (Nat.dvd_trans (Nat.gcd_dvd_left _ _) (Nat.gcd_dvd_left _ _))
  · exact Int.ofNat_dvd_left.mpr (Nat.dvd_trans (Nat.gcd_dvd_left _ _) (Nat.gcd_dvd_right _ _))
  · exact Int.ofNat_dvd_left.mpr (Nat.gcd_dvd_right _ _)
theorem gc_pos {x y w : Int} (h : w ≠ 0) : 0 < gc x y w := by
  unfold gc
  have : 0 < Nat.gcd (Nat.gcd x.natAbs y.natAbs) w.natAbs := Nat.gcd_pos_of_pos_right _ (Int.natAbs_pos.mpr h)
  omega
theorem gc_neg (x y w : Int) : gc (-x) (-y) (-w) = gc x y w := by
  unfold gc
  rw [Int.natAbs_neg, Int.natAbs_neg, Int.natAbs_neg]
def lowS (x y w : Int) : P3 := if w < 0 then low (-x) (-y) (-w) else low x y w
theorem fd_low {x y w : Int} (h : ¬ w < 0) : lowS x y w = ⟨x.fdiv (gc x y w), y.fdiv (gc x y w), w.fdiv (gc x y w)⟩ := by
  obtain ⟨d1, d2, d3⟩ := gc_dvd x y w
  unfold lowS
  rw [if_neg h, Int.fdiv_eq_ediv_of_dvd d1, Int.fdiv_eq_ediv_of_dvd d2, Int.fdiv_eq_ediv_of_dvd d3]
  rfl
theorem fd_lowN {x y w : Int} (h : w < 0) : lowS x y w = ⟨x.fdiv (-gc x y w), y.fdiv (-gc x y w), w.fdiv (-gc x y w)⟩ := by
  obtain ⟨d1, d2, d3⟩ := gc_dvd x y w
  have e : ∀ z, gc x y w ∣ z → z.fdiv (-gc x y w) = (-z) / gc x y w := fun z d => by
    rw [Int.fdiv_eq_ediv_of_dvd (Int.neg_dvd.mpr d), Int.ediv_neg, Int.neg_ediv_of_dvd d]
  unfold lowS
  rw [if_pos h, e x d1, e y d2, e w d3]
  unfold low
  rw [gc_neg]
end PM
namespace Q
open PySem L2 PySem.Spec PyProof.Rows PySem.Calls
abbrev sLow : Stmt := top 7
abbrev sCrd : Stmt := top 8
abbrev sVal : Stmt := top 10
abbrev sLine : Stmt := top 9
abbrev sCross : Stmt := top 11
abbrev sSign : Stmt := top 12
abbrev sTurn : Stmt := top 13
abbrev sWay : Stmt := top 14
abbrev sLies : Stmt := top 15
def _root_.PM.P3.vs (p : PM.P3) : List V := [.int p.x, .int p.y, .int p.w]
theorem no_dec {p : Prop} [Decidable p] (h : ¬ decide p = true) : ¬ p := fun hp => h (decide_eq_true hp)
theorem same_new {H : Hp} {p : Addr} {o : HO} (hp : H p = none) : Same H (upd H p o) := fun b u e => by rw [upd_ne (ne_of_none e hp)]; exact e
/-- a def that may be called by its name -/
structure Cl (P : Program) (w : World) (K : PySem.W.Frag) (mg : Str → Option Value) (base : Heap) (k : Nat) (x : Str) (sp : Sp) : Prop where
  ex : ∃ (f : Addr) (fd : FuncData) (ps : List Str), FnOk P w K mg base CX0 k f fd ps sp ∧ mg x = some (.ref f) ∧ PySem.W.keepIn K (.ref f) = true ∧ Binds K fd ps []
section
variable {X : Cx} {k j : Nat} {x : Str} {sp : Sp} {p pos : Pos} {e : Expr} {es : List Expr} {t : TA}
theorem pe_cl (c : Cl X.prog X.w X.K X.mg X.base k x sp) (hr : Room j X.A) (hk : k ≤ j) (hg : Gl X x) (ha : PA X (e :: es) t)
    (hdb : (x == ("__debug__" : Str)) = false := by decide) (he : starEach (e :: es) X.env = (false, eval e X.env) :: starEach es X.env := by rfl) (hpl : (backTo pos (starEach es X.env)).any (·.1) = false := by rfl) :
    PE X (.Call (.Name x p) (e :: es) [] pos) (tCall sp [] E0 t) := by
  obtain ⟨f, fd, ps, F, hm, kp, b⟩ := c.ex
  exact pe_call F (hr.mono hk) hg hm kp b .nil pass0 ha hdb he hpl
end
structure TM (mg : Str → Option Value) : Prop where
  gcd : mg "gcd" = some (.builtin "math.gcd")
/-! ### numbers of bounded width -/
structure VI (k : Nat) (te : TE) (σ : L2.St) (H : Hp) (n : Int) : Prop where
  v : Val te σ H (.int n)
  b : Bd k n
section
variable {K : PySem.W.Frag} {σ : L2.St} {H : Hp} {ta tb : TE} {a b : Nat} {m n : Int}
theorem VI.mul (x : VI a ta σ H m) (y : VI b tb σ H n) (h : a + b + 2 ≤ 1000000 := by decide) : VI (a + b) (tOp (rI CMulW fun i j => .int (i * j)) ta tb) σ H (m * n) :=
  ⟨val_op x.v y.v fun _ q => ⟨_, _, rfl, rfl, x.b.mw y.b h, q⟩, x.b.mul y.b⟩
theorem VI.sub (x : VI a ta σ H m) (y : VI a tb σ H n) : VI (a + 1) (tOp (rI0 fun i j => .int (i - j)) ta tb) σ H (m - n) :=
  ⟨val_op x.v y.v fun _ q => ⟨_, _, rfl, rfl, q⟩, x.b.sub y.b⟩
theorem VI.add (x : VI a ta σ H m) (y : VI a tb σ H n) : VI (a + 1) (tOp (rI0 fun i j => .int (i + j)) ta tb) σ H (m + n) :=
  ⟨val_op x.v y.v fun _ q => ⟨_, _, rfl, rfl, q⟩, x.b.add y.b⟩
theorem VI.le (x : VI a ta σ H m) (h : a ≤ b) : VI b ta σ H m := ⟨x.v, x.b.le h⟩
theorem vi_var {i : Nat} (h : σ[i]? = some (some (.int n))) (hb : Bd a n) : VI a (tVar i) σ H n := ⟨val_var h, hb⟩
theorem vi_ix {i : Nat} {p : Addr} {xs : List V} {j : Int} (h : σ[i]? = some (some (.ref p))) (hq : SqT K H p xs) (he : atI xs j = some (.int n)) (hb : Bd a n) : VI a (tOp (rIxT K) (tVar i) (tC (.int j))) σ H n :=
  ⟨val_op (val_var h) val_c fun _ q => ⟨_, _, _, _, rfl, rfl, hq, he, q⟩, hb⟩
end
/-- three numbers that are not too wide -/
structure B3 (k : Nat) (p : PM.P3) : Prop where
  x : Bd k p.x
  y : Bd k p.y
  w : Bd k p.w
section
variable {K : PySem.W.Frag} {σ : L2.St} {H : Hp} {k i : Nat} {a : Addr} {p : PM.P3}
theorem vx (h : σ[i]? = some (some (.ref a)) := by rfl) (hH : H a = some (.tup p.vs)) (b : B3 k p) : VI k (tOp (rIxT K) (tVar i) (tC (.int 0))) σ H p.x := vi_ix h (SqT.of hH) rfl b.x
theorem vy (h : σ[i]? = some (some (.ref a)) := by rfl) (hH : H a = some (.tup p.vs)) (b : B3 k p) : VI k (tOp (rIxT K) (tVar i) (tC (.int 1))) σ H p.y := vi_ix h (SqT.of hH) rfl b.y
theorem vw (h : σ[i]? = some (some (.ref a)) := by rfl) (hH : H a = some (.tup p.vs)) (b : B3 k p) : VI k (tOp (rIxT K) (tVar i) (tC (.int 2))) σ H p.w := vi_ix h (SqT.of hH) rfl b.w
end
/-! ### the promises -/
def spLow : Sp := fun vs H Q _ => ∃ x y w : Int, vs = [.int x, .int y, .int w] ∧ w ≠ 0 ∧ Bd 6000 w ∧ ∀ p H', H p = none → Same H H' → H' p = some (.tup (PM.lowS x y w).vs) → Q (.ref p) H'
def spSign : Sp := fun vs H Q _ => ∃ n : Int, vs = [.int n] ∧ Q (.int (if n > 0 then 1 else if n < 0 then -1 else 0)) H
section
variable {P : Program} {w : World} {K : PySem.W.Frag} {mg : Str → Option Value} {base : Heap}
theorem scLow : FnScope ["x", "y", "w", "shared"] ["x", "y", "w"] (defScope sLow) := ⟨rfl, rfl, rfl, by decide +kernel, rfl, by decide +kernel, by decide +kernel⟩
theorem ok_low {f : Addr} {fd : FuncData} (F : Fun K "lowest_point" "lowest_point" sLow f fd) (T : TM mg) : FnOk P w K mg base CX0 1 f fd ["x", "y", "w"] spLow := by
  refine F.ok scLow (fun vs H Q E h => ?_) (fun cdv A outer s H vs Q E hr h => ?_)
  · obtain ⟨x, y, w, rfl, _⟩ := h
    rfl
  · obtain ⟨x, y, w, rfl, hw, bw, k⟩ := h
    refine ⟨_, (pss_cons (ps_set (i := 3) scLow.nd rfl (Or.inl rfl) (pe_callBfun cr_gcd3 (by rfl) T.gcd (pa_cons (pv 0) (pa_cons (pv 1) (pa_cons (pv 2) pa_nil)))))
      (pss_cons (ps_if (pt_cmpR op_lt (pv 2) pe_int (nomark _)) (pss_one (ps_set (i := 3) scLow.nd rfl (Or.inl rfl) (pe_un un_neg (pv 3)))) pss_nil)
      (pss_one (ps_ret (pe_tup (pa_cons (pe_op op_dv (pv 0) (pv 3)) (pa_cons (pe_op op_dv (pv 1) (pv 3)) (pa_cons (pe_op op_dv (pv 2) (pv 3)) pa_nil)))))))), ?_⟩
    refine ⟨_, rfl, _, rfl, _, rfl, _, _, _, rfl, ?_⟩
    have g0 : PM.gc x y w ≠ 0 := by
      have := PM.gc_pos (x := x) (y := y) hw
      omega
    have gl : (PM.gc x y w).natAbs.log2 < 9000 := (bw.of_le (gc_le hw)).log (by decide)
    refine ⟨_, rfl, _, _, rfl, rfl, _, rfl, ?_⟩
    refine ite2 (fun c => ?_) (fun c => ?_)
    · have c := of_decide_eq_true c
      have g1 : (-PM.gc x y w) ≠ 0 := by omega
      have gl1 : (-PM.gc x y w).natAbs.log2 < 9000 := by rw [Int.natAbs_neg]; exact gl
      refine ⟨_, rfl, _, rfl, ?_⟩
      refine ⟨_, rfl, _, rfl, _, _, rfl, rfl, ⟨g1, gl1⟩, _, rfl, _, rfl, _, _, rfl, rfl, ⟨g1, gl1⟩, _, rfl, _, rfl, _, _, rfl, rfl, ⟨g1, gl1⟩, (by show 3 ≤ sizeLine; decide), fun p hp => ?_⟩
      refine k p _ hp (same_new hp) ?_
      rw [upd_same, PM.fd_lowN c]
      rfl
    · have c := no_dec c
      refine ⟨_, rfl, _, rfl, _, _, rfl, rfl, ⟨g0, gl⟩, _, rfl, _, rfl, _, _, rfl, rfl, ⟨g0, gl⟩, _, rfl, _, rfl, _, _, rfl, rfl, ⟨g0, gl⟩, (by show 3 ≤ sizeLine; decide), fun p hp => ?_⟩
      refine k p _ hp (same_new hp) ?_
      rw [upd_same, PM.fd_low c]
      rfl
theorem scSign : FnScope ["number"] ["number"] (defScope sSign) := ⟨rfl, rfl, rfl, by decide +kernel, rfl, by decide +kernel, by decide +kernel⟩
theorem ok_sign {f : Addr} {fd : FuncData} (F : Fun K "sign_of" "sign_of" sSign f fd) : FnOk P w K mg base CX0 1 f fd ["number"] spSign := by
  refine F.ok scSign (fun vs H Q E h => ?_) (fun cdv A outer s H vs Q E hr h => ?_)
  · obtain ⟨n, rfl, _⟩ := h
    rfl
  · obtain ⟨n, rfl, k⟩ := h
    refine ⟨_, (pss_cons (ps_if (pt_cmpR op_gt (pv 0) pe_int (nomark _)) (pss_one (ps_ret pe_int)) pss_nil)
      (pss_cons (ps_if (pt_cmpR op_lt (pv 0) pe_int (nomark _)) (pss_one (ps_ret (pe_un un_neg pe_int))) pss_nil)
      (pss_one (ps_ret pe_int)))), ?_⟩
    refine ⟨_, rfl, _, _, rfl, rfl, _, rfl, ?_⟩
    refine ite2 (fun c => ?_) (fun c => ?_)
    · have c := of_decide_eq_true c
      rw [if_pos c] at k
      exact k
    · have c := no_dec c
      rw [if_neg c] at k
      refine ⟨_, rfl, _, _, rfl, rfl, _, rfl, ?_⟩
      refine ite2 (fun c => ?_) (fun c => ?_)
      · have c := of_decide_eq_true c
        rw [if_pos c] at k
        exact ⟨_, rfl, k⟩
      · have c := no_dec c
        rw [if_neg c] at k
        exact k
end
end Q
set_option Elab.async false
set_option linter.all false
set_option maxRecDepth 100000
set_option maxHeartbeats 2000000
namespace PM
/-- the cross product -/
def cr (p q : P3) : P3 := ⟨p.y * q.w - p.w * q.y, p.w * q.x - p.x * q.w, p.x * q.y - p.y * q.x⟩
def dot (l p : P3) : Int := l.x * p.x + l.y * p.y + l.w * p.w
def det (p q r : P3) : Int := dot (cr p q) r
def sgn (n : Int) : Int := if n > 0 then 1 else if n < 0 then -1 else 0
def dx (s e : P3) : Int := e.x * s.w - s.x * e.w
def dy (s e : P3) : Int := e.y * s.w - s.y * e.w
def lineOf (p q : P3) : P3 := low (cr p q).x (cr p q).y (cr p q).w
def between (p q r : P3) : Bool := if sgn (det q r p) ≠ 0 then false else decide (dx p q * dx p r + dy p q * dy p r ≤ 0)
def half (p q : P3) : P3 := lowS (p.x * q.w + q.x * p.w) (p.y * q.w + q.y * p.w) (2 * p.w * q.w)
theorem gc_pos' {x y w : Int} (h : x ≠ 0 ∨ y ≠ 0 ∨ w ≠ 0) : 0 < gc x y w := by
  unfold gc
  have : 0 < Nat.gcd (Nat.gcd x.natAbs y.natAbs) w.natAbs := by
    rcases h with h | h | h
    · exact Nat.gcd_pos_of_pos_left _ (Nat.gcd_pos_of_pos_left _ (Int.natAbs_pos.mpr h))
    · exact Nat.gcd_pos_of_pos_left _ (Nat.gcd_pos_of_pos_right _ (Int.natAbs_pos.mpr h))
    · exact Nat.gcd_pos_of_pos_right _ (Int.natAbs_pos.mpr h)
  omega
theorem low_fd (x y w : Int) : low x y w = ⟨x.fdiv (gc x y w), y.fdiv (gc x y w), w.fdiv (gc x y w)⟩ := by
  obtain ⟨d1, d2, d3⟩ := gc_dvd x y w
  rw [Int.fdiv_eq_ediv_of_dvd d1, Int.fdiv_eq_ediv_of_dvd d2, Int.fdiv_eq_ediv_of_dvd d3]
  rfl
end PM
namespace Q
open PySem L2 PySem.Spec PyProof.Rows PySem.Calls
open PM
def ValA (ta : TA) (σ : L2.St) (H : Hp) (vs : List V) : Prop := ∀ Q : List V → Hp → Prop, Q vs H → ta σ H Q
section
variable {σ : L2.St} {H : Hp} {te : TE} {t : TA} {v : V} {vs : List V} {sp : Sp} {PV : V → Hp → Prop} {E : XK} {r : List V → Hp → VK → Prop}
theorem va_nil : ValA tNil σ H [] := fun _ q => q
theorem va_cons (h : Val te σ H v) (ht : ValA t σ H vs) : ValA (tCons te t) σ H (v :: vs) := by
  intro Q q
  refine h _ ?_
  exact ht _ q
theorem vh_call (ha : ValA t σ H vs) (hs : ∀ Q : VK, (∀ v H', PV v H' → Q v H') → sp vs H Q E) : ValH (tCall sp [] E t) σ H PV := by
  intro Q q
  refine ha _ ?_
  rw [List.append_nil]
  exact hs Q q
theorem val_call (ha : ValA t σ H vs) (hs : ∀ Q : VK, Q v H → sp vs H Q E) : Val (tCall sp [] E t) σ H v := by
  intro Q q
  refine ha _ ?_
  rw [List.append_nil]
  exact hs Q q
theorem val_cb (ha : ValA t σ H vs) (hs : ∀ Q : VK, Q v H → r vs H Q) : Val (tCB r t) σ H v := by
  intro Q q
  refine ha _ ?_
  exact hs Q q
theorem vh_tup (ha : ValA t σ H vs) (hl : vs.length ≤ sizeLine) (k : ∀ p, H p = none → PV (.ref p) (upd H p (.tup vs))) : ValH (tTup t) σ H PV := by
  intro Q q
  refine ha _ ⟨hl, fun p hp => q _ _ (k p hp)⟩
theorem val_dv {ta tb : TE} {m g : Int} (ha : Val ta σ H (.int m)) (hb : Val tb σ H (.int g)) (h0 : g ≠ 0) (hl : g.natAbs.log2 < 9000) : Val (tOp (rI CDv fun i j => .int (i.fdiv j)) ta tb) σ H (.int (m.fdiv g)) :=
  val_op ha hb fun _ q => ⟨_, _, rfl, rfl, ⟨h0, hl⟩, q⟩
theorem st_unpH3 {K : PySem.W.Frag} {i j k : Nat} {D : Ends} {m n o : V} (h : ValH te σ H (fun v H' => ∃ l, v = .ref l ∧ H l = none ∧ Same H H' ∧ H' l = some (.tup [m, n, o]))) (q : ∀ l H', H l = none → Same H H' → D.nx (((σ.set i (some m)).set j (some n)).set k (some o)) H') :
    tAsg te (gTup K 3 (gCons (gName i) (gCons (gName j) (gCons (gName k) gNil)))) D σ H := by
  refine h _ ?_
  rintro v H' ⟨l, rfl, hn, e, hl⟩
  exact ⟨l, _, rfl, SqT.of hl, rfl, _, _, rfl, _, _, rfl, _, _, rfl, rfl, q l H' hn e⟩
theorem ret_h {D : Ends} (h : ValH te σ H PV) (q : ∀ v H', PV v H' → D.rt v H') : tRet te D σ H := h _ q
end
theorem B3.of_gc {k : Nat} {x y w : Int} (h : x ≠ 0 ∨ y ≠ 0 ∨ w ≠ 0) (bx : Bd k x) (by_ : Bd k y) (bw : Bd k w) : Bd k (gc x y w) := by
  have e : ∀ {a b : Int}, b ≠ 0 → a ∣ b → a.natAbs ≤ b.natAbs := fun hb hd => Nat.le_of_dvd (Int.natAbs_pos.mpr hb) (Int.natAbs_dvd_natAbs.mpr hd)
  obtain ⟨d1, d2, d3⟩ := gc_dvd x y w
  rcases h with h | h | h
  · exact bx.of_le (e h d1)
  · exact by_.of_le (e h d2)
  · exact bw.of_le (e h d3)
theorem bd_div {k : Nat} {x g : Int} (b : Bd k x) : Bd k (x / g) := b.of_le (Int.natAbs_ediv_le_natAbs x g)
theorem B3.low {k : Nat} {x y w : Int} (bx : Bd k x) (by_ : Bd k y) (bw : Bd k w) : B3 k (low x y w) := ⟨bd_div bx, bd_div by_, bd_div bw⟩
theorem B3.lowS {k : Nat} {x y w : Int} (bx : Bd k x) (by_ : Bd k y) (bw : Bd k w) : B3 k (lowS x y w) := by
  unfold PM.lowS
  split
  · exact B3.low bx.neg by_.neg bw.neg
  · exact B3.low bx by_ bw
theorem B3.cr {k : Nat} {p q : P3} (b : B3 k p) (c : B3 k q) : B3 (k + k + 1) (cr p q) := ⟨(b.y.mul c.w).sub (b.w.mul c.y), (b.w.mul c.x).sub (b.x.mul c.w), (b.x.mul c.y).sub (b.y.mul c.x)⟩
def Nz (p : P3) : Prop := p.x ≠ 0 ∨ p.y ≠ 0 ∨ p.w ≠ 0
/-! ### the promises -/
def spCrd : Sp := fun vs H Q _ => ∃ (a b : Addr) (p q : P3), vs = [.ref a, .ref b] ∧ H a = some (.tup p.vs) ∧ H b = some (.tup q.vs) ∧ B3 1000 p ∧ B3 1000 q ∧
  ∀ l H', H l = none → Same H H' → H' l = some (.tup (cr p q).vs) → Q (.ref l) H'
def spVal : Sp := fun vs H Q _ => ∃ (a b : Addr) (p q : P3), vs = [.ref a, .ref b] ∧ H a = some (.tup p.vs) ∧ H b = some (.tup q.vs) ∧ B3 2001 p ∧ B3 1000 q ∧ Q (.int (dot p q)) H
def spLine : Sp := fun vs H Q _ => ∃ (a b : Addr) (p q : P3), vs = [.ref a, .ref b] ∧ H a = some (.tup p.vs) ∧ H b = some (.tup q.vs) ∧ B3 1000 p ∧ B3 1000 q ∧ Nz (cr p q) ∧
  ∀ l H', H l = none → Same H H' → H' l = some (.tup (lineOf p q).vs) → Q (.ref l) H'
def spCross : Sp := fun vs H Q _ => ∃ (a b : Addr) (p q : P3), vs = [.ref a, .ref b] ∧ H a = some (.tup p.vs) ∧ H b = some (.tup q.vs) ∧ B3 2001 p ∧ B3 2001 q ∧
  (((cr p q).w = 0 ∧ Q .non H) ∨ ((cr p q).w ≠ 0 ∧ ∀ l H', H l = none → Same H H' → H' l = some (.tup (lowS (cr p q).x (cr p q).y (cr p q).w).vs) → Q (.ref l) H'))
def spTurn : Sp := fun vs H Q _ => ∃ (a b c : Addr) (p q r : P3), vs = [.ref a, .ref b, .ref c] ∧ H a = some (.tup p.vs) ∧ H b = some (.tup q.vs) ∧ H c = some (.tup r.vs) ∧ B3 1000 p ∧ B3 1000 q ∧ B3 1000 r ∧ ∀ H', Same H H' → Q (.int (sgn (det p q r))) H'
def spWay : Sp := fun vs H Q _ => ∃ (a b : Addr) (p q : P3), vs = [.ref a, .ref b] ∧ H a = some (.tup p.vs) ∧ H b = some (.tup q.vs) ∧ B3 1000 p ∧ B3 1000 q ∧
  ∀ l H', H l = none → Same H H' → H' l = some (.tup [.int (dx p q), .int (dy p q)]) → Q (.ref l) H'
def spLies : Sp := fun vs H Q _ => ∃ (a b c : Addr) (p q r : P3), vs = [.ref a, .ref b, .ref c] ∧ H a = some (.tup p.vs) ∧ H b = some (.tup q.vs) ∧ H c = some (.tup r.vs) ∧ B3 1000 p ∧ B3 1000 q ∧ B3 1000 r ∧
  ∀ H', Same H H' → Q (.bl (between p q r)) H'
def spHalf : Sp := fun vs H Q _ => ∃ (a b : Addr) (p q : P3), vs = [.ref a, .ref b] ∧ H a = some (.tup p.vs) ∧ H b = some (.tup q.vs) ∧ B3 1000 p ∧ B3 1000 q ∧ p.w ≠ 0 ∧ q.w ≠ 0 ∧
  ∀ l H', H l = none → Same H H' → H' l = some (.tup (half p q).vs) → Q (.ref l) H'
section
variable {P : Program} {w : World} {K : PySem.W.Frag} {mg : Str → Option Value} {base : Heap}
theorem scCrd : FnScope ["one", "two"] ["one", "two"] (defScope sCrd) := ⟨rfl, rfl, rfl, by decide +kernel, rfl, by decide +kernel, by decide +kernel⟩
theorem ok_crd {f : Addr} {fd : FuncData} (F : Fun K "crossed" "crossed" sCrd f fd) : FnOk P w K mg base CX0 1 f fd ["one", "two"] spCrd := by
  refine F.ok scCrd (fun vs H Q E h => ?_) (fun cdv A outer s H vs Q E hr h => ?_)
  · obtain ⟨a, b, p, q, rfl, _⟩ := h
    rfl
  · obtain ⟨a, b, p, q, rfl, ha, hb, bp, bq, k⟩ := h
    refine ⟨_, pss_one (ps_ret (pe_tup (pa_cons (pe_op op_sub (pe_op op_mulW (pe_ix ix_tup (pv 0) pe_int (fun _ _ => rfl)) (pe_ix ix_tup (pv 1) pe_int (fun _ _ => rfl))) (pe_op op_mulW (pe_ix ix_tup (pv 0) pe_int (fun _ _ => rfl)) (pe_ix ix_tup (pv 1) pe_int (fun _ _ => rfl)))) (pa_cons (pe_op op_sub (pe_op op_mulW (pe_ix ix_tup (pv 0) pe_int (fun _ _ => rfl)) (pe_ix ix_tup (pv 1) pe_int (fun _ _ => rfl))) (pe_op op_mulW (pe_ix ix_tup (pv 0) pe_int (fun _ _ => rfl)) (pe_ix ix_tup (pv 1) pe_int (fun _ _ => rfl)))) (pa_cons (pe_op op_sub (pe_op op_mulW (pe_ix ix_tup (pv 0) pe_int (fun _ _ => rfl)) (pe_ix ix_tup (pv 1) pe_int (fun _ _ => rfl))) (pe_op op_mulW (pe_ix ix_tup (pv 0) pe_int (fun _ _ => rfl)) (pe_ix ix_tup (pv 1) pe_int (fun _ _ => rfl)))) pa_nil))))), ?_⟩
    refine ret_h (vh_tup (va_cons (VI.sub (VI.mul (vy rfl ha bp) (vw rfl hb bq)) (VI.mul (vw rfl ha bp) (vy rfl hb bq))).v
      (va_cons (VI.sub (VI.mul (vw rfl ha bp) (vx rfl hb bq)) (VI.mul (vx rfl ha bp) (vw rfl hb bq))).v
      (va_cons (VI.sub (VI.mul (vx rfl ha bp) (vy rfl hb bq)) (VI.mul (vy rfl ha bp) (vx rfl hb bq))).v va_nil))) (by show 3 ≤ sizeLine; decide)
      (PV := fun v H' => ∃ l, v = .ref l ∧ H l = none ∧ H' = upd H l (.tup (cr p q).vs)) fun l hl => ⟨l, rfl, hl, rfl⟩) ?_
    rintro v H' ⟨l, rfl, hl, rfl⟩
    exact k l _ hl (same_new hl) upd_same
theorem scVal : FnScope ["ruler", "point"] ["ruler", "point"] (defScope sVal) := ⟨rfl, rfl, rfl, by decide +kernel, rfl, by decide +kernel, by decide +kernel⟩
theorem ok_val {f : Addr} {fd : FuncData} (F : Fun K "value_at" "value_at" sVal f fd) : FnOk P w K mg base CX0 1 f fd ["ruler", "point"] spVal := by
  refine F.ok scVal (fun vs H Q E h => ?_) (fun cdv A outer s H vs Q E hr h => ?_)
  · obtain ⟨a, b, p, q, rfl, _⟩ := h
    rfl
  · obtain ⟨a, b, p, q, rfl, ha, hb, bp, bq, k⟩ := h
    refine ⟨_, pss_one (ps_ret (pe_op op_add (pe_op op_add (pe_op op_mulW (pe_ix ix_tup (pv 0) pe_int (fun _ _ => rfl)) (pe_ix ix_tup (pv 1) pe_int (fun _ _ => rfl))) (pe_op op_mulW (pe_ix ix_tup (pv 0) pe_int (fun _ _ => rfl)) (pe_ix ix_tup (pv 1) pe_int (fun _ _ => rfl)))) (pe_op op_mulW (pe_ix ix_tup (pv 0) pe_int (fun _ _ => rfl)) (pe_ix ix_tup (pv 1) pe_int (fun _ _ => rfl))))), ?_⟩
    exact st_ret (VI.add (VI.add (VI.mul (vx rfl ha bp) (vx rfl hb bq)) (VI.mul (vy rfl ha bp) (vy rfl hb bq))) ((VI.mul (vw rfl ha bp) (vw rfl hb bq)).le (Nat.le_succ _))).v k
theorem scLine : FnScope ["one", "two", "a", "b", "c", "shared"] ["one", "two"] (defScope sLine) := ⟨rfl, rfl, rfl, by decide +kernel, rfl, by decide +kernel, by decide +kernel⟩
theorem ok_line {f : Addr} {fd : FuncData} (F : Fun K "line_through" "line_through" sLine f fd) (T : TM mg) (CD : Cl P w K mg base 1 "crossed" spCrd) : FnOk P w K mg base CX0 2 f fd ["one", "two"] spLine := by
  refine F.ok scLine (fun vs H Q E h => ?_) (fun cdv A outer s H vs Q E hr h => ?_)
  · obtain ⟨a, b, p, q, rfl, _⟩ := h
    rfl
  · obtain ⟨a, b, p, q, rfl, ha, hb, bp, bq, nz, k⟩ := h
    refine ⟨_, (pss_cons (ps_asg (pe_cl CD hr (by decide) (by rfl) (pa_cons (pv 0) (pa_cons (pv 1) pa_nil))) (pg_tup (by rfl) (pgs_cons (pg_name (i := 2) scLine.nd rfl (.inl rfl)) (pgs_cons (pg_name (i := 3) scLine.nd rfl (.inl rfl)) (pgs_cons (pg_name (i := 4) scLine.nd rfl (.inl rfl)) pgs_nil)))))
      (pss_cons (ps_set (i := 5) scLine.nd rfl (Or.inl rfl) (pe_callBfun cr_gcd3 (by rfl) T.gcd (pa_cons (pv 2) (pa_cons (pv 3) (pa_cons (pv 4) pa_nil)))))
      (pss_one (ps_ret (pe_tup (pa_cons (pe_op op_dv (pv 2) (pv 5)) (pa_cons (pe_op op_dv (pv 3) (pv 5)) (pa_cons (pe_op op_dv (pv 4) (pv 5)) pa_nil)))))))), ?_⟩
    refine st_seq (st_unpH3 (m := .int (cr p q).x) (n := .int (cr p q).y) (o := .int (cr p q).w) (vh_call (va_cons (val_var rfl) (va_cons (val_var rfl) va_nil)) fun Q q' => ⟨_, _, _, _, rfl, ha, hb, bp, bq, fun l H' h1 h2 h3 => q' _ _ ⟨l, rfl, h1, h2, h3⟩⟩) fun l0 H1 f1 e1 => ?_)
    refine st_seq (st_set (val_cb (va_cons (val_var rfl) (va_cons (val_var rfl) (va_cons (val_var rfl) va_nil))) fun Q q => ⟨_, _, _, rfl, q⟩) ?_)
    have b2 := B3.cr bp bq
    have g0 : gc (cr p q).x (cr p q).y (cr p q).w ≠ 0 := by
      have := gc_pos' nz
      omega
    have gl : (gc (cr p q).x (cr p q).y (cr p q).w).natAbs.log2 < 9000 := (B3.of_gc nz b2.x b2.y b2.w).log (by decide)
    refine ret_h (vh_tup (va_cons (val_dv (val_var rfl) (val_var rfl) g0 gl) (va_cons (val_dv (val_var rfl) (val_var rfl) g0 gl) (va_cons (val_dv (val_var rfl) (val_var rfl) g0 gl) va_nil))) (by show 3 ≤ sizeLine; decide)
      (PV := fun v H' => ∃ l, v = .ref l ∧ H1 l = none ∧ H' = upd H1 l (.tup (lineOf p q).vs)) fun l hl => ⟨l, rfl, hl, ?_⟩) ?_
    · unfold lineOf
      rw [low_fd]
      rfl
    · rintro v H' ⟨l, rfl, hl, rfl⟩
      exact k l _ (e1.free hl) (e1.trans (same_new hl)) upd_same
end
end Q
set_option Elab.async false
set_option linter.all false
set_option maxRecDepth 100000
set_option maxHeartbeats 2000000
namespace Q
open PySem L2 PySem.Spec PyProof.Rows PySem.Calls
open PM
theorem scal_int {i j : Int} : scal (.int i) (.int j) = true := rfl
section
variable {P : Program} {w : World} {K : PySem.W.Frag} {mg : Str → Option Value} {base : Heap}
theorem scCross : FnScope ["ruler", "other", "w", "x", "y"] ["ruler", "other"] (defScope sCross) := ⟨rfl, rfl, rfl, by decide +kernel, rfl, by decide +kernel, by decide +kernel⟩
theorem ok_cross {f : Addr} {fd : FuncData} (F : Fun K "cross_point" "cross_point" sCross f fd) (CL : Cl P w K mg base 1 "lowest_point" spLow) : FnOk P w K mg base CX0 2 f fd ["ruler", "other"] spCross := by
  refine F.ok scCross (fun vs H Q E h => ?_) (fun cdv A outer s H vs Q E hr h => ?_)
  · obtain ⟨a, b, p, q, rfl, _⟩ := h
    rfl
  · obtain ⟨a, b, p, q, rfl, ha, hb, bp, bq, k⟩ := h
    refine ⟨_, (pss_cons (ps_set (i := 2) scCross.nd rfl (Or.inl rfl) (pe_op op_sub (pe_op op_mulW (pe_ix ix_tup (pv 0) pe_int (fun _ _ => rfl)) (pe_ix ix_tup (pv 1) pe_int (fun _ _ => rfl))) (pe_op op_mulW (pe_ix ix_tup (pv 0) pe_int (fun _ _ => rfl)) (pe_ix ix_tup (pv 1) pe_int (fun _ _ => rfl)))))
      (pss_cons (ps_if (pt_cmpR op_eq (pv 2) pe_int (nomark _)) (pss_one (ps_ret pe_non)) pss_nil)
      (pss_cons (ps_set (i := 3) scCross.nd rfl (Or.inl rfl) (pe_op op_sub (pe_op op_mulW (pe_ix ix_tup (pv 0) pe_int (fun _ _ => rfl)) (pe_ix ix_tup (pv 1) pe_int (fun _ _ => rfl))) (pe_op op_mulW (pe_ix ix_tup (pv 0) pe_int (fun _ _ => rfl)) (pe_ix ix_tup (pv 1) pe_int (fun _ _ => rfl)))))
      (pss_cons (ps_set (i := 4) scCross.nd rfl (Or.inl rfl) (pe_op op_sub (pe_op op_mulW (pe_ix ix_tup (pv 0) pe_int (fun _ _ => rfl)) (pe_ix ix_tup (pv 1) pe_int (fun _ _ => rfl))) (pe_op op_mulW (pe_ix ix_tup (pv 0) pe_int (fun _ _ => rfl)) (pe_ix ix_tup (pv 1) pe_int (fun _ _ => rfl)))))
      (pss_one (ps_ret (pe_cl CL hr (Nat.le_refl _) (by rfl) (pa_cons (pv 3) (pa_cons (pv 4) (pa_cons (pv 2) pa_nil)))))))))), ?_⟩
    have b2 := B3.cr bp bq
    refine st_seq (st_set (VI.sub (VI.mul (vx rfl ha bp) (vy rfl hb bq)) (VI.mul (vy rfl ha bp) (vx rfl hb bq))).v ?_)
    rcases k with ⟨e, k⟩ | ⟨e, k⟩
    · refine st_seq (st_yes (ans_eq (val_var rfl) val_c scal_int (b := true) ?_) ?_)
      · rw [show (p.x * q.y - p.y * q.x) = 0 from e]
        rfl
      · exact k
    · refine st_seq (st_no (ans_eq (val_var rfl) val_c scal_int (b := false) ?_) ?_)
      · refine decide_eq_false fun h => e ?_
        injection h
      refine st_next ?_
      refine st_seq (st_set (VI.sub (VI.mul (vy rfl ha bp) (vw rfl hb bq)) (VI.mul (vw rfl ha bp) (vy rfl hb bq))).v ?_)
      refine st_seq (st_set (VI.sub (VI.mul (vw rfl ha bp) (vx rfl hb bq)) (VI.mul (vx rfl ha bp) (vw rfl hb bq))).v ?_)
      refine ret_h (vh_call (va_cons (val_var rfl) (va_cons (val_var rfl) (va_cons (val_var rfl) va_nil))) (PV := fun v H' => ∃ l, v = .ref l ∧ H l = none ∧ Same H H' ∧ H' l = some (.tup (lowS (cr p q).x (cr p q).y (cr p q).w).vs)) fun Q q => ?_) ?_
      · exact ⟨_, _, _, rfl, e, b2.w.le (by decide), fun l H' h1 h2 h3 => q _ _ ⟨l, rfl, h1, h2, h3⟩⟩
      · rintro v H' ⟨l, rfl, h1, h2, h3⟩
        exact k l H' h1 h2 h3
theorem scTurn : FnScope ["one", "two", "three"] ["one", "two", "three"] (defScope sTurn) := ⟨rfl, rfl, rfl, by decide +kernel, rfl, by decide +kernel, by decide +kernel⟩
theorem ok_turn {f : Addr} {fd : FuncData} (F : Fun K "turn" "turn" sTurn f fd) (CS : Cl P w K mg base 1 "sign_of" spSign) (CV : Cl P w K mg base 1 "value_at" spVal) (CD : Cl P w K mg base 1 "crossed" spCrd) : FnOk P w K mg base CX0 2 f fd ["one", "two", "three"] spTurn := by
  refine F.ok scTurn (fun vs H Q E h => ?_) (fun cdv A outer s H vs Q E hr h => ?_)
  · obtain ⟨a, b, c, p, q, r, rfl, _⟩ := h
    rfl
  · obtain ⟨a, b, c, p, q, r, rfl, ha, hb, hc, bp, bq, br, k⟩ := h
    refine ⟨_, pss_one (ps_ret (pe_cl CS hr (Nat.le_refl _) (by rfl) (pa_cons (pe_cl CV hr (Nat.le_refl _) (by rfl) (pa_cons (pe_cl CD hr (Nat.le_refl _) (by rfl) (pa_cons (pv 0) (pa_cons (pv 1) pa_nil))) (pa_cons (pv 2) pa_nil))) pa_nil))), ?_⟩
    have b2 := B3.cr bp bq
    refine ⟨_, rfl, _, rfl, a, b, p, q, rfl, ha, hb, bp, bq, fun l H1 f1 e1 t1 => ?_⟩
    refine ⟨_, rfl, l, c, cr p q, r, rfl, t1, e1 _ _ hc, b2, br, ?_⟩
    exact ⟨_, rfl, k H1 e1⟩
theorem scWay : FnScope ["start", "end"] ["start", "end"] (defScope sWay) := ⟨rfl, rfl, rfl, by decide +kernel, rfl, by decide +kernel, by decide +kernel⟩
theorem ok_way {f : Addr} {fd : FuncData} (F : Fun K "way" "way" sWay f fd) : FnOk P w K mg base CX0 1 f fd ["start", "end"] spWay := by
  refine F.ok scWay (fun vs H Q E h => ?_) (fun cdv A outer s H vs Q E hr h => ?_)
  · obtain ⟨a, b, p, q, rfl, _⟩ := h
    rfl
  · obtain ⟨a, b, p, q, rfl, ha, hb, bp, bq, k⟩ := h
    refine ⟨_, pss_one (ps_ret (pe_tup (pa_cons (pe_op op_sub (pe_op op_mulW (pe_ix ix_tup (pv 1) pe_int (fun _ _ => rfl)) (pe_ix ix_tup (pv 0) pe_int (fun _ _ => rfl))) (pe_op op_mulW (pe_ix ix_tup (pv 0) pe_int (fun _ _ => rfl)) (pe_ix ix_tup (pv 1) pe_int (fun _ _ => rfl)))) (pa_cons (pe_op op_sub (pe_op op_mulW (pe_ix ix_tup (pv 1) pe_int (fun _ _ => rfl)) (pe_ix ix_tup (pv 0) pe_int (fun _ _ => rfl))) (pe_op op_mulW (pe_ix ix_tup (pv 0) pe_int (fun _ _ => rfl)) (pe_ix ix_tup (pv 1) pe_int (fun _ _ => rfl)))) pa_nil)))), ?_⟩
    refine ret_h (vh_tup (va_cons (VI.sub (VI.mul (vx rfl hb bq) (vw rfl ha bp)) (VI.mul (vx rfl ha bp) (vw rfl hb bq))).v (va_cons (VI.sub (VI.mul (vy rfl hb bq) (vw rfl ha bp)) (VI.mul (vy rfl ha bp) (vw rfl hb bq))).v va_nil)) (by show 2 ≤ sizeLine; decide)
      (PV := fun v H' => ∃ l, v = .ref l ∧ H l = none ∧ H' = upd H l (.tup [.int (dx p q), .int (dy p q)])) fun l hl => ⟨l, rfl, hl, rfl⟩) ?_
    rintro v H' ⟨l, rfl, hl, rfl⟩
    exact k l _ hl (same_new hl) upd_same
theorem bd2 : Bd 2 2 := ⟨by decide⟩
end
end Q
set_option Elab.async false
set_option linter.all false
set_option maxRecDepth 100000
set_option maxHeartbeats 2000000
namespace Q
open PySem L2 PySem.Spec PyProof.Rows PySem.Calls
open PM
abbrev sIsInt : Stmt := top 18
abbrev sLowOf : Stmt := top 19
abbrev sLow2 : Stmt := top 20
abbrev sSquare : Stmt := top 29
section
variable {K : PySem.W.Frag} {σ : L2.St} {H : Hp} {ta tb : TE} {i j : Nat} {D : Ends} {m n : V} {c d : Bool}
theorem st_unp2 (h : ValH ta σ H (fun v H' => ∃ l, v = .ref l ∧ Same H H' ∧ H' l = some (.tup [m, n]))) (q : ∀ H', Same H H' → D.nx ((σ.set i (some m)).set j (some n)) H') :
    tAsg ta (gTup K 2 (gCons (gName i) (gCons (gName j) gNil))) D σ H := by
  refine h _ ?_
  rintro v H' ⟨l, rfl, e, hl⟩
  exact ⟨l, _, rfl, SqT.of hl, rfl, _, _, rfl, _, _, rfl, rfl, q H' e⟩
theorem ansH_cmp {r : R2} {PV : V → Hp → Prop} {P : Hp → Prop} {b : Bool} {y : V} (ha : ValH ta σ H PV) (hr : ∀ x H', PV x H' → Val tb σ H' y ∧ P H' ∧ ∀ Q : VK, Q (.bl b) H' → r x y H' Q) : AnsH (tTest (tOp r ta tb)) σ H b P := by
  intro Q q
  refine ha _ fun x H' hx => ?_
  obtain ⟨h1, h2, h3⟩ := hr x H' hx
  refine h1 _ ?_
  exact h3 _ ⟨b, rfl, q _ h2⟩
theorem val_and (h1 : Val ta σ H (.bl c)) (h2 : c = true → Val tb σ H (.bl d)) : Val (tAndV ta tb) σ H (.bl (c && d)) := by
  intro Q q
  refine h1 _ ⟨c, rfl, ?_⟩
  cases c with
  | true => exact h2 rfl _ q
  | false => exact q
theorem val_not (h1 : Val ta σ H (.bl c)) : Val (tNotV ta) σ H (.bl (!c)) := by
  intro Q q
  exact h1 _ ⟨c, rfl, q⟩
theorem ans_i {g : Int → Int → V} {i j : Int} {b : Bool} (ha : Val ta σ H (.int i)) (hb : Val tb σ H (.int j)) (hg : g i j = .bl b) : Ans (tTest (tOp (rI0 g) ta tb)) σ H b :=
  ans_cmp ha hb fun Q q => ⟨_, _, rfl, rfl, by rw [hg]; exact q⟩
theorem Bd.pw {k : Nat} {i : Int} (b : Bd k i) (h : k + 1 ≤ 9000) : CPowW i 2 := by
  refine ⟨by decide, ?_⟩
  have x := b.log h
  have e : Builtin.Int.intBits i ≤ i.natAbs.log2 + 1 := by
    unfold Builtin.Int.intBits
    split <;> omega
  have e2 : (2 : Int) ^ 27 = 134217728 := by decide
  rw [e2]
  omega
theorem Bd.sq {k : Nat} {i : Int} (b : Bd k i) : Bd (k + k) (i ^ 2) := by
  have e : i ^ 2 = i * i := by rw [Int.pow_succ, Int.pow_succ, Int.pow_zero, Int.one_mul]
  rw [e]
  exact b.mul b
theorem sq_pos {i : Int} (h : i ≠ 0) : 0 < i ^ 2 := by
  have e : i ^ 2 = i * i := by rw [Int.pow_succ, Int.pow_succ, Int.pow_zero, Int.one_mul]
  rw [e]
  rcases Int.lt_or_gt_of_ne h with c | c
  · exact Int.mul_pos_of_neg_of_neg c c
  · exact Int.mul_pos c c
theorem val_pair (h1 : Val ta σ H m) (h2 : Val tb σ H n) : ValA (tCons ta (tCons tb tNil)) σ H [m, n] := va_cons h1 (va_cons h2 va_nil)
end
structure TI (mg : Str → Option Value) : Prop where
  isi : mg "isinstance" = none
  int : mg "int" = none
  bool : mg "bool" = none
  tuple : mg "tuple" = none
  len : mg "len" = none
/-- a plain value that is asked whether it is an integer -/
inductive Sc : V → Bool → Prop where
  | int (i : Int) : Sc (.int i) true
  | bl (b : Bool) : Sc (.bl b) false
  | non : Sc .non false
def spIsInt : Sp := fun vs H Q _ => ∃ (v : V) (b : Bool), vs = [v] ∧ Sc v b ∧ Q (.bl b) H
def low2 (t b : Int) : Int × Int := (t / ((Nat.gcd t.natAbs b.natAbs : Nat) : Int), b / ((Nat.gcd t.natAbs b.natAbs : Nat) : Int))
def spLow2 : Sp := fun vs H Q _ => ∃ t b : Int, vs = [.int t, .int b] ∧ 0 < b ∧ Bd 6000 b ∧ ∀ l H', H l = none → Same H H' → H' l = some (.tup [.int (low2 t b).1, .int (low2 t b).2]) → Q (.ref l) H'
def sq (p q : P3) : Int × Int := low2 (dx p q * dx p q + dy p q * dy p q) ((p.w * q.w) ^ 2)
def spSquare : Sp := fun vs H Q _ => ∃ (a b : Addr) (p q : P3), vs = [.ref a, .ref b] ∧ H a = some (.tup p.vs) ∧ H b = some (.tup q.vs) ∧ B3 1000 p ∧ B3 1000 q ∧ p.w ≠ 0 ∧ q.w ≠ 0 ∧
  ∀ l H', H l = none → Same H H' → H' l = some (.tup [.int (sq p q).1, .int (sq p q).2]) → Q (.ref l) H'
theorem B3.dx {p q : P3} (b : B3 1000 p) (c : B3 1000 q) : Bd 2001 (PM.dx p q) := (c.x.mul b.w).sub (b.x.mul c.w)
theorem B3.dy {p q : P3} (b : B3 1000 p) (c : B3 1000 q) : Bd 2001 (PM.dy p q) := (c.y.mul b.w).sub (b.y.mul c.w)
section
variable {P : Program} {w : World} {K : PySem.W.Frag} {mg : Str → Option Value} {base : Heap}
theorem scLies : FnScope ["point", "one", "two", "dx", "dy", "other_dx", "other_dy"] ["point", "one", "two"] (defScope sLies) := ⟨rfl, rfl, rfl, by decide +kernel, rfl, by decide +kernel, by decide +kernel⟩
theorem ok_lies {f : Addr} {fd : FuncData} (F : Fun K "lies_between" "lies_between" sLies f fd) (CT : Cl P w K mg base 2 "turn" spTurn) (CW : Cl P w K mg base 1 "way" spWay) : FnOk P w K mg base CX0 3 f fd ["point", "one", "two"] spLies := by
  refine F.ok scLies (fun vs H Q E h => ?_) (fun cdv A outer s H vs Q E hr h => ?_)
  · obtain ⟨a, b, c, p, q, r, rfl, _⟩ := h
    rfl
  · obtain ⟨a, b, c, p, q, r, rfl, ha, hb, hc, bp, bq, br, k⟩ := h
    refine ⟨_, (pss_cons (ps_if (pt_cmpR op_ne (pe_cl CT hr (Nat.le_refl _) (by rfl) (pa_cons (pv 1) (pa_cons (pv 2) (pa_cons (pv 0) pa_nil)))) pe_int (nomark _)) (pss_one (ps_ret pe_bl)) pss_nil)
      (pss_cons (ps_asg (pe_cl CW hr (by decide) (by rfl) (pa_cons (pv 0) (pa_cons (pv 1) pa_nil))) (pg_tup (by rfl) (pgs_cons (pg_name (i := 3) scLies.nd rfl (.inl rfl)) (pgs_cons (pg_name (i := 4) scLies.nd rfl (.inl rfl)) pgs_nil))))
      (pss_cons (ps_asg (pe_cl CW hr (by decide) (by rfl) (pa_cons (pv 0) (pa_cons (pv 2) pa_nil))) (pg_tup (by rfl) (pgs_cons (pg_name (i := 5) scLies.nd rfl (.inl rfl)) (pgs_cons (pg_name (i := 6) scLies.nd rfl (.inl rfl)) pgs_nil))))
      (pss_one (ps_ret (pe_cmpR op_le (pe_op op_add (pe_op op_mulW (pv 3) (pv 5)) (pe_op op_mulW (pv 4) (pv 6))) pe_int (nomark _))))))), ?_⟩
    have vt : ValH (tCall spTurn [] E0 (tCons (tVar 1) (tCons (tVar 2) (tCons (tVar 0) tNil)))) (L2.start ["point", "one", "two", "dx", "dy", "other_dx", "other_dy"] [.ref a, .ref b, .ref c]) H (fun v H' => v = .int (sgn (det q r p)) ∧ Same H H') :=
      vh_call (va_cons (val_var rfl) (va_cons (val_var rfl) (va_cons (val_var rfl) va_nil))) fun Q q' => ⟨_, _, _, _, _, _, rfl, hb, hc, ha, bq, br, bp, fun H' e => q' _ _ ⟨rfl, e⟩⟩
    have at_ : ∀ t : Bool, (!decide ((.int (sgn (det q r p)) : V) = .int 0)) = t → AnsH (tTest (tOp rNe (tCall spTurn [] E0 (tCons (tVar 1) (tCons (tVar 2) (tCons (tVar 0) tNil)))) (tC (.int 0)))) (L2.start ["point", "one", "two", "dx", "dy", "other_dx", "other_dy"] [.ref a, .ref b, .ref c]) H t (Same H) := fun t ht =>
      ansH_cmp vt fun x H' ⟨e1, e2⟩ => ⟨val_c, e2, fun Q q' => by subst e1; exact ⟨scal_int, by rw [ht]; exact q'⟩⟩
    by_cases e : sgn (det q r p) = 0
    · refine st_seq (st_noH (at_ false ?_) fun H0 e0 => st_next ?_)
      · rw [e]
        rfl
      refine st_seq (st_unp2 (vh_call (val_pair (val_var rfl) (val_var rfl)) fun Q q' => ⟨_, _, _, _, rfl, e0 _ _ ha, e0 _ _ hb, bp, bq, fun l H' _ h2 h3 => q' _ _ ⟨l, rfl, h2, h3⟩⟩) fun H1 e1 => ?_)
      have e1 := e0.trans e1
      refine st_seq (st_unp2 (vh_call (val_pair (val_var rfl) (val_var rfl)) fun Q q' => ⟨_, _, _, _, rfl, e1 _ _ ha, e1 _ _ hc, bp, br, fun l H' _ h2 h3 => q' _ _ ⟨l, rfl, h2, h3⟩⟩) fun H2 e2 => ?_)
      refine st_ret (val_op (VI.add (VI.mul (vi_var rfl (bp.dx bq)) (vi_var rfl (bp.dx br))) (VI.mul (vi_var rfl (bp.dy bq)) (vi_var rfl (bp.dy br)))).v val_c fun Q q' => ⟨_, _, rfl, rfl, q'⟩) ?_
      have z := k H2 (e1.trans e2)
      unfold between at z
      rw [if_neg (by simp [e])] at z
      exact z
    · refine st_seq (st_yesH (at_ true ?_) fun H0 e0 => st_ret val_c ?_)
      · rw [decide_eq_false fun h => e (by injection h)]
        rfl
      have z := k H0 e0
      unfold between at z
      rw [if_pos e] at z
      exact z
theorem scIsInt : FnScope ["value"] ["value"] (defScope sIsInt) := ⟨rfl, rfl, rfl, by decide +kernel, rfl, by decide +kernel, by decide +kernel⟩
theorem val_isi {σ : L2.St} {H : Hp} {ta : TE} {v : V} {T U : String} {b : Bool} (h : Val ta σ H v) (t : TyX K H v (.type U)) (e : PySem.W.kitOne K (.type U) (.type T) = some b) : Val (tCB (rIsi K) (tCons ta (tCons (tC (.ty T)) tNil))) σ H (.bl b) :=
  val_cb (val_pair h val_c) fun Q q => ⟨_, _, _, _, _, rfl, .ty _, t, e, q⟩
theorem ok_isint {f : Addr} {fd : FuncData} (F : Fun K "is_integer" "is_integer" sIsInt f fd) (T : TI mg) : FnOk P w K mg base CX0 1 f fd ["value"] spIsInt := by
  refine F.ok scIsInt (fun vs H Q E h => ?_) (fun cdv A outer s H vs Q E hr h => ?_)
  · obtain ⟨v, b, rfl, _⟩ := h
    rfl
  · obtain ⟨v, b, rfl, hv, k⟩ := h
    refine ⟨_, pss_one (ps_ret (pe_and (pe_callB call_isi (by rfl) T.isi PyProof.Rows.boot_isinstance (pa_cons (pv 0) (pa_cons (pe_bltn (v := .ty "int") (by rfl) T.int (by decide +kernel) rfl) pa_nil)))
      (pe_one (pe_not (pe_callB call_isi (by rfl) T.isi PyProof.Rows.boot_isinstance (pa_cons (pv 0) (pa_cons (pe_bltn (v := .ty "bool") (by rfl) T.bool (by decide +kernel) rfl) pa_nil))))))), ?_⟩
    cases hv with
    | int i => exact st_ret (val_and (val_isi (b := true) (val_var rfl) (.base (.int i)) (kit_ty (by decide +kernel))) fun _ => val_not (val_isi (b := false) (val_var rfl) (.base (.int i)) (kit_ty (by decide +kernel)))) k
    | bl c => exact st_ret (val_and (val_isi (b := true) (val_var rfl) (.base (.bl c)) (kit_ty (by decide +kernel))) fun _ => val_not (val_isi (b := true) (val_var rfl) (.base (.bl c)) (kit_ty (by decide +kernel)))) k
    | non => exact st_ret (val_and (c := false) (d := false) (val_isi (b := false) (val_var rfl) (.base .non) (kit_ty (by decide +kernel))) fun h => absurd h (by decide)) k
theorem scLow2 : FnScope ["top", "bottom", "shared"] ["top", "bottom"] (defScope sLow2) := ⟨rfl, rfl, rfl, by decide +kernel, rfl, by decide +kernel, by decide +kernel⟩
theorem ok_low2 {f : Addr} {fd : FuncData} (F : Fun K "_lowest" "_lowest" sLow2 f fd) (T : TM mg) : FnOk P w K mg base CX0 1 f fd ["top", "bottom"] spLow2 := by
  refine F.ok scLow2 (fun vs H Q E h => ?_) (fun cdv A outer s H vs Q E hr h => ?_)
  · obtain ⟨t, b, rfl, _⟩ := h
    rfl
  · obtain ⟨t, b, rfl, hb, bb, k⟩ := h
    refine ⟨_, (pss_cons (ps_if (pt_cmpR op_lt (pv 1) pe_int (nomark _)) pss_never pss_nil)
      (pss_cons (ps_set (i := 2) scLow2.nd rfl (Or.inl rfl) (pe_callBfun cr_gcd (by rfl) T.gcd (pa_cons (pv 0) (pa_cons (pv 1) pa_nil))))
      (pss_one (ps_ret (pe_tup (pa_cons (pe_op op_dv (pv 0) (pv 2)) (pa_cons (pe_op op_dv (pv 1) (pv 2)) pa_nil))))))), ?_⟩
    refine st_seq (st_no (ans_i (b := false) (val_var rfl) val_c (congrArg V.bl (decide_eq_false (show ¬ b < 0 by omega)))) (st_next ?_))
    refine st_seq (st_set (val_cb (val_pair (val_var rfl) (val_var rfl)) fun Q q => ⟨_, _, rfl, q⟩) ?_)
    have g0 : ((Nat.gcd t.natAbs b.natAbs : Nat) : Int) ≠ 0 := by
      have : 0 < Nat.gcd t.natAbs b.natAbs := Nat.gcd_pos_of_pos_right _ (by omega)
      omega
    have gl : ((Nat.gcd t.natAbs b.natAbs : Nat) : Int).natAbs.log2 < 9000 := (bb.of_le (by
      rw [Int.natAbs_natCast]
      exact Nat.le_of_dvd (by omega) (Nat.gcd_dvd_right _ _))).log (by decide)
    refine ret_h (vh_tup (val_pair (val_dv (val_var rfl) (val_var rfl) g0 gl) (val_dv (val_var rfl) (val_var rfl) g0 gl)) (by show 2 ≤ sizeLine; decide)
      (PV := fun v H' => ∃ l, v = .ref l ∧ H l = none ∧ H' = upd H l (.tup [.int (low2 t b).1, .int (low2 t b).2])) fun l hl => ⟨l, rfl, hl, ?_⟩) ?_
    · unfold low2
      rw [Int.fdiv_eq_ediv_of_dvd (PySem.W.mg_dvd_left t b), Int.fdiv_eq_ediv_of_dvd (PySem.W.mg_dvd_right t b)]
    · rintro v H' ⟨l, rfl, hl, rfl⟩
      exact k l _ hl (same_new hl) upd_same
theorem scLowOf : FnScope ["top", "bottom"] ["top", "bottom"] (defScope sLowOf) := ⟨rfl, rfl, rfl, by decide +kernel, rfl, by decide +kernel, by decide +kernel⟩
theorem ok_lowof {f : Addr} {fd : FuncData} (F : Fun K "lowest_of" "lowest_of" sLowOf f fd) (CI : Cl P w K mg base 1 "is_integer" spIsInt) (CL : Cl P w K mg base 1 "_lowest" spLow2) : FnOk P w K mg base CX0 2 f fd ["top", "bottom"] spLow2 := by
  refine F.ok scLowOf (fun vs H Q E h => ?_) (fun cdv A outer s H vs Q E hr h => ?_)
  · obtain ⟨t, b, rfl, _⟩ := h
    rfl
  · obtain ⟨t, b, rfl, hb, bb, k⟩ := h
    refine ⟨_, (pss_cons (ps_if (pt_not (pt_val (pe_cl CI hr (by decide) (by rfl) (pa_cons (pv 0) pa_nil)))) pss_never pss_nil)
      (pss_cons (ps_if (pw_or (pt_not (pt_val (pe_cl CI hr (by decide) (by rfl) (pa_cons (pv 1) pa_nil)))) (pw_or1 (pt_cmpR op_eq (pv 1) pe_int (nomark _)))).pt pss_never pss_nil)
      (pss_one (ps_ret (pe_cl CL hr (by decide) (by rfl) (pa_cons (pv 0) (pa_cons (pv 1) pa_nil))))))), ?_⟩
    refine st_seq (st_no (ans_not (b := true) (ans_val (val_call (va_cons (val_var rfl) va_nil) fun Q q => ⟨_, _, rfl, .int _, q⟩))) (st_next ?_))
    refine st_seq (st_no (ans_or (ans_not (b := true) (ans_val (val_call (va_cons (val_var rfl) va_nil) fun Q q => ⟨_, _, rfl, .int _, q⟩))) (ans_eq (b := false) (val_var rfl) val_c scal_int (decide_eq_false fun h => by
      injection h with h
      omega))) (st_next ?_))
    refine ret_h (vh_call (val_pair (val_var rfl) (val_var rfl)) (PV := fun v H' => ∃ l, v = .ref l ∧ H l = none ∧ Same H H' ∧ H' l = some (.tup [.int (low2 t b).1, .int (low2 t b).2])) fun Q q => ⟨_, _, rfl, hb, bb, fun l H' h1 h2 h3 => q _ _ ⟨l, rfl, h1, h2, h3⟩⟩) ?_
    rintro v H' ⟨l, rfl, h1, h2, h3⟩
    exact k l H' h1 h2 h3
theorem scSquare : FnScope ["one", "two", "dx", "dy"] ["one", "two"] (defScope sSquare) := ⟨rfl, rfl, rfl, by decide +kernel, rfl, by decide +kernel, by decide +kernel⟩
theorem ok_square {f : Addr} {fd : FuncData} (F : Fun K "_square" "_square" sSquare f fd) (CW : Cl P w K mg base 1 "way" spWay) (CL : Cl P w K mg base 2 "lowest_of" spLow2) : FnOk P w K mg base CX0 3 f fd ["one", "two"] spSquare := by
  refine F.ok scSquare (fun vs H Q E h => ?_) (fun cdv A outer s H vs Q E hr h => ?_)
  · obtain ⟨a, b, p, q, rfl, _⟩ := h
    rfl
  · obtain ⟨a, b, p, q, rfl, ha, hb, bp, bq, hp, hq, k⟩ := h
    refine ⟨_, (pss_cons (ps_asg (pe_cl CW hr (by decide) (by rfl) (pa_cons (pv 0) (pa_cons (pv 1) pa_nil))) (pg_tup (by rfl) (pgs_cons (pg_name (i := 2) scSquare.nd rfl (.inl rfl)) (pgs_cons (pg_name (i := 3) scSquare.nd rfl (.inl rfl)) pgs_nil))))
      (pss_one (ps_ret (pe_cl CL hr (by decide) (by rfl) (pa_cons (pe_op op_add (pe_op op_mulW (pv 2) (pv 2)) (pe_op op_mulW (pv 3) (pv 3))) (pa_cons (pe_op op_powW (pe_op op_mulW (pe_ix ix_tup (pv 0) pe_int (fun _ _ => rfl)) (pe_ix ix_tup (pv 1) pe_int (fun _ _ => rfl))) pe_int) pa_nil)))))), ?_⟩
    refine st_seq (st_unp2 (vh_call (val_pair (val_var rfl) (val_var rfl)) fun Q q' => ⟨_, _, _, _, rfl, ha, hb, bp, bq, fun l H' _ h2 h3 => q' _ _ ⟨l, rfl, h2, h3⟩⟩) fun H1 e1 => ?_)
    have z := VI.mul (vw (i := 0) (K := K) (σ := (((L2.start ["one", "two", "dx", "dy"] [.ref a, .ref b]).set 2 (some (.int (dx p q)))).set 3 (some (.int (dy p q))))) rfl (e1 _ _ ha) bp) (vw (i := 1) (K := K) rfl (e1 _ _ hb) bq)
    have hw : p.w * q.w ≠ 0 := Int.mul_ne_zero hp hq
    refine ret_h (vh_call (val_pair (VI.add (VI.mul (vi_var rfl (bp.dx bq)) (vi_var rfl (bp.dx bq))) (VI.mul (vi_var rfl (bp.dy bq)) (vi_var rfl (bp.dy bq)))).v (val_op (z := .int ((p.w * q.w) ^ 2)) z.v val_c fun Q q' => ⟨_, _, rfl, rfl, z.b.pw (by decide), q'⟩))
      (PV := fun v H' => ∃ l, v = .ref l ∧ H l = none ∧ Same H H' ∧ H' l = some (.tup [.int (sq p q).1, .int (sq p q).2])) fun Q q' => ?_) ?_
    · refine ⟨_, _, rfl, ?_, ?_, fun l H' h1 h2 h3 => q' _ _ ⟨l, rfl, e1.free h1, e1.trans h2, h3⟩⟩
      · exact sq_pos hw
      · exact z.b.sq.le (by decide)
    · rintro v H' ⟨l, rfl, h1, h2, h3⟩
      exact k l H' h1 h2 h3
end
end Q
set_option Elab.async false
set_option linter.all false
set_option maxRecDepth 100000
set_option maxHeartbeats 2000000
namespace PM
/-- in lowest terms: a point as told -/
structure Pt (p : P3) : Prop where
  w : 1 ≤ p.w
  g : gc p.x p.y p.w = 1
end PM
namespace Q
open PySem L2 PySem.Spec PyProof.Rows PySem.Calls
open PM
abbrev sIsPt : Stmt := top 25
abbrev sChk : Stmt := top 26
section
variable {X : Cx} {CX : CXT} {k : Nat} {f : Addr} {sp : Sp} {E : XK} {x : Str} {e : Expr} {es : List Expr} {t : TA} {p pos : Pos}
/-- f(e, ..), f a def told by what it asks of the values written -/
theorem pe_callR (F : FnR X.prog X.w X.K X.mg X.base CX k f sp) (hr : Room k X.A) (hk : PySem.W.keepIn X.K (.ref f) = true) (hg : Gl X x) (hm : X.mg x = some (.ref f)) (hx : Passes CX X E) (ha : PA X (e :: es) t) (hd : (x == ("__debug__" : Str)) = false := by decide)
    (he : starEach (e :: es) X.env = (false, eval e X.env) :: starEach es X.env := by rfl) (hpl : (backTo pos (starEach es X.env)).any (·.1) = false := by rfl) :
    PE X (.Call (.Name x p) (e :: es) [] pos) (fun σ H Q => t σ H fun vs H1 => sp vs H1 Q E) := by
  refine ⟨fun pins s σ H Q I h => ?_⟩
  refine wpAny_Call_Name_kw (ld_glob I hg hm ?_ hd)
  refine PySem.W.callWith_K (h₀ := X.base) I.ok.mod.kin hk (thn (ha.run pos pins s σ H _ I h) fun us s1 ⟨vs, H1, I1, r, q⟩ => ⟨I1.kIn, ?_⟩) he hpl
  exact wpAny_call (run_fnR F hr hx I1 r q)
end
/-- what is asked whether it is a point -/
inductive Pv (H : Hp) : V → Bool → Prop where
  | int3 {a : Addr} {p : P3} (h : H a = some (.tup p.vs)) : Pv H (.ref a) (decide (1 ≤ p.w) && decide (gc p.x p.y p.w = 1))
  | odd3 {a : Addr} {u v w : V} {b c d : Bool} (h : H a = some (.tup [u, v, w])) (hu : Sc u b) (hv : Sc v c) (hw : Sc w d) (hn : (b && c && d) = false) : Pv H (.ref a) false
  | tup {a : Addr} {xs : List V} (h : H a = some (.tup xs)) (hl : xs.length ≠ 3) : Pv H (.ref a) false
  | lst {a : Addr} {xs : List V} (h : H a = some (.lst xs)) : Pv H (.ref a) false
  | non : Pv H .non false
theorem Pv.pt {H : Hp} {a : Addr} {p : P3} (h : H a = some (.tup p.vs)) (hp : Pt p) : Pv H (.ref a) true := by
  have z := Pv.int3 h
  rw [decide_eq_true hp.w, decide_eq_true hp.g] at z
  exact z
def spIsPt : Sp := fun vs H Q _ => ∃ (v : V) (b : Bool), vs = [v] ∧ Pv H v b ∧ Q (.bl b) H
def spChk : Sp := fun vs H Q _ => vs.length ≤ 9 ∧ (∀ v ∈ vs, Pv H v true) ∧ ∀ H', Same H H' → Q .non H'
section
variable {P : Program} {w : World} {K : PySem.W.Frag} {mg : Str → Option Value} {base : Heap}
theorem scIsPt : FnScope ["value", "x", "y", "w"] ["value"] (defScope sIsPt) := ⟨rfl, rfl, rfl, by decide +kernel, rfl, by decide +kernel, by decide +kernel⟩
theorem ok_ispt {f : Addr} {fd : FuncData} (F : Fun K "is_point" "is_point" sIsPt f fd) (T : TI mg) (M : TM mg) (CI : Cl P w K mg base 1 "is_integer" spIsInt) : FnOk P w K mg base CX0 2 f fd ["value"] spIsPt := by
  refine F.ok scIsPt (fun vs H Q E h => ?_) (fun cdv A outer s H vs Q E hr h => ?_)
  · obtain ⟨v, b, rfl, _⟩ := h
    rfl
  · obtain ⟨v, b, rfl, hv, k⟩ := h
    refine ⟨_, (pss_cons (ps_if (pw_or (pt_not (pt_val (pe_callB call_isi (by rfl) T.isi PyProof.Rows.boot_isinstance (pa_cons (pv 0) (pa_cons (pe_bltn (v := .ty "tuple") (by rfl) T.tuple (by decide +kernel) rfl) pa_nil)))))
        (pw_or1 (pt_cmpR op_ne (pe_callB call_len_seq (by rfl) T.len PySem.boot_len (pa_cons (pv 0) pa_nil)) pe_int (nomark _)))).pt (pss_one (ps_ret pe_bl)) pss_nil)
      (pss_cons (ps_asg (pv 0) (pg_tup (by rfl) (pgs_cons (pg_name (i := 1) scIsPt.nd rfl (.inl rfl)) (pgs_cons (pg_name (i := 2) scIsPt.nd rfl (.inl rfl)) (pgs_cons (pg_name (i := 3) scIsPt.nd rfl (.inl rfl)) pgs_nil)))))
      (pss_cons (ps_if (pw_or (pt_not (pt_val (pe_cl CI hr (by decide) (by rfl) (pa_cons (pv 1) pa_nil)))) (pw_or (pt_not (pt_val (pe_cl CI hr (by decide) (by rfl) (pa_cons (pv 2) pa_nil)))) (pw_or1 (pt_not (pt_val (pe_cl CI hr (by decide) (by rfl) (pa_cons (pv 3) pa_nil))))))).pt (pss_one (ps_ret pe_bl)) pss_nil)
      (pss_one (ps_ret (pe_and (pe_cmpR op_ge (pv 3) pe_int (nomark _)) (pe_one (pe_cmpR op_eq (pe_callBfun cr_gcd3 (by rfl) M.gcd (pa_cons (pv 1) (pa_cons (pv 2) (pa_cons (pv 3) pa_nil)))) pe_int (nomark _))))))))), ?_⟩
    have vi : ∀ {σ : L2.St} {i : Nat} {u : V} {b : Bool}, σ[i]? = some (some u) → Sc u b → Ans (tNot (tB (tCall spIsInt [] E0 (tCons (tVar i) tNil)))) σ H (!b) := fun hs hu =>
      ans_not (ans_val (val_call (va_cons (val_var hs) va_nil) fun Q q => ⟨_, _, rfl, hu, q⟩))
    have vl : ∀ {a : Addr} {xs : List V}, H a = some (.tup xs) → Val (tCB (fun xs H Q => ∃ p ys, xs = [.ref p] ∧ (SqL K H p ys ∨ SqT K H p ys) ∧ Q (.int ys.length) H) (tCons (tVar 0) tNil)) (L2.start ["value", "x", "y", "w"] [.ref a]) H (.int xs.length) := fun ha =>
      val_cb (va_cons (val_var rfl) va_nil) fun Q q => ⟨_, _, rfl, .inr (SqT.of ha), q⟩
    cases hv with
    | non => exact st_seq (st_yes (ans_or1 (ans_not (b := false) (ans_val (val_isi (val_var rfl) (.base .non) (kit_ty (by decide +kernel)))))) (st_ret val_c k))
    | lst ha => exact st_seq (st_yes (ans_or1 (ans_not (b := false) (ans_val (val_isi (val_var rfl) (.base (.lst ha)) (kit_ty (by decide +kernel)))))) (st_ret val_c k))
    | tup ha hl =>
      refine st_seq (st_yes (ans_or (ans_not (b := true) (ans_val (val_isi (val_var rfl) (.base (.tup ha)) (kit_ty (by decide +kernel))))) (ans_ne (b := true) (vl ha) val_c scal_int ?_)) (st_ret val_c k))
      rw [decide_eq_false fun h => hl (by
        injection h with h
        omega)]
      rfl
    | @odd3 a u v w b c d ha hu hv hw hn =>
      refine st_seq (st_no (ans_or (ans_not (b := true) (ans_val (val_isi (val_var rfl) (.base (.tup ha)) (kit_ty (by decide +kernel))))) (ans_ne (b := false) (vl ha) val_c scal_int rfl)) (st_next ?_))
      refine ⟨_, rfl, a, _, rfl, SqT.of ha, rfl, _, _, rfl, _, _, rfl, _, _, rfl, rfl, ?_⟩
      have z1 := vi (σ := [some (.ref a), some u, some v, some w]) (i := 1) rfl hu
      have z2 := vi (σ := [some (.ref a), some u, some v, some w]) (i := 2) rfl hv
      have z3 := vi (σ := [some (.ref a), some u, some v, some w]) (i := 3) rfl hw
      have za : Ans (tOr (tNot (tB (tCall spIsInt [] E0 (tCons (tVar 1) tNil)))) (tOr (tNot (tB (tCall spIsInt [] E0 (tCons (tVar 2) tNil)))) (tNot (tB (tCall spIsInt [] E0 (tCons (tVar 3) tNil)))))) [some (.ref a), some u, some v, some w] H true := by
        cases b with
        | false => exact ans_or1 z1
        | true =>
          cases c with
          | false => exact ans_or z1 (ans_or1 z2)
          | true =>
            cases d with
            | false => exact ans_or z1 (ans_or z2 z3)
            | true => cases hn
      exact st_seq (st_yes za (st_ret val_c k))
    | @int3 a p ha =>
      refine st_seq (st_no (ans_or (ans_not (b := true) (ans_val (val_isi (val_var rfl) (.base (.tup ha)) (kit_ty (by decide +kernel))))) (ans_ne (b := false) (vl ha) val_c scal_int rfl)) (st_next ?_))
      refine ⟨_, rfl, a, _, rfl, SqT.of ha, rfl, _, _, rfl, _, _, rfl, _, _, rfl, rfl, ?_⟩
      refine st_seq (st_no (ans_or (vi rfl (.int _)) (ans_or (vi rfl (.int _)) (vi rfl (.int _)))) (st_next ?_))
      refine st_ret (val_and (val_op (z := .bl (decide (1 ≤ p.w))) (val_var rfl) val_c fun Q q => ⟨_, _, rfl, rfl, q⟩) fun _ => val_op (z := .bl (decide (gc p.x p.y p.w = 1))) (val_cb (va_cons (val_var rfl) (va_cons (val_var rfl) (va_cons (val_var rfl) va_nil))) fun Q q => ⟨_, _, _, rfl, q⟩) val_c fun Q q => ⟨rfl, ?_⟩) k
      have e : decide (V.int (gc p.x p.y p.w) = V.int 1) = decide (gc p.x p.y p.w = 1) := by
        by_cases h : gc p.x p.y p.w = 1
        · rw [decide_eq_true h, h]
          rfl
        · rw [decide_eq_false h]
          exact decide_eq_false fun z => h (by injection z)
      rw [e]
      exact q
end
end Q
set_option Elab.async false
set_option linter.all false
set_option maxRecDepth 100000
set_option maxHeartbeats 2000000
namespace Q
open PySem L2 PySem.Spec PyProof.Rows PySem.Calls
open PM
theorem Pv.mono {H H' : Hp} {v : V} {b : Bool} (e : Same H H') (h : Pv H v b) : Pv H' v b := by
  cases h with
  | int3 h => exact .int3 (e _ _ h)
  | odd3 h hu hv hw hn => exact .odd3 (e _ _ h) hu hv hw hn
  | tup h hl => exact .tup (e _ _ h) hl
  | lst h => exact .lst (e _ _ h)
  | non => exact .non
theorem bind_star0 {B : List Value → Sem (List (Str × Value))} {pv : Str} (h0 : B [] = (newTuple [] >>= fun t => pure [(pv, t)])) (h1 : ∀ r rs, B (r :: rs) = (newTuple (r :: rs) >>= fun t => pure [(pv, t)])) :
    ∀ us rest : List Value, us.length = ([] : List Str).length → B (us ++ rest) = (newTuple rest >>= fun t => pure (([] : List Str).zip us ++ [(pv, t)]))
  | [], [], _ => h0
  | [], r :: rs, _ => h1 r rs
def spVals : Sp := fun vs H Q _ => ∃ (p : Addr) (rest : List V), vs = [.ref p] ∧ H p = some (.tup rest) ∧ (∀ v ∈ rest, Pv H v true) ∧ Q .non H
section
variable {P : Program} {w : World} {K : PySem.W.Frag} {mg : Str → Option Value} {base : Heap}
theorem scChk : FnScope ["values", "value"] ["values"] (defScope sChk) := ⟨rfl, rfl, rfl, by decide +kernel, rfl, by decide +kernel, by decide +kernel⟩
theorem ok_chk {f : Addr} {fd : FuncData} (F : Fun K "check_points" "check_points" sChk f fd) (CP : Cl P w K mg base 2 "is_point" spIsPt) : FnR P w K mg base CX0 3 f spChk := by
  obtain ⟨oc, od, kV, doc, pm, an, cdv, ct, osl, rfl, lk, hcd⟩ := F.ex
  have z := StX.fn_star (P := P) (w := w) (mg := mg) (base := base) (CX := CX0) (k := 2) (N := ["values", "value"]) (ps := []) (pv := "values") (sp := spVals) lk hcd scChk StX.cxUp_none (fun us rest h => bind_star0 (B := fun us => bindArgs (PySem.W.fnOf "check_points" "check_points" (defArgs sChk) (defBody sChk) (defScope sChk) .none kV doc pm an cdv ct) ⟨us, []⟩) rfl (fun _ _ => rfl) us rest h) (fun A outer s H vs Q E hr h => ?_)
  · refine z.imp fun vs H Q E h => ?_
    obtain ⟨h1, h2, h3⟩ := h
    exact ⟨[], vs, rfl, rfl, Nat.le_trans h1 (by decide), fun p hp => ⟨p, vs, rfl, upd_same, fun v hv => (h2 v hv).mono (same_new hp), h3 _ (same_new hp)⟩⟩
  · obtain ⟨p, rest, rfl, hp, hv, k⟩ := h
    refine ⟨_, PSs.nox (pss_one (ps_for PassesOwn.never rfl (pi_tup (pv 0)) (pg_name (i := 1) scChk.nd rfl (Or.inl rfl)) (pss_one (ps_if (pt_not (pt_val (pe_cl CP hr (Nat.le_refl _) (by rfl) (pa_cons (pv 1) pa_nil)))) pss_never pss_nil)))), ?_⟩
    refine ⟨_, rfl, p, rfl, ⟨_, SqT.of hp⟩, ?_⟩
    refine for_tup (xs := rest) (fun i σ H' => H' = H ∧ ∃ u, σ = [some (.ref p), u]) ⟨rfl, _, rfl⟩ (fun i σ H' _ h => by obtain ⟨rfl, _⟩ := h; exact SqT.of hp) (fun i x σ H' hx h => ?_) (fun σ H' h => by obtain ⟨rfl, _⟩ := h; exact k)
    obtain ⟨rfl, u, rfl⟩ := h
    refine st_no (ans_not (b := true) (ans_val (val_call (va_cons (val_var rfl) va_nil) fun Q q => ⟨_, _, rfl, hv x (List.mem_of_getElem? hx), q⟩))) (st_next ⟨rfl, _, rfl⟩)
end
end Q
set_option Elab.async false
set_option linter.all false
set_option maxRecDepth 100000
set_option maxHeartbeats 2000000
namespace Q
open PySem L2 PySem.Spec PyProof.Rows PySem.Calls
open PM
/-- a def told by what it asks of the values written -/
structure ClR (P : Program) (w : World) (K : PySem.W.Frag) (mg : Str → Option Value) (base : Heap) (k : Nat) (x : Str) (sp : Sp) : Prop where
  ex : ∃ f : Addr, FnR P w K mg base CX0 k f sp ∧ mg x = some (.ref f) ∧ PySem.W.keepIn K (.ref f) = true
section
variable {X : Cx} {k j : Nat} {x : Str} {sp : Sp} {p pos : Pos} {e : Expr} {es : List Expr} {t : TA}
def tCallR (sp : Sp) (E : XK) (t : TA) : TE := fun σ H Q => t σ H fun vs H1 => sp vs H1 Q E
theorem pe_clR (c : ClR X.prog X.w X.K X.mg X.base k x sp) (hr : Room j X.A) (hk : k ≤ j) (hg : Gl X x) (ha : PA X (e :: es) t)
    (hdb : (x == ("__debug__" : Str)) = false := by decide) (he : starEach (e :: es) X.env = (false, eval e X.env) :: starEach es X.env := by rfl) (hpl : (backTo pos (starEach es X.env)).any (·.1) = false := by rfl) :
    PE X (.Call (.Name x p) (e :: es) [] pos) (tCallR sp E0 t) := by
  obtain ⟨f, F, hm, kp⟩ := c.ex
  exact pe_callR F (hr.mono hk) kp hg hm pass0 ha hdb he hpl
end
/-- a point of the program's: a tracked tuple in lowest terms, not too wide -/
structure PtA (H : Hp) (a : Addr) (p : P3) : Prop where
  h : H a = some (.tup p.vs)
  pt : Pt p
  b : B3 1000 p
theorem PtA.mono {H H' : Hp} {a : Addr} {p : P3} (e : Same H H') (x : PtA H a p) : PtA H' a p := ⟨e _ _ x.h, x.pt, x.b⟩
theorem PtA.w0 {H : Hp} {a : Addr} {p : P3} (x : PtA H a p) : p.w ≠ 0 := by
  have := x.pt.w
  omega
section
variable {σ : L2.St} {H : Hp} {t : TA} {vs : List V} {D : Ends}
theorem st_chk (ha : ValA t σ H vs) (hl : vs.length ≤ 9) (hv : ∀ v ∈ vs, Pv H v true) (q : ∀ H', Same H H' → D.nx σ H') : tDrop (tCallR spChk E0 t) D σ H := by
  refine st_dropH (PV := fun v H' => Same H H') (fun Q q' => ?_) fun v H' e => q H' e
  refine ha _ ?_
  exact ⟨hl, hv, fun H' e => q' _ _ e⟩
end
end Q
set_option Elab.async false
set_option linter.all false
set_option maxRecDepth 100000
set_option maxHeartbeats 2000000
namespace PM
/-- p stands for (x, y, w): by one positive factor -/
def Of (p : P3) (x y w : Int) : Prop := ∃ g : Int, 0 < g ∧ x = g * p.x ∧ y = g * p.y ∧ w = g * p.w
theorem gc_mul (g x y w : Int) (hg : 0 ≤ g) : gc (g * x) (g * y) (g * w) = g * gc x y w := by
  unfold gc
  rw [Int.natAbs_mul, Int.natAbs_mul, Int.natAbs_mul, Nat.gcd_mul_left, Nat.gcd_mul_left, Int.natCast_mul, Int.natAbs_of_nonneg hg]
theorem low_of {x y w : Int} (h : w ≠ 0) : Of (low x y w) x y w := by
  obtain ⟨h1, h2, h3⟩ := gc_dvd x y w
  refine ⟨gc x y w, gc_pos h, ?_, ?_, ?_⟩
  · exact (Int.mul_ediv_cancel' h1).symm
  · exact (Int.mul_ediv_cancel' h2).symm
  · exact (Int.mul_ediv_cancel' h3).symm
theorem pos_of {g a : Int} (hg : 0 < g) (h : 0 < g * a) : 0 < a := by
  by_cases c : 0 < a
  · exact c
  · have : g * a ≤ g * 0 := Int.mul_le_mul_of_nonneg_left (by omega) (by omega)
    omega
theorem low_pt {x y w : Int} (h : 0 < w) : Pt (low x y w) := by
  have hg := gc_pos (x := x) (y := y) (w := w) (by omega)
  obtain ⟨h1, h2, h3⟩ := gc_dvd x y w
  have e1 := Int.mul_ediv_cancel' h1
  have e2 := Int.mul_ediv_cancel' h2
  have e3 := Int.mul_ediv_cancel' h3
  refine ⟨?_, ?_⟩
  · have : 0 < gc x y w * (w / gc x y w) := by rw [e3]; exact h
    have := pos_of hg this
    show 1 ≤ w / gc x y w
    omega
  · have k := gc_mul (gc x y w) (x / gc x y w) (y / gc x y w) (w / gc x y w) (by omega)
    rw [e1, e2, e3] at k
    have k2 : gc x y w * 1 = gc x y w * gc (x / gc x y w) (y / gc x y w) (w / gc x y w) := by omega
    exact (Int.eq_of_mul_eq_mul_left (by omega) k2).symm
/-- two points in lowest terms that stand for the same place are one -/
theorem pt_dvd {p q : P3} (hp : Pt p) (hq : Pt q) (h1 : p.x * q.w = q.x * p.w) (h2 : p.y * q.w = q.y * p.w) : p.w ∣ q.w := by
  have d1 : p.w ∣ q.w * p.x := ⟨q.x, by rw [Int.mul_comm q.w, h1, Int.mul_comm]⟩
  have d2 : p.w ∣ q.w * p.y := ⟨q.y, by rw [Int.mul_comm q.w, h2, Int.mul_comm]⟩
  have d3 : p.w ∣ q.w * p.w := ⟨q.w, Int.mul_comm _ _⟩
  have d : p.w ∣ gc (q.w * p.x) (q.w * p.y) (q.w * p.w) := by
    unfold gc
    apply Int.natAbs_dvd_natAbs.mp
    rw [Int.natAbs_natCast]
    exact Nat.dvd_gcd (Nat.dvd_gcd (Int.natAbs_dvd_natAbs.mpr d1) (Int.natAbs_dvd_natAbs.mpr d2)) (Int.natAbs_dvd_natAbs.mpr d3)
  rw [gc_mul _ _ _ _ (by have := hq.w; omega), hp.g, Int.mul_one] at d
  exact d
theorem pt_eq {p q : P3} (hp : Pt p) (hq : Pt q) (h1 : p.x * q.w = q.x * p.w) (h2 : p.y * q.w = q.y * p.w) : p = q := by
  have w1 := hp.w
  have w2 := hq.w
  have a := pt_dvd hp hq h1 h2
  have b := pt_dvd hq hp h1.symm h2.symm
  have e : p.w = q.w := Int.dvd_antisymm (by omega) (by omega) a b
  obtain ⟨px, py, pw⟩ := p
  obtain ⟨qx, qy, qw⟩ := q
  simp only at *
  subst e
  have e1 := Int.eq_of_mul_eq_mul_right (by omega) h1
  have e2 := Int.eq_of_mul_eq_mul_right (by omega) h2
  rw [e1, e2]
/-- what a point stands for fixes it -/
theorem of_eq {p q : P3} {x y w x' y' w' : Int} (hp : Pt p) (hq : Pt q) (op : Of p x y w) (oq : Of q x' y' w') (h1 : x * w' = x' * w) (h2 : y * w' = y' * w) : p = q := by
  obtain ⟨g, g0, a1, a2, a3⟩ := op
  obtain ⟨k, k0, b1, b2, b3⟩ := oq
  subst a1 a2 a3 b1 b2 b3
  have gk : g * k ≠ 0 := Int.mul_ne_zero (by omega) (by omega)
  refine pt_eq hp hq ?_ ?_
  · apply Int.eq_of_mul_eq_mul_left gk
    grind
  · apply Int.eq_of_mul_eq_mul_left gk
    grind
theorem of_scale {p : P3} {x y w k : Int} (h : Of p x y w) (hk : 0 < k) : Of p (k * x) (k * y) (k * w) := by
  obtain ⟨g, g0, e1, e2, e3⟩ := h
  exact ⟨k * g, Int.mul_pos hk g0, by rw [e1, Int.mul_assoc], by rw [e2, Int.mul_assoc], by rw [e3, Int.mul_assoc]⟩
theorem of_w {p : P3} {x y w : Int} (hp : Pt p) (h : Of p x y w) : 0 < w := by
  obtain ⟨g, g0, e1, e2, e3⟩ := h
  rw [e3]
  exact Int.mul_pos g0 (by have := hp.w; omega)
/-- the same place only if the cross products agree -/
theorem of_same {p : P3} {x y w x' y' w' : Int} (op : Of p x y w) (oq : Of p x' y' w') : x * w' = x' * w ∧ y * w' = y' * w := by
  obtain ⟨g, g0, a1, a2, a3⟩ := op
  obtain ⟨k, k0, b1, b2, b3⟩ := oq
  subst a1 a2 a3 b1 b2 b3
  constructor <;> grind
theorem sgn_mul_pos {g n : Int} (h : 0 < g) : sgn (g * n) = sgn n := by
  unfold sgn
  rcases Int.lt_trichotomy n 0 with c | c | c
  · have : g * n < 0 := Int.mul_neg_of_pos_of_neg h c
    rw [if_neg (by omega), if_pos this, if_neg (by omega), if_pos c]
  · subst c
    simp
  · have : 0 < g * n := Int.mul_pos h c
    rw [if_pos this, if_pos c]
theorem cr_ne {p q : P3} (hp : Pt p) (hq : Pt q) (h : p ≠ q) : (cr p q).x ≠ 0 ∨ (cr p q).y ≠ 0 ∨ (cr p q).w ≠ 0 := by
  by_cases h1 : (cr p q).x = 0
  · by_cases h2 : (cr p q).y = 0
    · exfalso
      refine h (pt_eq hp hq ?_ ?_)
      · have z : p.w * q.x - p.x * q.w = 0 := h2
        rw [Int.mul_comm q.x]
        omega
      · have z : p.y * q.w - p.w * q.y = 0 := h1
        rw [Int.mul_comm q.y]
        omega
    · exact .inr (.inl h2)
  · exact .inl h1
end PM
set_option Elab.async false
set_option linter.all false
set_option maxRecDepth 100000
set_option maxHeartbeats 2000000
namespace Q
open PySem L2 PySem.Spec PyProof.Rows PySem.Calls
open PM
def veTail : List Value := ["ValueError", "Exception", "BaseException", "object"].map Value.type
/-- the error's class as it is made and asked for -/
structure IOe (K : PySem.W.Frag) (mg : Str → Option Value) (C : Addr) : Prop where
  x : PySem.W.excIn K C veTail "ValueError.__new__" = true
  g : mg "InvalidOperation" = some (.ref C)
  kC : PySem.W.keepIn K (.ref C) = true
  be : PySem.W.subIn K (.ref C) (.type "BaseException") = some true
  typ : PySem.W.typeIn K (.ref C) = some (.type "type")
  me : PySem.W.exmOne K (.ref C) (.ref C) = some true
def dP (p : P3) : PyData := .tuple [.int p.x, .int p.y, .int p.w]
theorem dp_of {K : PySem.W.Frag} {H : Hp} {a : Addr} {p : P3} (h : H a = some (.tup p.vs)) : Dp K H (.ref a) (dP p) := .tup (SqT.of h) (.cons (.int _) (.cons (.int _) (.cons (.int _) .nil)))
theorem shaped_dP (p : P3) : SeqAt.shaped (dP p) = true := rfl
theorem eqv_dP (p q : P3) : PyData.eqv (dP p) (dP q) = true ↔ p = q := by
  obtain ⟨a, b, c⟩ := p
  obtain ⟨d, e, f⟩ := q
  have z : PyData.eqv (dP ⟨a, b, c⟩) (dP ⟨d, e, f⟩) = (a == d && (b == e && (c == f && true))) := by
    unfold dP
    simp [PyData.eqv, PyData.eqvAll]
  rw [z]
  simp
theorem eqv_dPb (p q : P3) [Decidable (p = q)] : PyData.eqv (dP p) (dP q) = decide (p = q) := by
  by_cases h : p = q
  · rw [decide_eq_true h]
    exact (eqv_dP p q).mpr h
  · rw [decide_eq_false h]
    exact Bool.eq_false_iff.mpr fun z => h ((eqv_dP p q).mp z)
theorem B3.line {p q : P3} (b : B3 1000 p) (c : B3 1000 q) : B3 2001 (lineOf p q) := by
  have z := B3.cr b c
  exact B3.low z.x z.y z.w
theorem st_chkS {σ : L2.St} {H : Hp} {t : TA} {vs : List V} {D : Ends} {u : TS} (ha : ValA t σ H vs) (hl : vs.length ≤ 9) (hv : ∀ v ∈ vs, Pv H v true) (q : ∀ H', Same H H' → u D σ H') : tSeq (tDrop (tCallR spChk E0 t)) u D σ H :=
  st_seq (st_chk ha hl hv q)
end Q
set_option Elab.async false
set_option linter.all false
set_option maxRecDepth 100000
set_option maxHeartbeats 2000000
namespace PM
/-- a frame: a point with any bottom, two steps -/
structure Fr where
  X : Int
  Y : Int
  W : Int
  o0 : Int
  o1 : Int
  t0 : Int
  t1 : Int
def Fr.k (φ : Fr) : Int := φ.o0 * φ.t1 - φ.o1 * φ.t0
def spX (φ : Fr) (a b v : Int) : Int := φ.X * v + (a * φ.o0 + b * φ.t0) * φ.W
def spY (φ : Fr) (a b v : Int) : Int := φ.Y * v + (a * φ.o1 + b * φ.t1) * φ.W
def spot (φ : Fr) (a b v : Int) : P3 := low (spX φ a b v) (spY φ a b v) (φ.W * v)
def sense (φ : Fr) : Int := if φ.o0 * φ.t1 > φ.o1 * φ.t0 then 1 else -1
end PM
namespace Q
open PySem L2 PySem.Spec PyProof.Rows PySem.Calls
open PM
abbrev sShared : Stmt := top 36
abbrev sPoint : Stmt := top 37
abbrev sSpot : Stmt := top 39
structure FrB (φ : Fr) : Prop where
  X : Bd 100 φ.X
  Y : Bd 100 φ.Y
  W : Bd 100 φ.W
  o0 : Bd 100 φ.o0
  o1 : Bd 100 φ.o1
  t0 : Bd 100 φ.t0
  t1 : Bd 100 φ.t1
  w : 1 ≤ φ.W
  k : φ.k ≠ 0
/-- where a frame lies -/
structure FrA (H : Hp) (a s o t : Addr) (φ : Fr) : Prop where
  a : H a = some (.tup [.ref s, .ref o, .ref t])
  s : H s = some (.lst [.int φ.X, .int φ.Y, .int φ.W])
  o : H o = some (.tup [.int φ.o0, .int φ.o1])
  t : H t = some (.tup [.int φ.t0, .int φ.t1])
  b : FrB φ
theorem FrA.mono {H H' : Hp} {a s o t : Addr} {φ : Fr} (e : Same H H') (x : FrA H a s o t φ) : FrA H' a s o t φ := ⟨e _ _ x.a, e _ _ x.s, e _ _ x.o, e _ _ x.t, x.b⟩
def spShared : Sp := fun vs H Q _ => ∃ a b : Int, vs = [.int a, .int b] ∧ Q (.int ((Nat.gcd a.natAbs b.natAbs : Nat) : Int)) H
def spPoint : Sp := fun vs H Q _ => ∃ x y w : Int, vs = [.int x, .int y, .int w] ∧ 0 < w ∧ Bd 6000 w ∧ ∀ l H', H l = none → Same H H' → H' l = some (.tup (low x y w).vs) → Q (.ref l) H'
def spLSign : Sp := fun vs H Q _ => ∃ n : Int, vs = [.int n] ∧ Q (.int (sgn n)) H
def spSense : Sp := fun vs H Q _ => ∃ (a s o t : Addr) (φ : Fr), vs = [.ref a] ∧ FrA H a s o t φ ∧ Q (.int (sense φ)) H
def spSpot : Sp := fun vs H Q _ => ∃ (a s o t : Addr) (φ : Fr) (m n v : Int), vs = [.ref a, .int m, .int n, .int v] ∧ FrA H a s o t φ ∧ Bd 80 m ∧ Bd 80 n ∧ Bd 10 v ∧ 1 ≤ v ∧
  ∀ l H', H l = none → Same H H' → PtA H' l (spot φ m n v) → Q (.ref l) H'
structure TL (mg : Str → Option Value) : Prop extends TB mg where
  min : mg "min" = none
  tuple : mg "tuple" = none
  repr : mg "repr" = none
section
variable {P : Program} {w : World} {K : PySem.W.Frag} {mg : Str → Option Value} {base : Heap}
theorem scShared : FnScope ["one", "other", "big", "low"] ["one", "other"] (defScope sShared) := ⟨rfl, rfl, rfl, by decide +kernel, rfl, by decide +kernel, by decide +kernel⟩
theorem ok_shared {f : Addr} {fd : FuncData} (F : Fun K "_law_shared" "_law_shared" sShared f fd) (T : TB mg) : FnOk P w K mg base CX0 1 f fd ["one", "other"] spShared := by
  refine F.ok scShared (fun vs H Q E h => ?_) (fun cdv A outer s H vs Q E hr h => ?_)
  · obtain ⟨a, b, rfl, _⟩ := h
    rfl
  · obtain ⟨a, b, rfl, k⟩ := h
    refine ⟨_, (pss_cons (ps_par (i := 2) (j := 3) (by rfl) scShared.nd rfl rfl (by decide) rfl rfl (pa_cons (pe_callB call_abs (by rfl) T.abs (by decide +kernel) (pa_cons (pv 0) pa_nil)) (pa_cons (pe_callB call_abs (by rfl) T.abs (by decide +kernel) (pa_cons (pv 1) pa_nil)) pa_nil)) (by rfl))
      (pss_cons (ps_while PassesOwn.never (pt_cmpR op_gt (pv 3) pe_int (nomark _)) (pss_one (ps_par (i := 2) (j := 3) (by rfl) scShared.nd rfl rfl (by decide) rfl rfl (pa_cons (pv 3) (pa_cons (pe_op op_mod (pe_callTy call_int1 (by rfl) T.int (by decide +kernel) (pa_cons (pv 2) pa_nil)) (pv 3)) pa_nil)) (by rfl))))
      (pss_one (ps_ret (pv 2))))), ?_⟩
    have ab : ∀ i : Int, (if i < 0 then -i else i) = ((i.natAbs : Nat) : Int) := fun i => by
      split <;> omega
    refine ⟨_, rfl, _, rfl, _, rfl, _, rfl, _, _, rfl, ?_⟩
    rw [ab a, ab b]
    refine while_by (fun σ H' => H' = H ∧ ∃ m n : Nat, Nat.gcd m n = Nat.gcd a.natAbs b.natAbs ∧ σ = [some (.int a), some (.int b), some (.int (m : Int)), some (.int (n : Int))]) (fun σ _ => match σ with | [_, _, _, some (.int n)] => n.toNat | _ => 0) ⟨rfl, _, _, rfl, rfl⟩ ?_ ?_
    · rintro σ H' ⟨rfl, m, n, hg, rfl⟩
      refine ⟨_, rfl, _, _, rfl, rfl, _, rfl, ?_⟩
      refine ite2 (fun c => ?_) (fun c => ?_)
      · have c : (0 : Int) < (n : Int) := of_decide_eq_true c
        refine ⟨_, rfl, _, rfl, .inl ⟨_, rfl, _, rfl, _, _, rfl, rfl, c, _, _, rfl, ⟨rfl, n, m % n, ?_, ?_⟩, ?_⟩⟩
        · rw [← hg, Nat.gcd_comm m n, Nat.gcd_rec n m, Nat.gcd_comm]
        · rfl
        · show ((m : Int) % (n : Int)).toNat < ((n : Int)).toNat
          have h1 := Int.emod_lt_of_pos (m : Int) c
          have h2 := Int.emod_nonneg (m : Int) (by omega : (n : Int) ≠ 0)
          omega
      · have c := no_dec c
        have n0 : n = 0 := by omega
        subst n0
        rw [Nat.gcd_zero_right] at hg
        refine ⟨_, rfl, ?_⟩
        rw [hg]
        exact k
    · rintro σ H' Q1 Q2 hm ⟨v, hv, i, j, e1, e2, b, eb, q⟩
      exact ⟨v, hv, i, j, e1, e2, b, eb, hm _ _ q⟩
theorem scPoint : FnScope ["x", "y", "w", "shared"] ["x", "y", "w"] (defScope sPoint) := ⟨rfl, rfl, rfl, by decide +kernel, rfl, by decide +kernel, by decide +kernel⟩
theorem ok_point {f : Addr} {fd : FuncData} (F : Fun K "_law_point" "_law_point" sPoint f fd) (CS : Cl P w K mg base 1 "_law_shared" spShared) : FnOk P w K mg base CX0 2 f fd ["x", "y", "w"] spPoint := by
  refine F.ok scPoint (fun vs H Q E h => ?_) (fun cdv A outer s H vs Q E hr h => ?_)
  · obtain ⟨x, y, w, rfl, _⟩ := h
    rfl
  · obtain ⟨x, y, w, rfl, hw, bw, k⟩ := h
    refine ⟨_, (pss_cons (ps_set (i := 3) scPoint.nd rfl (Or.inl rfl) (pe_cl CS hr (by decide) (by rfl) (pa_cons (pe_cl CS hr (by decide) (by rfl) (pa_cons (pv 0) (pa_cons (pv 1) pa_nil))) (pa_cons (pv 2) pa_nil))))
      (pss_one (ps_ret (pe_tup (pa_cons (pe_op op_dv (pv 0) (pv 3)) (pa_cons (pe_op op_dv (pv 1) (pv 3)) (pa_cons (pe_op op_dv (pv 2) (pv 3)) pa_nil))))))), ?_⟩
    have g0 : gc x y w ≠ 0 := by
      have := gc_pos (x := x) (y := y) (w := w) (by omega)
      omega
    have gl : (gc x y w).natAbs.log2 < 9000 := (bw.of_le (gc_le (by omega))).log (by decide)
    refine st_seq (st_set (v := .int (gc x y w)) (val_call (val_pair (val_call (val_pair (val_var rfl) (val_var rfl)) fun Q q => ⟨_, _, rfl, q⟩) (val_var rfl)) fun Q q => ⟨_, _, rfl, ?_⟩) ?_)
    · rw [Int.natAbs_natCast]
      exact q
    refine ret_h (vh_tup (va_cons (val_dv (val_var rfl) (val_var rfl) g0 gl) (va_cons (val_dv (val_var rfl) (val_var rfl) g0 gl) (va_cons (val_dv (val_var rfl) (val_var rfl) g0 gl) va_nil))) (by show 3 ≤ sizeLine; decide)
      (PV := fun v H' => ∃ l, v = .ref l ∧ H l = none ∧ H' = upd H l (.tup (low x y w).vs)) fun l hl => ⟨l, rfl, hl, ?_⟩) ?_
    · rw [low_fd]
      rfl
    · rintro v H' ⟨l, rfl, hl, rfl⟩
      exact k l _ hl (same_new hl) upd_same
theorem val_ix2 {σ : L2.St} {H : Hp} {te : TE} {a b : Addr} {xs ys : List V} {i j : Int} {v : V} (h : Val te σ H (.ref a)) (ha : H a = some (.tup xs)) (hi : atI xs i = some (.ref b)) (hb : H b = some (.tup ys)) (hj : atI ys j = some v) :
    Val (tOp (rIxT K) (tOp (rIxT K) te (tC (.int i))) (tC (.int j))) σ H v :=
  val_op (val_op h val_c fun _ q => ⟨_, _, _, _, rfl, rfl, SqT.of ha, hi, q⟩) val_c fun _ q => ⟨_, _, _, _, rfl, rfl, SqT.of hb, hj, q⟩
theorem scSpot : FnScope ["frame", "part", "other", "over", "spot", "one", "two", "x", "y"] ["frame", "part", "other", "over"] (defScope sSpot) := ⟨rfl, rfl, rfl, by decide +kernel, rfl, by decide +kernel, by decide +kernel⟩
end
end Q
set_option Elab.async false
set_option linter.all false
set_option maxRecDepth 100000
set_option maxHeartbeats 2000000
namespace PM
theorem sgn_mul (m n : Int) : sgn (m * n) = sgn m * sgn n := by
  unfold sgn
  rcases Int.lt_trichotomy m 0 with c | c | c
  · rcases Int.lt_trichotomy n 0 with d | d | d
    · have := Int.mul_pos_of_neg_of_neg c d
      rw [if_pos this, if_neg (by omega), if_pos c, if_neg (by omega), if_pos d]; rfl
    · subst d; simp
    · have := Int.mul_neg_of_neg_of_pos c d
      rw [if_neg (by omega), if_pos this, if_neg (by omega), if_pos c, if_pos d]; rfl
  · subst c; simp
  · rcases Int.lt_trichotomy n 0 with d | d | d
    · have := Int.mul_neg_of_pos_of_neg c d
      rw [if_neg (by omega), if_pos this, if_pos c, if_neg (by omega), if_pos d]; rfl
    · subst d; simp
    · have := Int.mul_pos c d
      rw [if_pos this, if_pos c, if_pos d]; rfl
theorem sgn_neg (n : Int) : sgn (-n) = - sgn n := by
  have := sgn_mul (-1) n
  rw [Int.neg_one_mul] at this
  rw [this]
  show -1 * sgn n = _
  rw [Int.neg_one_mul]
theorem sgn_zero {n : Int} : sgn n = 0 ↔ n = 0 := by
  unfold sgn
  constructor
  · intro h
    split at h
    · omega
    · split at h <;> omega
  · intro h; subst h; rfl
theorem det_cyc (p q r : P3) : det q r p = det p q r := by simp only [det, dot, cr]; grind
theorem det_swap (p q r : P3) : det q p r = -det p q r := by simp only [det, dot, cr]; grind
theorem det_s1 (p q : P3) : det p p q = 0 := by simp only [det, dot, cr]; grind
theorem det_s2 (p q : P3) : det p q p = 0 := by simp only [det, dot, cr]; grind
theorem det_swap2 (p q r : P3) : det p r q = -det p q r := by simp only [det, dot, cr]; grind
theorem det_swap3 (p q r : P3) : det r q p = -det p q r := by simp only [det, dot, cr]; grind
theorem spot_Of {φ : Fr} (hw : 1 ≤ φ.W) (a b v : Int) (hv : 1 ≤ v) : Of (spot φ a b v) (spX φ a b v) (spY φ a b v) (φ.W * v) := by
  have : 0 < φ.W * v := Int.mul_pos (by omega) (by omega)
  exact low_of (by omega)
theorem spot_Pt {φ : Fr} (hw : 1 ≤ φ.W) (a b v : Int) (hv : 1 ≤ v) : Pt (spot φ a b v) := low_pt (Int.mul_pos (by omega) (by omega))
theorem det_raw (φ : Fr) (a b c d e f v : Int) : det ⟨spX φ a b v, spY φ a b v, φ.W * v⟩ ⟨spX φ c d v, spY φ c d v, φ.W * v⟩ ⟨spX φ e f v, spY φ e f v, φ.W * v⟩ =
    (φ.W * v * (φ.W * φ.W)) * (((c - a) * (f - b) - (d - b) * (e - a)) * φ.k) := by
  simp only [det, dot, cr, spX, spY, Fr.k]; grind
theorem det_of {p q r : P3} {x1 y1 w1 x2 y2 w2 x3 y3 w3 : Int} (h1 : Of p x1 y1 w1) (h2 : Of q x2 y2 w2) (h3 : Of r x3 y3 w3) : ∃ g : Int, 0 < g ∧ det ⟨x1, y1, w1⟩ ⟨x2, y2, w2⟩ ⟨x3, y3, w3⟩ = g * det p q r := by
  obtain ⟨a, a0, rfl, rfl, rfl⟩ := h1
  obtain ⟨b, b0, rfl, rfl, rfl⟩ := h2
  obtain ⟨c, c0, rfl, rfl, rfl⟩ := h3
  refine ⟨a * b * c, Int.mul_pos (Int.mul_pos a0 b0) c0, ?_⟩
  simp only [det, dot, cr]; grind
theorem sense_sgn {φ : Fr} (h : φ.k ≠ 0) : sense φ = sgn φ.k := by
  unfold sense sgn
  unfold Fr.k at *
  split
  · rw [if_pos (by omega)]
  · rw [if_neg (by omega), if_pos (by omega)]
theorem sgn_det {φ : Fr} (hw : 1 ≤ φ.W) (hk : φ.k ≠ 0) (a b c d e f v : Int) (hv : 1 ≤ v) : sgn (det (spot φ a b v) (spot φ c d v) (spot φ e f v)) = sgn ((c - a) * (f - b) - (d - b) * (e - a)) * sense φ := by
  obtain ⟨g, g0, hg⟩ := det_of (spot_Of hw a b v hv) (spot_Of hw c d v hv) (spot_Of hw e f v hv)
  rw [det_raw] at hg
  have z := sgn_mul_pos (n := det (spot φ a b v) (spot φ c d v) (spot φ e f v)) g0
  have w0 : 0 < φ.W * v * (φ.W * φ.W) := Int.mul_pos (Int.mul_pos (by omega) (by omega)) (Int.mul_pos (by omega) (by omega))
  rw [← hg, sgn_mul_pos w0, sgn_mul, ← sense_sgn hk] at z
  exact z.symm
end PM
namespace PM
theorem lowS_pos {x y w : Int} (h : 0 < w) : lowS x y w = low x y w := by
  unfold lowS
  rw [if_neg (by omega)]
/-- raw points -/
def bet (p q r : P3) : Bool := if sgn (det q r p) ≠ 0 then false else decide (dx p q * dx p r + dy p q * dy p r ≤ 0)
theorem mul_le0 {g n : Int} (h : 0 < g) : g * n ≤ 0 ↔ n ≤ 0 := by
  constructor
  · intro z
    by_cases c : n ≤ 0
    · exact c
    · have := Int.mul_pos h (by omega : 0 < n)
      omega
  · intro z
    exact Int.mul_nonpos_of_nonneg_of_nonpos (by omega) z
theorem between_of {p q r : P3} {x1 y1 w1 x2 y2 w2 x3 y3 w3 : Int} (hp : Pt p) (hq : Pt q) (hr : Pt r) (h1 : Of p x1 y1 w1) (h2 : Of q x2 y2 w2) (h3 : Of r x3 y3 w3) : between p q r = bet ⟨x1, y1, w1⟩ ⟨x2, y2, w2⟩ ⟨x3, y3, w3⟩ := by
  obtain ⟨g, g0, hg⟩ := det_of h2 h3 h1
  obtain ⟨a, a0, rfl, rfl, rfl⟩ := h1
  obtain ⟨b, b0, rfl, rfl, rfl⟩ := h2
  obtain ⟨c, c0, rfl, rfl, rfl⟩ := h3
  unfold between bet
  rw [hg, sgn_mul_pos g0]
  have e : dx ⟨a * p.x, a * p.y, a * p.w⟩ ⟨b * q.x, b * q.y, b * q.w⟩ * dx ⟨a * p.x, a * p.y, a * p.w⟩ ⟨c * r.x, c * r.y, c * r.w⟩ + dy ⟨a * p.x, a * p.y, a * p.w⟩ ⟨b * q.x, b * q.y, b * q.w⟩ * dy ⟨a * p.x, a * p.y, a * p.w⟩ ⟨c * r.x, c * r.y, c * r.w⟩ =
      (a * b * (a * c)) * (dx p q * dx p r + dy p q * dy p r) := by
    simp only [dx, dy]; grind
  rw [e]
  have k : 0 < a * b * (a * c) := Int.mul_pos (Int.mul_pos a0 b0) (Int.mul_pos a0 c0)
  have z := mul_le0 (n := dx p q * dx p r + dy p q * dy p r) k
  split
  · rfl
  · exact decide_eq_decide.mpr z.symm
def raw (φ : Fr) (a b v : Int) : P3 := ⟨spX φ a b v, spY φ a b v, φ.W * v⟩
theorem between_spot {φ : Fr} (hw : 1 ≤ φ.W) {a b c d e f u v t : Int} (hu : 1 ≤ u) (hv : 1 ≤ v) (ht : 1 ≤ t) : between (spot φ a b u) (spot φ c d v) (spot φ e f t) = bet (raw φ a b u) (raw φ c d v) (raw φ e f t) :=
  between_of (spot_Pt hw a b u hu) (spot_Pt hw c d v hv) (spot_Pt hw e f t ht) (spot_Of hw a b u hu) (spot_Of hw c d v hv) (spot_Of hw e f t ht)
theorem sq_nn (x : Int) : 0 ≤ x * x := by
  rcases Int.le_total 0 x with h | h
  · exact Int.mul_nonneg h h
  · exact Int.mul_nonneg_of_nonpos_of_nonpos h h
theorem sq_p {x : Int} (h : x ≠ 0) : 0 < x * x := by
  rcases Int.lt_or_gt_of_ne h with c | c
  · exact Int.mul_pos_of_neg_of_neg c c
  · exact Int.mul_pos c c
theorem o_pos {φ : Fr} (h : φ.k ≠ 0) : 0 < φ.o0 * φ.o0 + φ.o1 * φ.o1 := by
  by_cases c : φ.o0 = 0
  · by_cases d : φ.o1 = 0
    · exact absurd (by unfold Fr.k; rw [c, d]; simp) h
    · have := sq_p d
      have := sq_nn φ.o0
      omega
  · have := sq_p c
    have := sq_nn φ.o1
    omega
theorem bet_zero {p q r : P3} (h : det q r p = 0) : bet p q r = decide (dx p q * dx p r + dy p q * dy p r ≤ 0) := by
  unfold bet
  rw [h, if_neg (by simp [sgn])]
theorem mm (a b c : Int) : (a - c) * (b - c) ≤ 0 ↔ min a b ≤ c ∧ c ≤ max a b := by
  constructor
  · intro h
    by_cases h1 : 0 < a - c
    · by_cases h2 : 0 < b - c
      · have := Int.mul_pos h1 h2
        omega
      · omega
    · by_cases h2 : b - c < 0
      · by_cases h3 : a - c < 0
        · have := Int.mul_pos_of_neg_of_neg h3 h2
          omega
        · omega
      · omega
  · rintro ⟨h1, h2⟩
    rcases Int.le_total a b with h | h
    · exact Int.mul_nonpos_of_nonpos_of_nonneg (by omega) (by omega)
    · exact Int.mul_nonpos_of_nonneg_of_nonpos (by omega) (by omega)
theorem bet_line {φ : Fr} (hw : 1 ≤ φ.W) (hk : φ.k ≠ 0) {a b c v : Int} (hv : 1 ≤ v) : between (spot φ c 0 v) (spot φ a 0 v) (spot φ b 0 v) = decide (min a b ≤ c ∧ c ≤ max a b) := by
  rw [between_spot hw hv hv hv, bet_zero (by simp only [det, dot, cr, raw, spX, spY]; grind)]
  refine decide_eq_decide.mpr ?_
  rw [← mm]
  have e : dx (raw φ c 0 v) (raw φ a 0 v) * dx (raw φ c 0 v) (raw φ b 0 v) + dy (raw φ c 0 v) (raw φ a 0 v) * dy (raw φ c 0 v) (raw φ b 0 v) =
      (φ.W * v * φ.W * (φ.W * v * φ.W) * (φ.o0 * φ.o0 + φ.o1 * φ.o1)) * ((a - c) * (b - c)) := by
    simp only [dx, dy, raw, spX, spY]; grind
  rw [e]
  have w1 : 0 < φ.W * v * φ.W := Int.mul_pos (Int.mul_pos (by omega) (by omega)) (by omega)
  exact mul_le0 (Int.mul_pos (Int.mul_pos w1 w1) (o_pos hk))
theorem bet_side {φ : Fr} (hw : 1 ≤ φ.W) (hk : φ.k ≠ 0) {a b c s v : Int} (hv : 1 ≤ v) (hs : s ≠ 0) : between (spot φ c s v) (spot φ a 0 v) (spot φ b 0 v) = false := by
  rw [between_spot hw hv hv hv]
  have w1 : 0 < φ.W * v * φ.W := Int.mul_pos (Int.mul_pos (by omega) (by omega)) (by omega)
  by_cases h : a = b
  · subst h
    rw [bet_zero (by simp only [det, dot, cr, raw, spX, spY]; grind)]
    refine decide_eq_false fun z => ?_
    have e : dx (raw φ c s v) (raw φ a 0 v) * dx (raw φ c s v) (raw φ a 0 v) + dy (raw φ c s v) (raw φ a 0 v) * dy (raw φ c s v) (raw φ a 0 v) =
        (φ.W * v * φ.W * (φ.W * v * φ.W)) * (((a - c) * φ.o0 - s * φ.t0) * ((a - c) * φ.o0 - s * φ.t0) + ((a - c) * φ.o1 - s * φ.t1) * ((a - c) * φ.o1 - s * φ.t1)) := by
      simp only [dx, dy, raw, spX, spY]; grind
    rw [e, mul_le0 (Int.mul_pos w1 w1)] at z
    have n1 := sq_nn ((a - c) * φ.o0 - s * φ.t0)
    have n2 := sq_nn ((a - c) * φ.o1 - s * φ.t1)
    have z1 : (a - c) * φ.o0 - s * φ.t0 = 0 := by
      by_cases q : (a - c) * φ.o0 - s * φ.t0 = 0
      · exact q
      · have := sq_p q
        omega
    have z2 : (a - c) * φ.o1 - s * φ.t1 = 0 := by
      by_cases q : (a - c) * φ.o1 - s * φ.t1 = 0
      · exact q
      · have := sq_p q
        omega
    have : s * φ.k = 0 := by unfold Fr.k; grind
    rcases Int.mul_eq_zero.mp this with q | q
    · exact hs q
    · exact hk q
  · have e : det (raw φ a 0 v) (raw φ b 0 v) (raw φ c s v) = (φ.W * v * (φ.W * φ.W)) * ((b - a) * s * φ.k) := by
      simp only [det, dot, cr, raw, spX, spY, Fr.k]; grind
    unfold bet
    rw [if_pos]
    intro z
    rw [sgn_zero, e] at z
    have w0 : φ.W * v * (φ.W * φ.W) ≠ 0 := by
      have := Int.mul_pos (Int.mul_pos (by omega : 0 < φ.W) (by omega : 0 < v)) (Int.mul_pos (by omega : 0 < φ.W) (by omega : 0 < φ.W))
      omega
    exact Int.mul_ne_zero w0 (Int.mul_ne_zero (Int.mul_ne_zero (by omega) hs) hk) z
theorem half_Of {p q : P3} (hp : Pt p) (hq : Pt q) {x1 y1 w1 x2 y2 w2 : Int} (h1 : Of p x1 y1 w1) (h2 : Of q x2 y2 w2) : Of (half p q) (x1 * w2 + x2 * w1) (y1 * w2 + y2 * w1) (2 * w1 * w2) ∧ Pt (half p q) := by
  have a := hp.w
  have b := hq.w
  have w0 : 0 < 2 * p.w * q.w := Int.mul_pos (by omega) (by omega)
  unfold half
  rw [lowS_pos w0]
  refine ⟨?_, low_pt w0⟩
  obtain ⟨g, g0, rfl, rfl, rfl⟩ := h1
  obtain ⟨k, k0, rfl, rfl, rfl⟩ := h2
  have z := of_scale (low_of (x := p.x * q.w + q.x * p.w) (y := p.y * q.w + q.y * p.w) (w := 2 * p.w * q.w) (by omega)) (Int.mul_pos g0 k0)
  have e1 : g * k * (p.x * q.w + q.x * p.w) = g * p.x * (k * q.w) + k * q.x * (g * p.w) := by grind
  have e2 : g * k * (p.y * q.w + q.y * p.w) = g * p.y * (k * q.w) + k * q.y * (g * p.w) := by grind
  have e3 : g * k * (2 * p.w * q.w) = 2 * (g * p.w) * (k * q.w) := by grind
  rw [e1, e2, e3] at z
  exact z
theorem half_spot {φ : Fr} (hw : 1 ≤ φ.W) {a b v : Int} (hv : 1 ≤ v) : half (spot φ a 0 v) (spot φ b 0 v) = spot φ (a + b) 0 (2 * v) := by
  obtain ⟨h1, h2⟩ := half_Of (spot_Pt hw a 0 v hv) (spot_Pt hw b 0 v hv) (spot_Of hw a 0 v hv) (spot_Of hw b 0 v hv)
  refine of_eq h2 (spot_Pt hw (a + b) 0 (2 * v) (by omega)) h1 (spot_Of hw (a + b) 0 (2 * v) (by omega)) ?_ ?_
  · simp only [spX]; grind
  · simp only [spY]; grind
theorem bet_half {φ : Fr} (hw : 1 ≤ φ.W) {a b v : Int} (hv : 1 ≤ v) : between (spot φ (a + b) 0 (2 * v)) (spot φ a 0 v) (spot φ b 0 v) = true := by
  rw [between_spot hw (by omega) hv hv, bet_zero (by simp only [det, dot, cr, raw, spX, spY]; grind)]
  refine decide_eq_true ?_
  have e : dx (raw φ (a + b) 0 (2 * v)) (raw φ a 0 v) * dx (raw φ (a + b) 0 (2 * v)) (raw φ b 0 v) + dy (raw φ (a + b) 0 (2 * v)) (raw φ a 0 v) * dy (raw φ (a + b) 0 (2 * v)) (raw φ b 0 v) =
      - ((φ.W * v * φ.W * (a - b) * φ.o0) * (φ.W * v * φ.W * (a - b) * φ.o0) + (φ.W * v * φ.W * (a - b) * φ.o1) * (φ.W * v * φ.W * (a - b) * φ.o1)) := by
    simp only [dx, dy, raw, spX, spY]; grind
  rw [e]
  have n1 := sq_nn (φ.W * v * φ.W * (a - b) * φ.o0)
  have n2 := sq_nn (φ.W * v * φ.W * (a - b) * φ.o1)
  omega
theorem bet_end (p r : P3) : between p p r = true := by
  unfold between
  rw [det_s2, if_neg (by simp [sgn])]
  refine decide_eq_true ?_
  have : dx p p * dx p r + dy p p * dy p r = 0 := by simp only [dx, dy]; grind
  omega
end PM
namespace PM
def lowp (t b : Int) : Int × Int := (t / ((Nat.gcd t.natAbs b.natAbs : Nat) : Int), b / ((Nat.gcd t.natAbs b.natAbs : Nat) : Int))
theorem g2_pos {t b : Int} (h : 0 < b) : 0 < ((Nat.gcd t.natAbs b.natAbs : Nat) : Int) := by
  have : 0 < Nat.gcd t.natAbs b.natAbs := Nat.gcd_pos_of_pos_right _ (by omega)
  omega
/-- a fraction in lowest terms is told by its worth -/
theorem lowp_eq {t b t' b' : Int} (h : 0 < b) (h' : 0 < b') (e : t * b' = t' * b) : lowp t b = lowp t' b' := by
  have p1 : low t 0 b = low t' 0 b' := of_eq (low_pt h) (low_pt h') (low_of (by omega)) (low_of (by omega)) e (by simp)
  have gg : ∀ t b : Int, gc t 0 b = ((Nat.gcd t.natAbs b.natAbs : Nat) : Int) := fun t b => by
    unfold gc
    simp
  unfold low at p1
  rw [gg, gg] at p1
  injection p1 with q1 q2 q3
  unfold lowp
  rw [q1, q3]
theorem dxy_of {p q : P3} {x1 y1 w1 x2 y2 w2 : Int} (h1 : Of p x1 y1 w1) (h2 : Of q x2 y2 w2) : ∃ g : Int, 0 < g ∧ dx ⟨x1, y1, w1⟩ ⟨x2, y2, w2⟩ = g * dx p q ∧ dy ⟨x1, y1, w1⟩ ⟨x2, y2, w2⟩ = g * dy p q ∧ w1 * w2 = g * (p.w * q.w) := by
  obtain ⟨a, a0, rfl, rfl, rfl⟩ := h1
  obtain ⟨b, b0, rfl, rfl, rfl⟩ := h2
  refine ⟨a * b, Int.mul_pos a0 b0, ?_, ?_, ?_⟩
  · simp only [dx]; grind
  · simp only [dy]; grind
  · grind
theorem sq_spot {φ : Fr} (hw : 1 ≤ φ.W) {a b c d v : Int} (hv : 1 ≤ v) :
    lowp (dx (spot φ a b v) (spot φ c d v) * dx (spot φ a b v) (spot φ c d v) + dy (spot φ a b v) (spot φ c d v) * dy (spot φ a b v) (spot φ c d v)) (((spot φ a b v).w * (spot φ c d v).w) ^ 2) =
    lowp (((a - c) * φ.o0 + (b - d) * φ.t0) * ((a - c) * φ.o0 + (b - d) * φ.t0) + ((a - c) * φ.o1 + (b - d) * φ.t1) * ((a - c) * φ.o1 + (b - d) * φ.t1)) (v * v) := by
  obtain ⟨g, g0, e1, e2, e3⟩ := dxy_of (spot_Of hw a b v hv) (spot_Of hw c d v hv)
  have w1 := (spot_Pt hw a b v hv).w
  have w2 := (spot_Pt hw c d v hv).w
  have f1 : dx ⟨spX φ a b v, spY φ a b v, φ.W * v⟩ ⟨spX φ c d v, spY φ c d v, φ.W * v⟩ = - (φ.W * v * φ.W * ((a - c) * φ.o0 + (b - d) * φ.t0)) := by simp only [dx, spX]; grind
  have f2 : dy ⟨spX φ a b v, spY φ a b v, φ.W * v⟩ ⟨spX φ c d v, spY φ c d v, φ.W * v⟩ = - (φ.W * v * φ.W * ((a - c) * φ.o1 + (b - d) * φ.t1)) := by simp only [dy, spY]; grind
  rw [f1] at e1
  rw [f2] at e2
  generalize dx (spot φ a b v) (spot φ c d v) = X at e1 ⊢
  generalize dy (spot φ a b v) (spot φ c d v) = Y at e2 ⊢
  have pw : ((spot φ a b v).w * (spot φ c d v).w) ^ 2 = ((spot φ a b v).w * (spot φ c d v).w) * ((spot φ a b v).w * (spot φ c d v).w) := by grind
  rw [pw]
  have pp : 0 < (spot φ a b v).w * (spot φ c d v).w := Int.mul_pos (by omega) (by omega)
  generalize (spot φ a b v).w * (spot φ c d v).w = Z at e3 pp ⊢
  refine lowp_eq (Int.mul_pos pp pp) (Int.mul_pos (by omega) (by omega)) ?_
  have gg : g * g ≠ 0 := Int.mul_ne_zero (by omega) (by omega)
  apply Int.eq_of_mul_eq_mul_left gg
  generalize (a - c) * φ.o0 + (b - d) * φ.t0 = x at *
  generalize (a - c) * φ.o1 + (b - d) * φ.t1 = y at *
  have h1 : g * g * ((X * X + Y * Y) * (v * v)) = ((g * X) * (g * X) + (g * Y) * (g * Y)) * (v * v) := by grind
  have h2 : g * g * ((x * x + y * y) * (Z * Z)) = (x * x + y * y) * ((g * Z) * (g * Z)) := by grind
  rw [h1, h2, ← e1, ← e2, ← e3]
  grind
/-- lines -/
theorem cr_of {p q : P3} {x1 y1 w1 x2 y2 w2 : Int} (hp : Pt p) (hq : Pt q) (hn : p ≠ q) (h1 : Of p x1 y1 w1) (h2 : Of q x2 y2 w2) : ∃ g : Int, 0 < g ∧ (cr ⟨x1, y1, w1⟩ ⟨x2, y2, w2⟩).x = g * (lineOf p q).x ∧ (cr ⟨x1, y1, w1⟩ ⟨x2, y2, w2⟩).y = g * (lineOf p q).y ∧ (cr ⟨x1, y1, w1⟩ ⟨x2, y2, w2⟩).w = g * (lineOf p q).w := by
  obtain ⟨a, a0, rfl, rfl, rfl⟩ := h1
  obtain ⟨b, b0, rfl, rfl, rfl⟩ := h2
  have c0 := gc_pos' (cr_ne hp hq hn)
  obtain ⟨d1, d2, d3⟩ := gc_dvd (cr p q).x (cr p q).y (cr p q).w
  refine ⟨a * b * gc (cr p q).x (cr p q).y (cr p q).w, Int.mul_pos (Int.mul_pos a0 b0) c0, ?_, ?_, ?_⟩
  · have e := Int.mul_ediv_cancel' d1
    show _ = a * b * gc (cr p q).x (cr p q).y (cr p q).w * ((cr p q).x / gc (cr p q).x (cr p q).y (cr p q).w)
    rw [Int.mul_assoc, e]
    simp only [cr]; grind
  · have e := Int.mul_ediv_cancel' d2
    show _ = a * b * gc (cr p q).x (cr p q).y (cr p q).w * ((cr p q).y / gc (cr p q).x (cr p q).y (cr p q).w)
    rw [Int.mul_assoc, e]
    simp only [cr]; grind
  · have e := Int.mul_ediv_cancel' d3
    show _ = a * b * gc (cr p q).x (cr p q).y (cr p q).w * ((cr p q).w / gc (cr p q).x (cr p q).y (cr p q).w)
    rw [Int.mul_assoc, e]
    simp only [cr]; grind
theorem meet_of {p q r s : P3} {P Q R S : P3} (hp : Pt p) (hq : Pt q) (hr : Pt r) (hs : Pt s) (hn : p ≠ q) (hm : r ≠ s) (h1 : Of p P.x P.y P.w) (h2 : Of q Q.x Q.y Q.w) (h3 : Of r R.x R.y R.w) (h4 : Of s S.x S.y S.w) :
    ∃ g : Int, 0 < g ∧ (cr (cr P Q) (cr R S)).x = g * (cr (lineOf p q) (lineOf r s)).x ∧ (cr (cr P Q) (cr R S)).y = g * (cr (lineOf p q) (lineOf r s)).y ∧ (cr (cr P Q) (cr R S)).w = g * (cr (lineOf p q) (lineOf r s)).w := by
  obtain ⟨a, a0, e1, e2, e3⟩ := cr_of hp hq hn h1 h2
  obtain ⟨b, b0, f1, f2, f3⟩ := cr_of hr hs hm h3 h4
  have z : ∀ l m : P3, (cr l m).x = l.y * m.w - l.w * m.y ∧ (cr l m).y = l.w * m.x - l.x * m.w ∧ (cr l m).w = l.x * m.y - l.y * m.x := fun l m => ⟨rfl, rfl, rfl⟩
  refine ⟨a * b, Int.mul_pos a0 b0, ?_, ?_, ?_⟩
  · rw [(z (cr P Q) (cr R S)).1, (z (lineOf p q) (lineOf r s)).1]
    have e2' : (cr P Q).y = a * (lineOf p q).y := e2
    have e3' : (cr P Q).w = a * (lineOf p q).w := e3
    have f2' : (cr R S).y = b * (lineOf r s).y := f2
    have f3' : (cr R S).w = b * (lineOf r s).w := f3
    rw [e2', e3', f2', f3']; grind
  · rw [(z (cr P Q) (cr R S)).2.1, (z (lineOf p q) (lineOf r s)).2.1]
    have e1' : (cr P Q).x = a * (lineOf p q).x := e1
    have e3' : (cr P Q).w = a * (lineOf p q).w := e3
    have f1' : (cr R S).x = b * (lineOf r s).x := f1
    have f3' : (cr R S).w = b * (lineOf r s).w := f3
    rw [e1', e3', f1', f3']; grind
  · rw [(z (cr P Q) (cr R S)).2.2, (z (lineOf p q) (lineOf r s)).2.2]
    have e1' : (cr P Q).x = a * (lineOf p q).x := e1
    have e2' : (cr P Q).y = a * (lineOf p q).y := e2
    have f1' : (cr R S).x = b * (lineOf r s).x := f1
    have f2' : (cr R S).y = b * (lineOf r s).y := f2
    rw [e1', e2', f1', f2']; grind
theorem lowS_Of {x y w : Int} (h : w ≠ 0) : Pt (lowS x y w) ∧ ∃ g : Int, g ≠ 0 ∧ x = g * (lowS x y w).x ∧ y = g * (lowS x y w).y ∧ w = g * (lowS x y w).w := by
  unfold lowS
  split
  · rename_i c
    obtain ⟨g, g0, e1, e2, e3⟩ := low_of (x := -x) (y := -y) (w := -w) (by omega)
    refine ⟨low_pt (by omega), -g, by omega, ?_, ?_, ?_⟩
    · rw [Int.neg_mul, ← e1, Int.neg_neg]
    · rw [Int.neg_mul, ← e2, Int.neg_neg]
    · rw [Int.neg_mul, ← e3, Int.neg_neg]
  · obtain ⟨g, g0, e1, e2, e3⟩ := low_of (x := x) (y := y) h
    exact ⟨low_pt (by omega), g, by omega, e1, e2, e3⟩
/-- what is proportional, by any sign, to a place is told as that place -/
theorem lowS_place {x y w X Y W : Int} (h : w ≠ 0) (hW : 0 < W) (e1 : x * W = X * w) (e2 : y * W = Y * w) : lowS x y w = low X Y W := by
  obtain ⟨hp, g, g0, a1, a2, a3⟩ := lowS_Of (x := x) (y := y) h
  obtain ⟨k, k0, b1, b2, b3⟩ := low_of (x := X) (y := Y) (w := W) (by omega)
  refine pt_eq hp (low_pt hW) ?_ ?_
  · have gk : g * k ≠ 0 := Int.mul_ne_zero g0 (by omega)
    apply Int.eq_of_mul_eq_mul_left gk
    generalize lowS x y w = p at *
    generalize low X Y W = q at *
    subst a1 a2 a3 b1 b2 b3
    grind
  · have gk : g * k ≠ 0 := Int.mul_ne_zero g0 (by omega)
    apply Int.eq_of_mul_eq_mul_left gk
    generalize lowS x y w = p at *
    generalize low X Y W = q at *
    subst a1 a2 a3 b1 b2 b3
    grind
theorem spot_inj {φ : Fr} (hw : 1 ≤ φ.W) (hk : φ.k ≠ 0) {a b c d v : Int} (hv : 1 ≤ v) (h : spot φ a b v = spot φ c d v) : a = c ∧ b = d := by
  have o1 := spot_Of hw a b v hv
  have o2 := spot_Of hw c d v hv
  rw [h] at o1
  obtain ⟨e1, e2⟩ := of_same o1 o2
  have w0 : φ.W * v * φ.W ≠ 0 := by
    have := Int.mul_pos (Int.mul_pos (by omega : 0 < φ.W) (by omega : 0 < v)) (by omega : 0 < φ.W)
    omega
  have z1 : φ.W * v * φ.W * ((a - c) * φ.o0 + (b - d) * φ.t0) = 0 := by simp only [spX] at e1; grind
  have z2 : φ.W * v * φ.W * ((a - c) * φ.o1 + (b - d) * φ.t1) = 0 := by simp only [spY] at e2; grind
  have y1 := (Int.mul_eq_zero.mp z1).resolve_left w0
  have y2 := (Int.mul_eq_zero.mp z2).resolve_left w0
  have k1 : (a - c) * φ.k = 0 := by unfold Fr.k; grind
  have k2 : (b - d) * φ.k = 0 := by unfold Fr.k; grind
  have := (Int.mul_eq_zero.mp k1).resolve_right hk
  have := (Int.mul_eq_zero.mp k2).resolve_right hk
  omega
def mt (p q r s : P3) : P3 := cr (lineOf p q) (lineOf r s)
def mts (p q r s : P3) : P3 := lowS (mt p q r s).x (mt p q r s).y (mt p q r s).w
theorem ne_spot {φ : Fr} (hw : 1 ≤ φ.W) (hk : φ.k ≠ 0) {a b c d v : Int} (hv : 1 ≤ v) (h : a ≠ c ∨ b ≠ d) : spot φ a b v ≠ spot φ c d v := fun z => by
  have := spot_inj hw hk hv z
  omega
theorem place {φ : Fr} (hw : 1 ≤ φ.W) {m : P3} {g L x y w : Int} (g0 : 0 < g) (hL : L ≠ 0) (e1 : x = g * m.x) (e2 : y = g * m.y) (e3 : w = g * m.w) (f1 : x = L * φ.X) (f2 : y = L * φ.Y) (f3 : w = L * φ.W) : m.w ≠ 0 ∧ lowS m.x m.y m.w = spot φ 0 0 1 := by
  have w0 : m.w ≠ 0 := by
    intro z
    rw [z, Int.mul_zero] at e3
    rw [e3] at f3
    exact Int.mul_ne_zero hL (by omega) f3.symm
  refine ⟨w0, ?_⟩
  have s1 : spot φ 0 0 1 = low φ.X φ.Y φ.W := by
    unfold spot spX spY
    simp
  rw [s1]
  refine lowS_place w0 (by omega) ?_ ?_
  · apply Int.eq_of_mul_eq_mul_left (show g ≠ 0 by omega)
    have h1 : g * (m.x * φ.W) = (g * m.x) * φ.W := by grind
    have h2 : g * (φ.X * m.w) = φ.X * (g * m.w) := by grind
    rw [h1, h2, ← e1, ← e3, f1, f3]; grind
  · apply Int.eq_of_mul_eq_mul_left (show g ≠ 0 by omega)
    have h1 : g * (m.y * φ.W) = (g * m.y) * φ.W := by grind
    have h2 : g * (φ.Y * m.w) = φ.Y * (g * m.w) := by grind
    rw [h1, h2, ← e2, ← e3, f2, f3]; grind
end PM
namespace PM
def Lm (φ : Fr) (a b c d v : Int) : Int := φ.W * v * (φ.W * φ.W) * (b - a) * (d - c) * φ.k * v
theorem Lm_ne {φ : Fr} (hw : 1 ≤ φ.W) (hk : φ.k ≠ 0) {a b c d v : Int} (hv : 1 ≤ v) (h1 : a ≠ b) (h2 : c ≠ d) : Lm φ a b c d v ≠ 0 := by
  unfold Lm
  have w0 : φ.W * v * (φ.W * φ.W) ≠ 0 := by
    have := Int.mul_pos (Int.mul_pos (by omega : 0 < φ.W) (by omega : 0 < v)) (Int.mul_pos (by omega : 0 < φ.W) (by omega : 0 < φ.W))
    omega
  exact Int.mul_ne_zero (Int.mul_ne_zero (Int.mul_ne_zero (Int.mul_ne_zero w0 (by omega)) (by omega)) hk) (by omega)
theorem raw_of {φ : Fr} (hw : 1 ≤ φ.W) (a b v : Int) (hv : 1 ≤ v) : Of (spot φ a b v) (raw φ a b v).x (raw φ a b v).y (raw φ a b v).w := spot_Of hw a b v hv
theorem cross4 (φ : Fr) (a b c d v : Int) : cr (cr (raw φ a 0 v) (raw φ b 0 v)) (cr (raw φ 0 c v) (raw φ 0 d v)) = ⟨Lm φ a b c d v * φ.X, Lm φ a b c d v * φ.Y, Lm φ a b c d v * φ.W⟩ := by
  simp only [cr, raw, spX, spY, Lm, Fr.k, P3.mk.injEq]
  refine ⟨?_, ?_, ?_⟩ <;> grind
theorem cr_anti (p q : P3) : cr q p = ⟨-(cr p q).x, -(cr p q).y, -(cr p q).w⟩ := by
  simp only [cr, P3.mk.injEq]
  refine ⟨?_, ?_, ?_⟩ <;> grind
theorem cross4b (φ : Fr) (a b c d v : Int) : cr (cr (raw φ 0 d v) (raw φ 0 c v)) (cr (raw φ b 0 v) (raw φ a 0 v)) = ⟨-Lm φ a b c d v * φ.X, -Lm φ a b c d v * φ.Y, -Lm φ a b c d v * φ.W⟩ := by
  have z := cross4 φ a b c d v
  have y : cr (cr (raw φ 0 d v) (raw φ 0 c v)) (cr (raw φ b 0 v) (raw φ a 0 v)) = cr (cr (raw φ 0 c v) (raw φ 0 d v)) (cr (raw φ a 0 v) (raw φ b 0 v)) := by
    rw [cr_anti (raw φ 0 c v), cr_anti (raw φ a 0 v)]
    generalize cr (raw φ 0 c v) (raw φ 0 d v) = l
    generalize cr (raw φ a 0 v) (raw φ b 0 v) = m
    simp only [cr, P3.mk.injEq]
    refine ⟨?_, ?_, ?_⟩ <;> grind
  rw [y, cr_anti, z]
  simp only [P3.mk.injEq, Int.neg_mul, true_and]
theorem meet_spot {φ : Fr} (hw : 1 ≤ φ.W) (hk : φ.k ≠ 0) {a b c d v : Int} (hv : 1 ≤ v) (h1 : a ≠ b) (h2 : c ≠ d) :
    (mt (spot φ a 0 v) (spot φ b 0 v) (spot φ 0 c v) (spot φ 0 d v)).w ≠ 0 ∧ mts (spot φ a 0 v) (spot φ b 0 v) (spot φ 0 c v) (spot φ 0 d v) = spot φ 0 0 1 := by
  obtain ⟨g, g0, e1, e2, e3⟩ := meet_of (spot_Pt hw a 0 v hv) (spot_Pt hw b 0 v hv) (spot_Pt hw 0 c v hv) (spot_Pt hw 0 d v hv) (ne_spot hw hk hv (.inl h1)) (ne_spot hw hk hv (.inr h2)) (raw_of hw a 0 v hv) (raw_of hw b 0 v hv) (raw_of hw 0 c v hv) (raw_of hw 0 d v hv)
  rw [cross4] at e1 e2 e3
  exact place hw g0 (Lm_ne hw hk hv h1 h2) e1 e2 e3 rfl rfl rfl
theorem meet_spotb {φ : Fr} (hw : 1 ≤ φ.W) (hk : φ.k ≠ 0) {a b c d v : Int} (hv : 1 ≤ v) (h1 : a ≠ b) (h2 : c ≠ d) :
    (mt (spot φ 0 d v) (spot φ 0 c v) (spot φ b 0 v) (spot φ a 0 v)).w ≠ 0 ∧ mts (spot φ 0 d v) (spot φ 0 c v) (spot φ b 0 v) (spot φ a 0 v) = spot φ 0 0 1 := by
  obtain ⟨g, g0, e1, e2, e3⟩ := meet_of (spot_Pt hw 0 d v hv) (spot_Pt hw 0 c v hv) (spot_Pt hw b 0 v hv) (spot_Pt hw a 0 v hv) (ne_spot hw hk hv (.inr h2.symm)) (ne_spot hw hk hv (.inl h1.symm)) (raw_of hw 0 d v hv) (raw_of hw 0 c v hv) (raw_of hw b 0 v hv) (raw_of hw a 0 v hv)
  rw [cross4b] at e1 e2 e3
  exact place hw g0 (show -Lm φ a b c d v ≠ 0 by have := Lm_ne hw hk hv h1 h2; omega) e1 e2 e3 rfl rfl rfl
theorem meet_par {φ : Fr} (hw : 1 ≤ φ.W) (hk : φ.k ≠ 0) {a b c v : Int} (hv : 1 ≤ v) (h1 : a ≠ b) : (mt (spot φ a 0 v) (spot φ b 0 v) (spot φ a c v) (spot φ b c v)).w = 0 := by
  obtain ⟨g, g0, _, _, e3⟩ := meet_of (spot_Pt hw a 0 v hv) (spot_Pt hw b 0 v hv) (spot_Pt hw a c v hv) (spot_Pt hw b c v hv) (ne_spot hw hk hv (.inl h1)) (ne_spot hw hk hv (.inl h1)) (raw_of hw a 0 v hv) (raw_of hw b 0 v hv) (raw_of hw a c v hv) (raw_of hw b c v hv)
  have z : (cr (cr (raw φ a 0 v) (raw φ b 0 v)) (cr (raw φ a c v) (raw φ b c v))).w = 0 := by
    simp only [cr, raw, spX, spY]; grind
  rw [z] at e3
  exact (Int.mul_eq_zero.mp e3.symm).resolve_left (by omega)
theorem meet_same {φ : Fr} (hw : 1 ≤ φ.W) (hk : φ.k ≠ 0) {a b v : Int} (hv : 1 ≤ v) (h1 : a ≠ b) : (mt (spot φ a 0 v) (spot φ b 0 v) (spot φ b 0 v) (spot φ a 0 v)).w = 0 := by
  obtain ⟨g, g0, _, _, e3⟩ := meet_of (spot_Pt hw a 0 v hv) (spot_Pt hw b 0 v hv) (spot_Pt hw b 0 v hv) (spot_Pt hw a 0 v hv) (ne_spot hw hk hv (.inl h1)) (ne_spot hw hk hv (.inl h1.symm)) (raw_of hw a 0 v hv) (raw_of hw b 0 v hv) (raw_of hw b 0 v hv) (raw_of hw a 0 v hv)
  have z : (cr (cr (raw φ a 0 v) (raw φ b 0 v)) (cr (raw φ b 0 v) (raw φ a 0 v))).w = 0 := by
    simp only [cr, raw, spX, spY]; grind
  rw [z] at e3
  exact (Int.mul_eq_zero.mp e3.symm).resolve_left (by omega)
end PM
set_option Elab.async false
set_option linter.all false
set_option maxRecDepth 100000
set_option maxHeartbeats 2000000
namespace Q
open PySem L2 PySem.Spec PyProof.Rows PySem.Calls
open PM
theorem low_pt {x y w : Int} (h : 0 < w) : Pt (low x y w) := PM.low_pt h
theorem spot_of {H : Hp} {l : Addr} {φ : Fr} {m n v : Int} (hφ : FrB φ) (bm : Bd 80 m) (bn : Bd 80 n) (bv : Bd 10 v) (hv : 1 ≤ v) (h : H l = some (.tup (spot φ m n v).vs)) : PtA H l (spot φ m n v) := by
  have w0 : 0 < φ.W * v := Int.mul_pos (by have := hφ.w; omega) (by omega)
  refine ⟨h, PM.low_pt w0, ?_⟩
  have bx : Bd 282 (spX φ m n v) := ((hφ.X.mul bv).le (by decide : 110 ≤ 281)).add (((bm.mul hφ.o0).add (bn.mul hφ.t0)).mul hφ.W)
  have by_ : Bd 282 (spY φ m n v) := ((hφ.Y.mul bv).le (by decide : 110 ≤ 281)).add (((bm.mul hφ.o1).add (bn.mul hφ.t1)).mul hφ.W)
  have z := B3.low bx by_ ((hφ.W.mul bv).le (by decide : 110 ≤ 282))
  exact ⟨z.x.le (by decide), z.y.le (by decide), z.w.le (by decide)⟩
section
variable {K : PySem.W.Frag} {σ : L2.St} {H : Hp} {k i : Nat} {a : Addr} {xs : List V} {n : Int} {j : Int}
theorem vl_ix (h : σ[i]? = some (some (.ref a))) (hq : H a = some (.lst xs)) (he : atI xs j = some (.int n)) (hb : Bd k n) : VI k (tOp (rIxL K) (tVar i) (tC (.int j))) σ H n :=
  ⟨val_op (val_var h) val_c fun _ q => ⟨_, _, _, _, rfl, rfl, SqL.of hq, he, q⟩, hb⟩
theorem vt_ix (h : σ[i]? = some (some (.ref a))) (hq : H a = some (.tup xs)) (he : atI xs j = some (.int n)) (hb : Bd k n) : VI k (tOp (rIxT K) (tVar i) (tC (.int j))) σ H n :=
  ⟨val_op (val_var h) val_c fun _ q => ⟨_, _, _, _, rfl, rfl, SqT.of hq, he, q⟩, hb⟩
end
theorem st_unp3 {K : PySem.W.Frag} {σ : L2.St} {H : Hp} {te : TE} {i j l : Nat} {D : Ends} {u : TS} {a : Addr} {x y z : V} (h : Val te σ H (.ref a)) (ha : H a = some (.tup [x, y, z])) (q : u D (((σ.set i (some x)).set j (some y)).set l (some z)) H) :
    tSeq (tAsg te (gTup K 3 (gCons (gName i) (gCons (gName j) (gCons (gName l) gNil))))) u D σ H :=
  h _ ⟨a, _, rfl, SqT.of ha, rfl, _, _, rfl, _, _, rfl, _, _, rfl, rfl, q⟩
section
variable {P : Program} {w : World} {K : PySem.W.Frag} {mg : Str → Option Value} {base : Heap} {C : Addr}
theorem ok_spot {f : Addr} {fd : FuncData} (F : Fun K "_law_spot" "_law_spot" sSpot f fd) (CP : Cl P w K mg base 2 "_law_point" spPoint) : FnOk P w K mg base CX0 3 f fd ["frame", "part", "other", "over"] spSpot := by
  refine F.ok scSpot (fun vs H Q E h => ?_) (fun cdv A outer s H vs Q E hr h => ?_)
  · obtain ⟨a, s, o, t, φ, m, n, v, rfl, _⟩ := h
    rfl
  · obtain ⟨a, s, o, t, φ, m, n, v, rfl, ha, bm, bn, bv, hv, k⟩ := h
    refine ⟨_, (pss_cons (ps_asg (pv 0) (pg_tup (by rfl) (pgs_cons (pg_name (i := 4) scSpot.nd rfl (.inl rfl)) (pgs_cons (pg_name (i := 5) scSpot.nd rfl (.inl rfl)) (pgs_cons (pg_name (i := 6) scSpot.nd rfl (.inl rfl)) pgs_nil)))))
      (pss_cons (ps_set (i := 7) scSpot.nd rfl (Or.inl rfl) (pe_op op_add (pe_op op_mulW (pe_ix ix_list (pv 4) pe_int (fun _ _ => rfl)) (pv 3)) (pe_op op_mulW (pe_op op_add (pe_op op_mulW (pv 1) (pe_ix ix_tup (pv 5) pe_int (fun _ _ => rfl))) (pe_op op_mulW (pv 2) (pe_ix ix_tup (pv 6) pe_int (fun _ _ => rfl)))) (pe_ix ix_list (pv 4) pe_int (fun _ _ => rfl)))))
      (pss_cons (ps_set (i := 8) scSpot.nd rfl (Or.inl rfl) (pe_op op_add (pe_op op_mulW (pe_ix ix_list (pv 4) pe_int (fun _ _ => rfl)) (pv 3)) (pe_op op_mulW (pe_op op_add (pe_op op_mulW (pv 1) (pe_ix ix_tup (pv 5) pe_int (fun _ _ => rfl))) (pe_op op_mulW (pv 2) (pe_ix ix_tup (pv 6) pe_int (fun _ _ => rfl)))) (pe_ix ix_list (pv 4) pe_int (fun _ _ => rfl)))))
      (pss_one (ps_ret (pe_cl CP hr (by decide) (by rfl) (pa_cons (pv 7) (pa_cons (pv 8) (pa_cons (pe_op op_mulW (pe_ix ix_list (pv 4) pe_int (fun _ _ => rfl)) (pv 3)) pa_nil))))))))), ?_⟩
    have b := ha.b
    refine st_unp3 (val_var rfl) ha.a ?_
    refine st_seq (st_set (VI.add ((VI.mul (vl_ix (i := 4) rfl ha.s rfl b.X) (vi_var (i := 3) rfl bv)).le (by decide : 110 ≤ 281)) (VI.mul (VI.add (VI.mul (vi_var (i := 1) rfl bm) (vt_ix (i := 5) rfl ha.o rfl b.o0)) (VI.mul (vi_var (i := 2) rfl bn) (vt_ix (i := 6) rfl ha.t rfl b.t0))) (vl_ix (i := 4) rfl ha.s rfl b.W))).v ?_)
    refine st_seq (st_set (VI.add ((VI.mul (vl_ix (i := 4) rfl ha.s rfl b.Y) (vi_var (i := 3) rfl bv)).le (by decide : 110 ≤ 281)) (VI.mul (VI.add (VI.mul (vi_var (i := 1) rfl bm) (vt_ix (i := 5) rfl ha.o rfl b.o1)) (VI.mul (vi_var (i := 2) rfl bn) (vt_ix (i := 6) rfl ha.t rfl b.t1))) (vl_ix (i := 4) rfl ha.s rfl b.W))).v ?_)
    have z : VI 110 (tOp (rI CMulW fun i j => .int (i * j)) (tOp (rIxL K) (tVar 4) (tC (.int 2))) (tVar 3)) [some (.ref a), some (.int m), some (.int n), some (.int v), some (.ref s), some (.ref o), some (.ref t), some (.int (spX φ m n v)), some (.int (spY φ m n v))] H (φ.W * v) := VI.mul (vl_ix (i := 4) rfl ha.s rfl b.W) (vi_var (i := 3) rfl bv)
    refine ret_h (vh_call (va_cons (val_var rfl) (va_cons (val_var rfl) (va_cons z.v va_nil))) (PV := fun u H' => ∃ l, u = .ref l ∧ H l = none ∧ Same H H' ∧ H' l = some (.tup (spot φ m n v).vs)) fun Q q => ⟨_, _, _, rfl, Int.mul_pos (by have := b.w; omega) (by omega), z.b.le (by decide), fun l H' h1 h2 h3 => q _ _ ⟨l, rfl, h1, h2, h3⟩⟩) ?_
    rintro u H' ⟨l, rfl, h1, h2, h3⟩
    exact k l H' h1 h2 (spot_of b bm bn bv hv h3)
end
end Q
set_option Elab.async false
set_option linter.all false
set_option maxRecDepth 100000
set_option maxHeartbeats 2000000
namespace Q
open PySem L2 PySem.Spec PyProof.Rows PySem.Calls
open PM Evl
/-- an expression that gives the point p -/
def EvPt (te : TE) (σ : L2.St) (H : Hp) (p : P3) : Prop := ∀ H1, Ex H H1 → ∀ Q : VK, (∀ l H2, Ex H1 H2 → PtA H2 l p → Q (.ref l) H2) → te σ H1 Q
section
variable {K : PySem.W.Frag} {σ : L2.St} {H H' : Hp} {ta tb tc td te : TE} {p q r s : P3} {E : XK} {D : Ends} {tz : TS} {i : Nat}
theorem EvPt.mono (e : Ex H H') (h : EvPt te σ H p) : EvPt te σ H' p := fun H1 a Q q => h H1 (e.trans a) Q q
theorem pt_mono {l : Addr} (e : Ex H H') (x : PtA H l p) : PtA H' l p := x.mono e
theorem fr_mono {a s o t : Addr} {φ : Fr} (e : Ex H H') (x : FrA H a s o t φ) : FrA H' a s o t φ := x.mono e
theorem ept_var {l : Addr} (h : σ[i]? = some (some (.ref l))) (x : PtA H l p) : EvPt (tVar i) σ H p := fun H1 e Q q => ⟨_, h, q l H1 (Ex.refl H1) (pt_mono e x)⟩
theorem ept_spot {a s o t : Addr} {φ : Fr} {m n v : Int} (h1 : Ev ta σ H (.ref a)) (h2 : Ev tb σ H (.int m)) (h3 : Ev tc σ H (.int n)) (h4 : Ev td σ H (.int v)) (x : FrA H a s o t φ) (bm : Bd 80 m) (bn : Bd 80 n) (bv : Bd 10 v) (hv : 1 ≤ v) :
    EvPt (tCall spSpot [] E (tCons ta (tCons tb (tCons tc (tCons td tNil))))) σ H (spot φ m n v) := fun H1 e Q q =>
  h1 H1 e _ fun H2 e2 => h2 H2 (e.trans e2) _ fun H3 e3 => h3 H3 ((e.trans e2).trans e3) _ fun H4 e4 => h4 H4 (((e.trans e2).trans e3).trans e4) _ fun H5 e5 =>
    ⟨a, s, o, t, φ, m, n, v, rfl, fr_mono ((((e.trans e2).trans e3).trans e4).trans e5) x, bm, bn, bv, hv, fun l H6 _ e6 y => q l H6 ((((e2.trans e3).trans e4).trans e5).trans e6) y⟩
theorem ev_eqP (h1 : EvPt ta σ H p) (h2 : EvPt tb σ H q) : Ev (tOp (rEqD K) ta tb) σ H (.bl (PyData.eqv (dP p) (dP q))) := fun H1 e Q k =>
  h1 H1 e _ fun l1 H2 e2 x1 => h2 H2 (e.trans e2) _ fun l2 H3 e3 x2 => ⟨_, _, dp_of (pt_mono e3 x1).h, dp_of x2.h, shaped_dP _, shaped_dP _, k H3 (e2.trans e3)⟩
theorem ev_neP (h1 : EvPt ta σ H p) (h2 : EvPt tb σ H q) : Ev (tOp (rNeD K) ta tb) σ H (.bl (!PyData.eqv (dP p) (dP q))) := fun H1 e Q k =>
  h1 H1 e _ fun l1 H2 e2 x1 => h2 H2 (e.trans e2) _ fun l2 H3 e3 x2 => ⟨_, _, dp_of (pt_mono e3 x1).h, dp_of x2.h, shaped_dP _, shaped_dP _, k H3 (e2.trans e3)⟩
theorem q_asgP (h : EvPt te σ H p) (k : ∀ l H1, Ex H H1 → PtA H1 l p → tz D (σ.set i (some (.ref l))) H1) : tSeq (tAsg te (gName i)) tz D σ H := h H (Ex.refl H) _ fun l H1 e x => k l H1 e x
/-- a list of ints told twice -/
def dI (ns : List Int) : PyData := .list (ns.map PyData.int)
theorem dpl_ints : ∀ ns : List Int, DpAll K H (ns.map V.int) (ns.map PyData.int)
  | [] => .nil
  | n :: ns => .cons (.int n) (dpl_ints ns)
theorem dp_ints {a : Addr} {ns : List Int} (h : H a = some (.lst (ns.map V.int))) : Dp K H (.ref a) (dI ns) := .lst (SqL.of h) (dpl_ints ns)
end
theorem low80 {m : Int} (h : Bd 79 m) : Bd 80 m := h.le (by decide)
/-- numbers of bounded width, whatever is laid on the way -/
structure EI (k : Nat) (te : TE) (σ : L2.St) (H : Hp) (n : Int) : Prop where
  v : Ev te σ H (.int n)
  b : Bd k n
section
variable {K : PySem.W.Frag} {σ : L2.St} {H : Hp} {ta tb te : TE} {a b i j : Nat} {m n : Int} {E : XK}
theorem EI.mul (x : EI a ta σ H m) (y : EI b tb σ H n) (h : a + b + 2 ≤ 1000000 := by decide) : EI (a + b) (tOp (rI CMulW fun i j => .int (i * j)) ta tb) σ H (m * n) := ⟨ev_op x.v y.v (rv_I (x.b.mw y.b h)), x.b.mul y.b⟩
theorem EI.sub (x : EI a ta σ H m) (y : EI a tb σ H n) : EI (a + 1) (tOp (rI0 fun i j => .int (i - j)) ta tb) σ H (m - n) := ⟨ev_op x.v y.v rv_I0, x.b.sub y.b⟩
theorem EI.add (x : EI a ta σ H m) (y : EI a tb σ H n) : EI (a + 1) (tOp (rI0 fun i j => .int (i + j)) ta tb) σ H (m + n) := ⟨ev_op x.v y.v rv_I0, x.b.add y.b⟩
theorem EI.le (x : EI a ta σ H m) (h : a ≤ b) : EI b ta σ H m := ⟨x.v, x.b.le h⟩
theorem ei_var (h : σ[i]? = some (some (.int n))) (hb : Bd a n) : EI a (tVar i) σ H n := ⟨ev_var h, hb⟩
theorem ei_c (hb : Bd a n) : EI a (tC (.int n)) σ H n := ⟨ev_c, hb⟩
theorem bd_sgn (n : Int) : Bd 1 (sgn n) := ⟨by unfold sgn; split <;> (try split) <;> decide⟩
theorem bd_sense (φ : Fr) : Bd 1 (sense φ) := ⟨by unfold sense; split <;> decide⟩
/-- a, b of a tracked pair -/
theorem ev_ixT {p : Addr} {xs : List V} {k : Int} {v : V} (h : Ev ta σ H (.ref p)) (hx : H p = some (.tup xs)) (hk : atI xs k = some v) : Ev (tOp (rIxT K) ta (tC (.int k))) σ H v := ev_op h ev_c (rv_ixT (SqT.of hx) hk)
theorem ev_ixL {p : Addr} {xs : List V} {k : Int} {v : V} (h : Ev ta σ H (.ref p)) (hx : H p = some (.lst xs)) (hk : atI xs k = some v) : Ev (tOp (rIxL K) ta (tC (.int k))) σ H v := ev_op h ev_c (rv_ixL (SqL.of hx) hk)
/-- [a point for x in xs] -/
theorem lc_pts {p : Addr} {xs : List V} {pts : List P3} {tl : TE} {vs : List Nat} (h : Ev tl σ H (.ref p)) (hx : SqL K H p xs) (hz : xs.length = pts.length) (hl : xs.length ≤ 1000) (hw : ∀ x, wipe ((wipe σ vs).set j (some x)) vs = wipe σ vs)
    (he : ∀ (i : Nat) (x : V) (q : P3) H1, Ex H H1 → xs[i]? = some x → pts[i]? = some q → EvPt te ((wipe σ vs).set j (some x)) H1 q) {Q : VK}
    (k : ∀ D H2 (ls : List Addr), Ex H H2 → H2 D = some (.lst (ls.map V.ref)) → ls.length = pts.length → (∀ (m : Nat) l q, ls[m]? = some l → pts[m]? = some q → PtA H2 l q) → Q (.ref D) H2) : tLc (iList K tl) (gName j) tYes te vs σ H Q :=
  h H (Ex.refl H) _ fun H1 e1 => ⟨p, rfl, ⟨xs, ex_l e1 hx⟩, fun Dl hD =>
    lc_list (xs := xs) (fun i H' => Ex H1 H' ∧ ∃ ls : List Addr, ls.length = i ∧ H' Dl = some (.lst (ls.map V.ref)) ∧ ∀ (m : Nat) l q, ls[m]? = some l → pts[m]? = some q → PtA H' l q)
      ⟨Ex.new hD, [], rfl, upd_same, fun m l q z => by simp at z⟩ (fun i H' _ p => ex_l (e1.trans p.1) hx)
      (fun i x H' hi pv => ⟨hw x, by
        obtain ⟨e2, ls, hlen, hls, hpt⟩ := pv
        have hlt : i < xs.length := (List.getElem?_eq_some_iff.mp hi).1
        have hq : pts[i]? = some (pts[i]'(by omega)) := by simp
        refine he i x _ H' (e1.trans e2) hi hq H' (Ex.refl _) _ fun l H4 e4 y => ⟨ls.map V.ref, e4 _ _ hls, Nat.lt_of_lt_of_le (show (ls.map V.ref).length < 2000 by rw [List.length_map]; omega) (by decide), ?_⟩
        have keep : ∀ {l : Addr} {q : P3}, PtA H4 l q → PtA (upd H4 Dl (.lst (ls.map V.ref ++ [V.ref l]))) l q := fun {l q} z => ⟨by
          have ne : l ≠ Dl := by
            intro g
            have g1 := z.h
            rw [g, e4 _ _ hls] at g1
            cases g1
          rw [upd_ne ne]
          exact z.h, z.pt, z.b⟩
        have keep2 : ∀ {l2 : Addr} {q : P3}, PtA H4 l2 q → PtA (upd H4 Dl (.lst (ls.map V.ref ++ [V.ref l]))) l2 q := fun {l2 q} z => ⟨by
          have ne : l2 ≠ Dl := by
            intro g
            have g1 := z.h
            rw [g, e4 _ _ hls] at g1
            cases g1
          rw [upd_ne ne]
          exact z.h, z.pt, z.b⟩
        refine ⟨Ex.mut (e2.trans e4) hD, ls ++ [l], by rw [List.length_append, hlen]; rfl, ?_, fun m l2 q h1 h2 => ?_⟩
        · rw [List.map_append]
          exact upd_same
        · by_cases c : m < ls.length
          · rw [List.getElem?_append_left c] at h1
            exact keep2 (pt_mono e4 (hpt m l2 q h1 h2))
          · have c2 : m < (ls ++ [l]).length := (List.getElem?_eq_some_iff.mp h1).1
            rw [List.length_append] at c2
            have c3 : m = ls.length := by
              have : [l].length = 1 := rfl
              omega
            subst c3
            rw [List.getElem?_append_right (Nat.le_refl _), Nat.sub_self] at h1
            cases h1
            rw [hlen, hq] at h2
            cases h2
            exact keep2 y⟩)
      (fun H' pv => by
        obtain ⟨e2, ls, hlen, hls, hpt⟩ := pv
        exact k Dl H' ls (e1.trans e2) hls (hlen.trans hz) hpt)⟩
/-- a, b, c = a list of three pairs -/
theorem st_unL3 {ps p1 p2 p3 : Addr} {i1 i2 i3 i4 i5 i6 : Nat} {a b c d e f : V} {D : Ends} {u : TS} (h : Ev te σ H (.ref ps)) (hps : H ps = some (.lst [.ref p1, .ref p2, .ref p3])) (h1 : H p1 = some (.tup [a, b])) (h2 : H p2 = some (.tup [c, d])) (h3 : H p3 = some (.tup [e, f]))
    (q : ∀ H1, Ex H H1 → u D ((((((σ.set i1 (some a)).set i2 (some b)).set i3 (some c)).set i4 (some d)).set i5 (some e)).set i6 (some f)) H1) :
    tSeq (tAsg te (gUnl K 3 (gCons (gTup K 2 (gCons (gName i1) (gCons (gName i2) gNil))) (gCons (gTup K 2 (gCons (gName i3) (gCons (gName i4) gNil))) (gCons (gTup K 2 (gCons (gName i5) (gCons (gName i6) gNil))) gNil))))) u D σ H :=
  h H (Ex.refl H) _ fun H1 e => ⟨ps, _, rfl, SqL.of (e _ _ hps), rfl, _, _, rfl, p1, _, rfl, SqT.of (e _ _ h1), rfl, _, _, rfl, _, _, rfl, rfl, _, _, rfl, p2, _, rfl, SqT.of (e _ _ h2), rfl, _, _, rfl, _, _, rfl, rfl, _, _, rfl, p3, _, rfl, SqT.of (e _ _ h3), rfl, _, _, rfl, _, _, rfl, rfl, rfl, q H1 e⟩
end
section
variable {K : PySem.W.Frag} {σ : L2.St} {H : Hp} {ta tb te : TE} {n : Int}
theorem el_rep3 (h : Ev te σ H (.int n)) : EvL (tOp rRep (tLst (tCons te tNil)) (tC (.int 3))) σ H [.int n, .int n, .int n] := fun H1 e Q q =>
  (el_lst (ea_cons h ea_nil) (by show 1 ≤ 100000; decide)) H1 e _ fun p H2 _ e2 hp => ⟨p, 3, [.int n], rfl, rfl, hp, by decide, by decide, (by show 3 ≤ sizeLine; decide), fun l hl => q l _ (fresh_back e2 hl) (e2.trans (Ex.new hl)) upd_same⟩
theorem shaped3 (a b c : Int) : SeqAt.shaped (dI [a, b, c]) = true := rfl
/-- a list of three ints and [n] * 3, the same -/
theorem ev_eq3 {p : Addr} {a b c : Int} (h : Ev ta σ H (.ref p)) (hp : H p = some (.lst [.int a, .int b, .int c])) (hb : EvL tb σ H [.int n, .int n, .int n]) (e1 : a = n) (e2 : b = n) (e3 : c = n) : Ev (tOp (rEqD K) ta tb) σ H (.bl true) := fun H1 e Q q =>
  h H1 e _ fun H2 e2' => hb H2 (e.trans e2') _ fun l H3 _ e3' hl => by
    subst e1 e2 e3
    refine ⟨dI [c, c, c], dI [c, c, c], dp_ints (ns := [c, c, c]) (e3' _ _ (e2' _ _ (e _ _ hp))), dp_ints (ns := [c, c, c]) hl, shaped3 _ _ _, shaped3 _ _ _, ?_⟩
    have z : PyData.eqv (dI [c, c, c]) (dI [c, c, c]) = true := by
      unfold dI
      simp [PyData.eqv, PyData.eqvAll]
    rw [z]
    exact q H3 (e2'.trans e3')
theorem ev_eq0 (h : Ev te σ H (.int n)) (e : n = 0) : Ev (tOp rEq te (tC (.int 0))) σ H (.bl true) := by
  subst e
  exact ev_op h ev_c (rv_eq rfl)
end
end Q
set_option Elab.async false
set_option linter.all false
set_option maxRecDepth 100000
set_option maxHeartbeats 2000000
namespace Q
open PySem L2 PySem.Spec PyProof.Rows PySem.Calls
open PM Evl
abbrev sFrame : Stmt := top 38
/-- an expression that gives an integer of some kind and may draw from the bag at p -/
def EvB (p : Addr) (te : TE) (σ : L2.St) (R : Int → Prop) : Prop := ∀ (H1 : Hp), (∃ a b c : Int, H1 p = some (.lst [.int a, .int b, .int c])) → ∀ Q : VK, (∀ n H2, R n → Bgd p H1 H2 → Q (.int n) H2) → te σ H1 Q
section
variable {p : Addr} {σ : L2.St} {te ta tb tc : TE} {R S : Int → Prop} {n N : Int} {E : XK} {i : Nat} {H : Hp} {D : Ends} {u : TS}
theorem Bgd.id' {H1 : Hp} (h : ∃ a b c : Int, H1 p = some (.lst [.int a, .int b, .int c])) : Bgd p H1 H1 := ⟨h, fun _ _ _ e => e⟩
theorem eb_val (h : ∀ H, Val te σ H (.int n)) (r : R n) : EvB p te σ R := fun H1 hb Q q => h H1 _ (q n H1 r (Bgd.id' hb))
theorem eb_c (r : R n) : EvB p (tC (.int n)) σ R := eb_val (fun _ => val_c) r
theorem eb_var (h : σ[i]? = some (some (.int n))) (r : R n) : EvB p (tVar i) σ R := eb_val (fun _ => val_var h) r
theorem eb_op {g : Int → Int → Int} {T : Int → Prop} (ha : EvB p ta σ R) (hb : EvB p tb σ S) (hr : ∀ m n, R m → S n → T (g m n)) : EvB p (tOp (rI0 fun i j => .int (g i j)) ta tb) σ T := fun H1 x Q q =>
  ha H1 x _ fun m H2 r2 g2 => hb H2 g2.bag _ fun n H3 r3 g3 => ⟨m, n, rfl, rfl, q _ H3 (hr m n r2 r3) (g2.trans g3)⟩
theorem eb_mul {T : Int → Prop} (ha : EvB p ta σ R) (hb : EvB p tb σ S) (hc : ∀ m n, R m → S n → CMulW m n) (hr : ∀ m n, R m → S n → T (m * n)) : EvB p (tOp (rI CMulW fun i j => .int (i * j)) ta tb) σ T := fun H1 x Q q =>
  ha H1 x _ fun m H2 r2 g2 => hb H2 g2.bag _ fun n H3 r3 g3 => ⟨m, n, rfl, rfl, hc m n r2 r3, q _ H3 (hr m n r2 r3) (g2.trans g3)⟩
theorem eb_draw (hs : σ[i]? = some (some (.ref p))) (hn : EvB p tb σ (fun n => 0 < n ∧ n ≤ N ∧ n.natAbs.log2 < 9000)) : EvB p (tCall spDraw [] E (tCons (tVar i) (tCons tb tNil))) σ (fun r => 0 ≤ r ∧ r < N) := fun H1 x Q q =>
  ⟨_, hs, hn H1 x _ fun n H2 r2 g2 => by
    obtain ⟨a, b, c, e⟩ := g2.bag
    exact ⟨p, a, b, c, n, rfl, e, r2.1, r2.2.2, fun r H3 h0 h1 g3 => q r H3 ⟨h0, Int.lt_of_lt_of_le h1 r2.2.1⟩ (g2.trans g3)⟩⟩
/-- a number of a written list -/
theorem eb_one {ta : TA} {xs : List Int} (hs : σ[i]? = some (some (.ref p))) (ha : ∀ H1, ValA ta σ H1 (xs.map V.int)) (h0 : 0 < xs.length) (h1 : xs.length ≤ 1000) (hr : ∀ n ∈ xs, R n) : EvB p (tCall spOne [] E (tCons (tVar i) (tCons (tLst ta) tNil))) σ R := fun H1 x Q q =>
  ⟨_, hs, ha H1 _ ⟨(by rw [List.length_map]; exact Nat.le_trans h1 (by decide)), fun l hl => by
    obtain ⟨a, b, c, e⟩ := x
    have ne : l ≠ p := by
      intro z
      rw [z, e] at hl
      cases hl
    refine ⟨p, l, a, b, c, xs.map V.int, rfl, (by rw [upd_ne ne.symm]; exact e), ne, upd_same, (by rw [List.length_map]; exact h0), (by rw [List.length_map]; exact h1), fun k v H2 hv g2 => ?_⟩
    rw [List.getElem?_map] at hv
    cases hx : xs[k]? with
    | none =>
      rw [hx] at hv
      cases hv
    | some m =>
      rw [hx] at hv
      cases hv
      exact q m H2 (hr m (List.mem_of_getElem? hx)) ((Bgd.new (Bgd.id' ⟨a, b, c, e⟩) hl).trans g2)⟩⟩
theorem q_asgB (h : EvB p te σ R) (hb : ∃ a b c : Int, H p = some (.lst [.int a, .int b, .int c])) (k : ∀ n H1, R n → Bgd p H H1 → u D (σ.set i (some (.int n))) H1) : tSeq (tAsg te (gName i)) u D σ H := h H hb _ k
end
def spFrame : Sp := fun vs H Q _ => ∃ p : Addr, vs = [.ref p] ∧ (∃ a b c : Int, H p = some (.lst [.int a, .int b, .int c])) ∧
  ∀ (fr s o t : Addr) (φ : Fr) (H' : Hp), FrA H' fr s o t φ → fr ≠ p → s ≠ p → o ≠ p → t ≠ p → Bgd p H H' → Q (.ref fr) H'
theorem ne_bag {p l : Addr} {H : Hp} (h : ∃ a b c : Int, H p = some (.lst [.int a, .int b, .int c])) (hl : H l = none) : l ≠ p := by
  obtain ⟨a, b, c, e⟩ := h
  intro z
  rw [z, e] at hl
  cases hl
/-- a pair of pairs of ints -/
structure P2 (H : Hp) (l x y : Addr) (a b c d : Int) : Prop where
  l : H l = some (.tup [.ref x, .ref y])
  x : H x = some (.tup [.int a, .int b])
  y : H y = some (.tup [.int c, .int d])
theorem P2.mono {H H' : Hp} {l x y : Addr} {a b c d : Int} (e : Ex H H') (h : P2 H l x y a b c d) : P2 H' l x y a b c d := ⟨e _ _ h.l, e _ _ h.x, e _ _ h.y⟩
theorem ne_tup {p l : Addr} {H : Hp} {xs : List V} (h : ∃ a b c : Int, H p = some (.lst [.int a, .int b, .int c])) (hl : H l = some (.tup xs)) : l ≠ p := by
  obtain ⟨a, b, c, e⟩ := h
  intro z
  rw [z, e] at hl
  cases hl
theorem tup_at {p l : Addr} {H H' : Hp} {xs : List V} (g : Bgd p H H') (hb : ∃ a b c : Int, H p = some (.lst [.int a, .int b, .int c])) (hl : H l = some (.tup xs)) : H' l = some (.tup xs) := g.keep _ _ (ne_tup hb hl) hl
theorem bag_ex {p : Addr} {H H' : Hp} (e : Ex H H') (h : ∃ a b c : Int, H p = some (.lst [.int a, .int b, .int c])) : Bgd p H H' := by
  obtain ⟨a, b, c, q⟩ := h
  exact ⟨⟨a, b, c, e _ _ q⟩, fun l o _ z => e l o z⟩
def EvP2 (te : TE) (σ : L2.St) (a b c d : Int) : Prop := ∀ (H1 : Hp) (Q : VK), (∀ l x y H2, Ex H1 H2 → P2 H2 l x y a b c d → Q (.ref l) H2) → te σ H1 Q
theorem ev_p2 {σ : L2.St} {ta tb tc td : TE} {a b c d : Int} (ha : ∀ H, Val ta σ H (.int a)) (hb : ∀ H, Val tb σ H (.int b)) (hc : ∀ H, Val tc σ H (.int c)) (hd : ∀ H, Val td σ H (.int d)) :
    EvP2 (tTup (tCons (tTup (tCons ta (tCons tb tNil))) (tCons (tTup (tCons tc (tCons td tNil))) tNil))) σ a b c d := fun H1 Q q =>
  ha H1 _ (hb H1 _ ⟨(by show 2 ≤ sizeLine; decide), fun x hx => hc _ _ (hd _ _ ⟨(by show 2 ≤ sizeLine; decide), fun y hy => ⟨(by show 2 ≤ sizeLine; decide), fun l hl => q l x y _ (((Ex.new hx).trans (Ex.new hy)).trans (Ex.new hl)) ⟨upd_same, Ex.new hl _ _ (Ex.new hy _ _ upd_same), Ex.new hl _ _ upd_same⟩⟩⟩)⟩)
theorem val_neg {σ : L2.St} {H : Hp} {n : Int} : Val (tUn (rU fun i => .int (-i)) (tC (.int n))) σ H (.int (-n)) := fun Q q => ⟨n, rfl, q⟩
theorem one4 {p : Addr} {σ : L2.St} {H : Hp} {i : Nat} {E : XK} {Q : VK} {t0 t1 t2 t3 : TE} {a0 b0 c0 d0 a1 b1 c1 d1 a2 b2 c2 d2 a3 b3 c3 d3 : Int} (hs : σ[i]? = some (some (.ref p))) (h0 : EvP2 t0 σ a0 b0 c0 d0) (h1 : EvP2 t1 σ a1 b1 c1 d1) (h2 : EvP2 t2 σ a2 b2 c2 d2) (h3 : EvP2 t3 σ a3 b3 c3 d3) (hb : ∃ a b c : Int, H p = some (.lst [.int a, .int b, .int c]))
    (q : ∀ (l x y : Addr) (a b c d : Int) (G0 G : Hp), ((a = a0 ∧ b = b0 ∧ c = c0 ∧ d = d0) ∨ (a = a1 ∧ b = b1 ∧ c = c1 ∧ d = d1) ∨ (a = a2 ∧ b = b2 ∧ c = c2 ∧ d = d2) ∨ (a = a3 ∧ b = b3 ∧ c = c3 ∧ d = d3)) → Ex H G0 → P2 G0 l x y a b c d → (∃ a b c : Int, G0 p = some (.lst [.int a, .int b, .int c])) → Bgd p G0 G → Q (.ref l) G) :
    tCall spOne [] E (tCons (tVar i) (tCons (tLst (tCons t0 (tCons t1 (tCons t2 (tCons t3 tNil))))) tNil)) σ H Q :=
  ⟨_, hs, h0 _ _ fun l0 x0 y0 G0 e0 p0 => h1 _ _ fun l1 x1 y1 G1 e1 p1 => h2 _ _ fun l2 x2 y2 G2 e2 p2 => h3 _ _ fun l3 x3 y3 G3 e3 p3 => ⟨(by show 4 ≤ sizeLine; decide), fun l hl => by
    have f3 := Ex.new (o := .lst [.ref l0, .ref l1, .ref l2, .ref l3]) hl
    have f2 := e3.trans f3
    have f1 := e2.trans f2
    have f0 := e1.trans f1
    have gb := (bag_ex (e0.trans f0) hb).bag
    obtain ⟨u1, u2, u3, hb5⟩ := id gb
    have ll : upd G3 l (.lst [.ref l0, .ref l1, .ref l2, .ref l3]) l = some (.lst [.ref l0, .ref l1, .ref l2, .ref l3]) := upd_same
    have nl : l ≠ p := ne_bag ((bag_ex (((e0.trans e1).trans e2).trans e3) hb).bag) hl
    have p0 := p0.mono f0
    have p1 := p1.mono f1
    have p2 := p2.mono f2
    have p3 := p3.mono f3
    have ef := e0.trans f0
    refine ⟨p, l, u1, u2, u3, [.ref l0, .ref l1, .ref l2, .ref l3], rfl, hb5, nl, ll, (by show 0 < 4; decide), (by show 4 ≤ 1000; decide), fun i u G hu g => ?_⟩
    match i, hu with
    | 0, hu =>
      cases hu
      exact q l0 x0 y0 _ _ _ _ _ G (.inl ⟨rfl, rfl, rfl, rfl⟩) ef p0 gb g
    | 1, hu =>
      cases hu
      exact q l1 x1 y1 _ _ _ _ _ G (.inr (.inl ⟨rfl, rfl, rfl, rfl⟩)) ef p1 gb g
    | 2, hu =>
      cases hu
      exact q l2 x2 y2 _ _ _ _ _ G (.inr (.inr (.inl ⟨rfl, rfl, rfl, rfl⟩))) ef p2 gb g
    | 3, hu =>
      cases hu
      exact q l3 x3 y3 _ _ _ _ _ G (.inr (.inr (.inr ⟨rfl, rfl, rfl, rfl⟩))) ef p3 gb g
    | i + 4, hu => cases hu⟩⟩
def InS (s n : Int) : Prop := -s ≤ n ∧ n ≤ s
theorem bd_of {n : Int} (h : n.natAbs ≤ 10 ^ 20) : Bd 100 n := ⟨Nat.lt_of_le_of_lt h (by decide)⟩
theorem bd_of' {n : Int} (h : 1 ≤ n ∧ n ≤ 10 ^ 20 + 5) : Bd 100 n := ⟨Nat.lt_of_le_of_lt (show n.natAbs ≤ 10 ^ 20 + 5 by omega) (by decide)⟩
theorem log_of {n : Int} (h : n.natAbs ≤ 10 ^ 21) : n.natAbs.log2 < 9000 := (⟨Nat.lt_of_le_of_lt h (by decide)⟩ : Bd 100 n).log (by decide)
section
variable {P : Program} {w : World} {K : PySem.W.Frag} {mg : Str → Option Value} {base : Heap}
theorem scFrame : FnScope ["bag", "size", "spot", "one", "two"] ["bag"] (defScope sFrame) := ⟨rfl, rfl, rfl, by decide +kernel, rfl, by decide +kernel, by decide +kernel⟩
theorem ok_frame {f : Addr} {fd : FuncData} (F : Fun K "_law_frame" "_law_frame" sFrame f fd) (CD : Cl P w K mg base 1 "_law_draw" spDraw) (CO : Cl P w K mg base 2 "_law_one_of" spOne) : FnOk P w K mg base CX0 3 f fd ["bag"] spFrame := by
  refine F.ok scFrame (fun vs H Q E h => ?_) (fun cdv A outer s H vs Q E hr h => ?_)
  · obtain ⟨p, rfl, _⟩ := h
    rfl
  · obtain ⟨p, rfl, hb, k⟩ := h
    refine ⟨_, (pss_cons (ps_set (i := 1) scFrame.nd rfl (Or.inl rfl) (pe_cl CO hr (by decide) (by rfl) (pa_cons (pv 0) (pa_cons (pe_lst (pa_cons (pe_int) (pa_cons (pe_int) (pa_cons (pe_int) (pa_cons (pe_op op_powW pe_int pe_int) (pa_cons (pe_op op_powW pe_int pe_int) pa_nil)))))) pa_nil))))
      (pss_cons (ps_set (i := 2) scFrame.nd rfl (Or.inl rfl) (pe_lst (pa_cons (pe_op op_sub (pe_cl CD hr (by decide) (by rfl) (pa_cons (pv 0) (pa_cons (pe_op op_add (pe_op op_mulW pe_int (pv 1)) pe_int) pa_nil))) (pv 1)) (pa_cons (pe_op op_sub (pe_cl CD hr (by decide) (by rfl) (pa_cons (pv 0) (pa_cons (pe_op op_add (pe_op op_mulW pe_int (pv 1)) pe_int) pa_nil))) (pv 1)) (pa_cons (pe_op op_add pe_int (pe_cl CD hr (by decide) (by rfl) (pa_cons (pv 0) (pa_cons (pe_cl CO hr (by decide) (by rfl) (pa_cons (pv 0) (pa_cons (pe_lst (pa_cons (pe_int) (pa_cons (pe_int) (pa_cons (pv 1) pa_nil)))) pa_nil))) pa_nil)))) pa_nil)))))
      (pss_cons (ps_set (i := 3) scFrame.nd rfl (Or.inl rfl) (pe_tup (pa_cons (pe_op op_sub (pe_cl CD hr (by decide) (by rfl) (pa_cons (pv 0) (pa_cons (pe_op op_add (pe_op op_mulW pe_int (pv 1)) pe_int) pa_nil))) (pv 1)) (pa_cons (pe_op op_sub (pe_cl CD hr (by decide) (by rfl) (pa_cons (pv 0) (pa_cons (pe_op op_add (pe_op op_mulW pe_int (pv 1)) pe_int) pa_nil))) (pv 1)) pa_nil))))
      (pss_cons (ps_set (i := 4) scFrame.nd rfl (Or.inl rfl) (pe_tup (pa_cons (pe_op op_sub (pe_cl CD hr (by decide) (by rfl) (pa_cons (pv 0) (pa_cons (pe_op op_add (pe_op op_mulW pe_int (pv 1)) pe_int) pa_nil))) (pv 1)) (pa_cons (pe_op op_sub (pe_cl CD hr (by decide) (by rfl) (pa_cons (pv 0) (pa_cons (pe_op op_add (pe_op op_mulW pe_int (pv 1)) pe_int) pa_nil))) (pv 1)) pa_nil))))
      (Evl.pss_cut (ps_if (pt_cmpR op_eq (pe_op op_mulW (pe_ix ix_tup (pv 3) pe_int (fun _ _ => rfl)) (pe_ix ix_tup (pv 4) pe_int (fun _ _ => rfl))) (pe_op op_mulW (pe_ix ix_tup (pv 3) pe_int (fun _ _ => rfl)) (pe_ix ix_tup (pv 4) pe_int (fun _ _ => rfl))) (nomark _)) (pss_one (ps_asg (pe_cl CO hr (by decide) (by rfl) (pa_cons (pv 0) (pa_cons (pe_lst (pa_cons (pe_tup (pa_cons (pe_tup (pa_cons (pe_int) (pa_cons (pe_int) pa_nil))) (pa_cons (pe_tup (pa_cons (pe_int) (pa_cons (pe_int) pa_nil))) pa_nil))) (pa_cons (pe_tup (pa_cons (pe_tup (pa_cons (pe_int) (pa_cons (pe_int) pa_nil))) (pa_cons (pe_tup (pa_cons (pe_int) (pa_cons (pe_int) pa_nil))) pa_nil))) (pa_cons (pe_tup (pa_cons (pe_tup (pa_cons (pe_int) (pa_cons (pe_un un_neg pe_int) pa_nil))) (pa_cons (pe_tup (pa_cons (pe_int) (pa_cons (pe_int) pa_nil))) pa_nil))) (pa_cons (pe_tup (pa_cons (pe_tup (pa_cons (pe_un un_neg pe_int) (pa_cons (pe_int) pa_nil))) (pa_cons (pe_tup (pa_cons (pe_int) (pa_cons (pe_int) pa_nil))) pa_nil))) pa_nil))))) pa_nil))) (pg_tup (by rfl) (pgs_cons (pg_name (i := 3) scFrame.nd rfl (.inl rfl)) (pgs_cons (pg_name (i := 4) scFrame.nd rfl (.inl rfl)) pgs_nil))))) pss_nil)
      (pss_one (ps_ret (pe_tup (pa_cons (pv 2) (pa_cons (pv 3) (pa_cons (pv 4) pa_nil))))))))))), ?_⟩
    refine q_asgB (R := fun n => 1 ≤ n ∧ n ≤ 10 ^ 20) (eb_one (xs := [4, 4, 30, 10 ^ 6, 10 ^ 20]) rfl (fun H1 => ?_) (by decide) (by decide) (by decide)) hb fun z H1 hz g1 => ?_
    · refine va_cons val_c (va_cons val_c (va_cons val_c (va_cons (val_op val_c val_c fun Q q => ⟨_, _, rfl, rfl, ⟨by decide, by decide +kernel⟩, q⟩) (va_cons (val_op val_c val_c fun Q q => ⟨_, _, rfl, rfl, ⟨by decide, by decide +kernel⟩, q⟩) va_nil))))
    have cz : ∀ {σ : L2.St}, σ[0]? = some (some (.ref p)) → σ[1]? = some (some (.int z)) → EvB p (tOp (rI0 fun i j => .int (i - j)) (tCall spDraw [] E0 (tCons (tVar 0) (tCons (tOp (rI0 fun i j => .int (i + j)) (tOp (rI CMulW fun i j => .int (i * j)) (tC (.int 2)) (tVar 1)) (tC (.int 1))) tNil))) (tVar 1)) σ (InS z) := fun h0 h1 =>
      eb_op (g := fun i j => i - j) (S := fun n => n = z) (eb_draw (N := 2 * z + 1) h0 (eb_op (g := fun i j => i + j) (R := fun n => n = 2 * z) (S := fun n => n = 1) (eb_mul (R := fun n => n = 2) (S := fun n => n = z) (eb_c rfl) (eb_var h1 rfl) (fun m n hm hn => by
          subst hm hn
          exact bd2.mw (bd_of (n := n) (by omega)) (by decide)) (fun m n hm hn => by rw [hm, hn])) (eb_c rfl) (fun m n hm hn => by
          subst hm hn
          exact ⟨by omega, by omega, log_of (by omega)⟩))) (eb_var h1 rfl) (fun m n hm hn => by
        subst hn
        exact ⟨by omega, by omega⟩)
    have cw : ∀ {σ : L2.St}, σ[0]? = some (some (.ref p)) → σ[1]? = some (some (.int z)) → EvB p (tOp (rI0 fun i j => .int (i + j)) (tC (.int 1)) (tCall spDraw [] E0 (tCons (tVar 0) (tCons (tCall spOne [] E0 (tCons (tVar 0) (tCons (tLst (tCons (tC (.int 1)) (tCons (tC (.int 5)) (tCons (tVar 1) tNil)))) tNil))) tNil)))) σ (fun n => 1 ≤ n ∧ n ≤ 10 ^ 20 + 5) := fun h0 h1 =>
      eb_op (g := fun i j => i + j) (R := fun n => n = 1) (eb_c rfl) (eb_draw (N := 10 ^ 20 + 5) h0 (eb_one (xs := [1, 5, z]) h0 (fun H1 => va_cons val_c (va_cons val_c (va_cons (val_var h1) va_nil))) (by show 0 < 3; decide) (by show 3 ≤ 1000; decide) (fun n hn => by
        simp only [List.mem_cons, List.not_mem_nil, or_false] at hn
        have : 1 ≤ n ∧ n ≤ 10 ^ 20 + 5 := by omega
        exact ⟨by omega, this.2, log_of (by omega)⟩))) (fun m n hm hn => by
        subst hm
        exact ⟨by omega, by omega⟩)
    have bS : ∀ {n : Int}, InS z n → Bd 100 n := fun h => bd_of (by
      obtain ⟨a, b⟩ := h
      omega)
    refine cz rfl rfl H1 g1.bag _ fun X H2 rX g2 => cz rfl rfl H2 g2.bag _ fun Y H3 rY g3 => cw rfl rfl H3 g3.bag _ fun W H4 rW g4 => ⟨(by show 3 ≤ sizeLine; decide), fun sp hsp => ?_⟩
    have bd4 : Bgd p H H4 := ((g1.trans g2).trans g3).trans g4
    have nsp := ne_bag g4.bag hsp
    have g5 := bd4.new (o := .lst [.int X, .int Y, .int W]) hsp
    have es : upd H4 sp (.lst [.int X, .int Y, .int W]) sp = some (.lst [.int X, .int Y, .int W]) := upd_same
    generalize upd H4 sp (.lst [.int X, .int Y, .int W]) = H5 at g5 es ⊢
    refine cz rfl rfl H5 g5.bag _ fun o0 H6 r0 g6 => cz rfl rfl H6 g6.bag _ fun o1 H7 r1 g7 => ⟨(by show 2 ≤ sizeLine; decide), fun o ho => ?_⟩
    have g8 := (g5.trans (g6.trans g7)).new (o := .tup [.int o0, .int o1]) ho
    have es8 : upd H7 o (.tup [.int o0, .int o1]) sp = some (.lst [.int X, .int Y, .int W]) := Ex.new ho _ _ ((g6.trans g7).keep _ _ nsp es)
    have eo : upd H7 o (.tup [.int o0, .int o1]) o = some (.tup [.int o0, .int o1]) := upd_same
    generalize upd H7 o (.tup [.int o0, .int o1]) = H8 at g8 es8 eo ⊢
    refine cz rfl rfl H8 g8.bag _ fun t0 H9 q0 g9 => cz rfl rfl H9 g9.bag _ fun t1 H10 q1 g10 => ⟨(by show 2 ≤ sizeLine; decide), fun t ht => ?_⟩
    have g11 := (g8.trans (g9.trans g10)).new (o := .tup [.int t0, .int t1]) ht
    have es11 : upd H10 t (.tup [.int t0, .int t1]) sp = some (.lst [.int X, .int Y, .int W]) := Ex.new ht _ _ ((g9.trans g10).keep _ _ nsp es8)
    have eo11 : upd H10 t (.tup [.int t0, .int t1]) o = some (.tup [.int o0, .int o1]) := Ex.new ht _ _ (tup_at (g9.trans g10) g8.bag eo)
    have et11 : upd H10 t (.tup [.int t0, .int t1]) t = some (.tup [.int t0, .int t1]) := upd_same
    generalize upd H10 t (.tup [.int t0, .int t1]) = H11 at g11 es11 eo11 et11 ⊢
    refine q_cut (M := fun σ' H' => ∃ (o t : Addr) (o0 o1 t0 t1 : Int), σ' = [some (.ref p), some (.int z), some (.ref sp), some (.ref o), some (.ref t)] ∧ Bgd p H H' ∧ H' sp = some (.lst [.int X, .int Y, .int W]) ∧ H' o = some (.tup [.int o0, .int o1]) ∧ H' t = some (.tup [.int t0, .int t1]) ∧
        Bd 100 o0 ∧ Bd 100 o1 ∧ Bd 100 t0 ∧ Bd 100 t1 ∧ o0 * t1 - o1 * t0 ≠ 0) ?_ ?_
    · have v1 := VI.mul (σ := [some (.ref p), some (.int z), some (.ref sp), some (.ref o), some (.ref t)]) (H := H11) (vt_ix (K := K) (i := 3) (j := 0) rfl eo11 rfl (bS r0)) (vt_ix (K := K) (i := 4) (j := 1) rfl et11 rfl (bS q1))
      have v2 := VI.mul (σ := [some (.ref p), some (.int z), some (.ref sp), some (.ref o), some (.ref t)]) (H := H11) (vt_ix (K := K) (i := 3) (j := 1) rfl eo11 rfl (bS r1)) (vt_ix (K := K) (i := 4) (j := 0) rfl et11 rfl (bS q0))
      by_cases hk : o0 * t1 = o1 * t0
      · refine st_yes (ans_eq v1.v v2.v scal_int (b := true) (decide_eq_true (by rw [hk]))) ?_
        refine one4 rfl (ev_p2 (a := 1) (b := 0) (c := 0) (d := 1) (fun _ => val_c) (fun _ => val_c) (fun _ => val_c) (fun _ => val_c)) (ev_p2 (a := 2) (b := 1) (c := 1) (d := 1) (fun _ => val_c) (fun _ => val_c) (fun _ => val_c) (fun _ => val_c)) (ev_p2 (a := 0) (b := -3) (c := 5) (d := 2) (fun _ => val_c) (fun _ => val_neg) (fun _ => val_c) (fun _ => val_c)) (ev_p2 (a := -1) (b := 4) (c := 1) (d := 4) (fun _ => val_neg) (fun _ => val_c) (fun _ => val_c) (fun _ => val_c)) g11.bag fun l x y a b c d G0 G hm e0 p0 gb g => ?_
        have gg := (g11.trans (bag_ex e0 g11.bag)).trans g
        have eg := g.keep _ _ nsp (e0 _ _ es11)
        have hq : Bd 100 a ∧ Bd 100 b ∧ Bd 100 c ∧ Bd 100 d ∧ a * d - b * c ≠ 0 := by
          rcases hm with ⟨rfl, rfl, rfl, rfl⟩ | ⟨rfl, rfl, rfl, rfl⟩ | ⟨rfl, rfl, rfl, rfl⟩ | ⟨rfl, rfl, rfl, rfl⟩ <;> exact ⟨⟨by decide⟩, ⟨by decide⟩, ⟨by decide⟩, ⟨by decide⟩, by decide⟩
        exact ⟨l, _, rfl, SqT.of (tup_at g gb p0.l), rfl, _, _, rfl, _, _, rfl, rfl, x, y, a, b, c, d, rfl, gg, eg, tup_at g gb p0.x, tup_at g gb p0.y, hq.1, hq.2.1, hq.2.2.1, hq.2.2.2.1, hq.2.2.2.2⟩
      · refine st_no (ans_eq v1.v v2.v scal_int (b := false) (decide_eq_false fun h => hk (by injection h))) (st_next ?_)
        exact ⟨o, t, o0, o1, t0, t1, rfl, g11, es11, eo11, et11, bS r0, bS r1, bS q0, bS q1, by omega⟩
    · rintro σ' H12 ⟨o, t, o0, o1, t0, t1, rfl, g12, es12, eo12, et12, b1, b2, b3, b4, hk⟩
      refine ⟨_, rfl, _, rfl, _, rfl, (by show 3 ≤ sizeLine; decide), fun fr hfr => ?_⟩
      have e := Ex.new (o := .tup [.ref sp, .ref o, .ref t]) hfr
      exact k fr sp o t ⟨X, Y, W, o0, o1, t0, t1⟩ _ ⟨upd_same, e _ _ es12, e _ _ eo12, e _ _ et12, ⟨bS rX, bS rY, bd_of' rW, b1, b2, b3, b4, rW.1, hk⟩⟩ (ne_bag g12.bag hfr) nsp (ne_tup g12.bag eo12) (ne_tup g12.bag et12) (g12.new hfr)
end
end Q
set_option Elab.async false
set_option linter.all false
set_option maxRecDepth 100000
set_option maxHeartbeats 2000000
namespace PM
def eqB (p q : P3) : Bool := decide (p.x = q.x) && (decide (p.y = q.y) && decide (p.w = q.w))
theorem eqB_iff {p q : P3} : eqB p q = true ↔ p = q := by
  obtain ⟨a, b, c⟩ := p
  obtain ⟨d, e, f⟩ := q
  simp [eqB]
theorem eqB_no {p q : P3} : eqB p q = false ↔ p ≠ q := by
  rw [← Bool.not_eq_true, eqB_iff]
theorem vec_ne {φ : Fr} (hk : φ.k ≠ 0) {m n : Int} (h : m ≠ 0 ∨ n ≠ 0) : m * φ.o0 + n * φ.t0 ≠ 0 ∨ m * φ.o1 + n * φ.t1 ≠ 0 := by
  by_cases y1 : m * φ.o0 + n * φ.t0 = 0
  · by_cases y2 : m * φ.o1 + n * φ.t1 = 0
    · exfalso
      have k1 : m * φ.k = 0 := by unfold Fr.k; grind
      have k2 : n * φ.k = 0 := by unfold Fr.k; grind
      have := (Int.mul_eq_zero.mp k1).resolve_right hk
      have := (Int.mul_eq_zero.mp k2).resolve_right hk
      omega
    · exact .inr y2
  · exact .inl y1
def q2 (φ : Fr) (m n m' n' : Int) : Int := (m * φ.o0 + n * φ.t0) * (m' * φ.o0 + n' * φ.t0) + (m * φ.o1 + n * φ.t1) * (m' * φ.o1 + n' * φ.t1)
theorem q2_pos {φ : Fr} (hk : φ.k ≠ 0) {m n : Int} (h : m ≠ 0 ∨ n ≠ 0) : 0 < q2 φ m n m n := by
  unfold q2
  rcases vec_ne hk h with z | z
  · have := sq_p z
    have := sq_nn (m * φ.o1 + n * φ.t1)
    omega
  · have := sq_p z
    have := sq_nn (m * φ.o0 + n * φ.t0)
    omega
theorem bet_gen {φ : Fr} (hw : 1 ≤ φ.W) (hk : φ.k ≠ 0) {a b c s e f v : Int} (hv : 1 ≤ v) : between (spot φ c s v) (spot φ a e v) (spot φ b f v) = if (b - a) * (s - e) - (f - e) * (c - a) ≠ 0 then false else decide (q2 φ (a - c) (e - s) (b - c) (f - s) ≤ 0) := by
  rw [between_spot hw hv hv hv]
  unfold bet
  have w1 : 0 < φ.W * v * φ.W := Int.mul_pos (Int.mul_pos (by omega) (by omega)) (by omega)
  have w2 : φ.W * v * (φ.W * φ.W) ≠ 0 := by
    have := Int.mul_pos (Int.mul_pos (by omega : 0 < φ.W) (by omega : 0 < v)) (Int.mul_pos (by omega : 0 < φ.W) (by omega : 0 < φ.W))
    omega
  have d : det (raw φ a e v) (raw φ b f v) (raw φ c s v) = (φ.W * v * (φ.W * φ.W)) * (((b - a) * (s - e) - (f - e) * (c - a)) * φ.k) := det_raw φ a e b f c s v
  rw [d]
  have g : dx (raw φ c s v) (raw φ a e v) * dx (raw φ c s v) (raw φ b f v) + dy (raw φ c s v) (raw φ a e v) * dy (raw φ c s v) (raw φ b f v) = (φ.W * v * φ.W * (φ.W * v * φ.W)) * q2 φ (a - c) (e - s) (b - c) (f - s) := by
    simp only [dx, dy, raw, spX, spY, q2]; grind
  rw [g]
  by_cases h : (b - a) * (s - e) - (f - e) * (c - a) = 0
  · rw [h, if_neg (by simp [sgn]), if_neg (by simp)]
    exact decide_eq_decide.mpr (mul_le0 (Int.mul_pos w1 w1))
  · rw [if_pos (fun z => Int.mul_ne_zero w2 (Int.mul_ne_zero h hk) (sgn_zero.mp z)), if_pos h]
/-- a number's sign by a ruler -/
theorem gc3_pos {p : P3} (h : p.x ≠ 0 ∨ p.y ≠ 0 ∨ p.w ≠ 0) : 0 < gc p.x p.y p.w := gc_pos' h
theorem dot_low {p r : P3} : gc p.x p.y p.w * dot (low p.x p.y p.w) r = dot p r := by
  obtain ⟨h1, h2, h3⟩ := gc_dvd p.x p.y p.w
  have e1 := Int.mul_ediv_cancel' h1
  have e2 := Int.mul_ediv_cancel' h2
  have e3 := Int.mul_ediv_cancel' h3
  show gc p.x p.y p.w * (p.x / gc p.x p.y p.w * r.x + p.y / gc p.x p.y p.w * r.y + p.w / gc p.x p.y p.w * r.w) = p.x * r.x + p.y * r.y + p.w * r.w
  rw [Int.mul_add, Int.mul_add, ← Int.mul_assoc, ← Int.mul_assoc, ← Int.mul_assoc, e1, e2, e3]
theorem sgn_line {p q r : P3} (hp : Pt p) (hq : Pt q) (h : p ≠ q) : sgn (dot (lineOf p q) r) = sgn (det p q r) := by
  have g := gc3_pos (cr_ne hp hq h)
  have e := dot_low (p := cr p q) (r := r)
  unfold det
  rw [← e, sgn_mul_pos g]
  rfl
def sameS (m n : Int) : Bool := (decide (m > 0) && decide (n > 0)) || (decide (m < 0) && decide (n < 0))
theorem sgn_pos {n : Int} : 0 < n ↔ sgn n = 1 := by
  unfold sgn
  split
  · constructor <;> intro <;> omega
  · split <;> constructor <;> intro <;> omega
theorem sgn_negs {n : Int} : n < 0 ↔ sgn n = -1 := by
  unfold sgn
  split
  · constructor <;> intro <;> omega
  · split <;> constructor <;> intro <;> omega
theorem sgn_3 (n : Int) : sgn n = 1 ∨ sgn n = 0 ∨ sgn n = -1 := by
  unfold sgn
  split
  · exact .inl rfl
  · split
    · exact .inr (.inr rfl)
    · exact .inr (.inl rfl)
theorem sameS_sgn (m n : Int) : sameS m n = decide (0 < sgn m * sgn n) := by
  have e : sameS m n = ((decide (sgn m = 1) && decide (sgn n = 1)) || (decide (sgn m = -1) && decide (sgn n = -1))) := by
    unfold sameS
    rw [decide_eq_decide.mpr (show m > 0 ↔ sgn m = 1 from sgn_pos), decide_eq_decide.mpr (show n > 0 ↔ sgn n = 1 from sgn_pos), decide_eq_decide.mpr (sgn_negs (n := m)), decide_eq_decide.mpr (sgn_negs (n := n))]
  rw [e]
  rcases sgn_3 m with h | h | h <;> rcases sgn_3 n with k | k | k <;> rw [h, k] <;> rfl
/-- both signs by one factor -/
theorem sameS_by {m n m' n' e : Int} (he : e = 1 ∨ e = -1) (h1 : sgn m = sgn m' * e) (h2 : sgn n = sgn n' * e) : sameS m n = decide (0 < m' * n') := by
  rw [sameS_sgn, h1, h2]
  have z : sgn m' * e * (sgn n' * e) = sgn (m' * n') := by
    rw [sgn_mul]
    rcases he with rfl | rfl <;> grind
  rw [z]
  refine decide_eq_decide.mpr ?_
  rw [sgn_pos (n := m' * n')]
  rcases sgn_3 (m' * n') with h | h | h <;> rw [h] <;> decide
theorem zero_by {m m' e : Int} (he : e = 1 ∨ e = -1) (h1 : sgn m = sgn m' * e) : m = 0 ↔ m' = 0 := by
  rw [← sgn_zero (n := m), ← sgn_zero (n := m'), h1]
  rcases he with rfl | rfl <;> omega
theorem sense_1 (φ : Fr) : sense φ = 1 ∨ sense φ = -1 := by
  unfold sense
  split
  · exact .inl rfl
  · exact .inr rfl
/-! ### what two pieces have in common, as the program finds it -/
def inB (p : P3) : List P3 → Bool
  | [] => false
  | q :: l => eqB p q || inB p l
def share (p q r s : P3) : List P3 :=
  if sameS (dot (lineOf p q) r) (dot (lineOf p q) s) = true then [] else
  if dot (lineOf p q) r = 0 ∧ dot (lineOf p q) s = 0 then [r, s].filter (fun t => between t p q) ++ [p, q].filter (fun t => !inB t ([r, s].filter (fun t => between t p q)) && between t r s) else
  if sameS (dot (lineOf r s) p) (dot (lineOf r s) q) = true then [] else
  if dot (lineOf p q) r = 0 then [r] else if dot (lineOf p q) s = 0 then [s] else if dot (lineOf r s) p = 0 then [p] else if dot (lineOf r s) q = 0 then [q] else [mts p q r s]
def ltT (p q : P3) : Bool := if p.x = q.x then (if p.y = q.y then decide (p.w < q.w) else decide (p.y < q.y)) else decide (p.x < q.x)
def sort2 : List P3 → List P3
  | [x, y] => if ltT y x = true then [y, x] else [x, y]
  | l => l
theorem ltT_iff {p q : P3} : ltT p q = true ↔ p.x < q.x ∨ (p.x = q.x ∧ (p.y < q.y ∨ (p.y = q.y ∧ p.w < q.w))) := by
  unfold ltT
  split
  · split
    · rw [decide_eq_true_eq]; omega
    · rw [decide_eq_true_eq]; omega
  · rw [decide_eq_true_eq]; omega
theorem sort2_comm (x y : P3) : sort2 [x, y] = sort2 [y, x] := by
  show (if ltT y x = true then [y, x] else [x, y]) = (if ltT x y = true then [x, y] else [y, x])
  by_cases h : ltT y x = true
  · rw [if_pos h, if_neg]
    intro k
    rw [ltT_iff] at h k
    omega
  · rw [if_neg h]
    by_cases k : ltT x y = true
    · rw [if_pos k]
    · rw [if_neg k]
      have e : x = y := by
        rw [ltT_iff] at h k
        obtain ⟨a, b, c⟩ := x
        obtain ⟨d, e, f⟩ := y
        simp only [P3.mk.injEq] at *
        omega
      rw [e]
def meet4 (p q r s : P3) : List P3 :=
  if eqB p q = true then (if between p r s = true then [p] else []) else
  if eqB r s = true then (if between r p q = true then [r] else []) else sort2 (share p q r s)
theorem spot00 {φ : Fr} (hw : 1 ≤ φ.W) {v : Int} (hv : 1 ≤ v) : spot φ 0 0 v = spot φ 0 0 1 :=
  of_eq (spot_Pt hw 0 0 v hv) (spot_Pt hw 0 0 1 (by decide)) (spot_Of hw 0 0 v hv) (spot_Of hw 0 0 1 (by decide)) (by simp only [spX]; grind) (by simp only [spY]; grind)
/-- one point on the first line, a piece of the second one -/
theorem bet_cross {φ : Fr} (hw : 1 ≤ φ.W) (hk : φ.k ≠ 0) {a c d v : Int} (hv : 1 ≤ v) : between (spot φ a 0 v) (spot φ 0 c v) (spot φ 0 d v) = decide (a = 0 ∧ c * d ≤ 0) := by
  rw [bet_gen hw hk hv]
  by_cases h : a = 0
  · subst h
    rw [if_neg (by simp)]
    refine decide_eq_decide.mpr ?_
    have e : q2 φ (0 - 0) (c - 0) (0 - 0) (d - 0) = (φ.t0 * φ.t0 + φ.t1 * φ.t1) * (c * d) := by unfold q2; grind
    rw [e, mul_le0]
    · simp
    · by_cases z : φ.t0 = 0
      · by_cases y : φ.t1 = 0
        · exact absurd (by unfold Fr.k; rw [z, y]; simp) hk
        · have := sq_p y
          have := sq_nn φ.t0
          omega
      · have := sq_p z
        have := sq_nn φ.t1
        omega
  · refine Eq.trans ?_ (decide_eq_false (fun z => h z.1)).symm
    by_cases k : c = d
    · subst k
      rw [if_neg (by simp)]
      refine decide_eq_false fun z => ?_
      have := q2_pos hk (m := 0 - a) (n := c - 0) (.inl (by omega))
      omega
    · refine if_pos fun z => ?_
      have e : (d - c) * a = 0 := by grind
      rcases Int.mul_eq_zero.mp e with e | e <;> omega
def swp (φ : Fr) : Fr := ⟨φ.X, φ.Y, φ.W, φ.t0, φ.t1, φ.o0, φ.o1⟩
theorem spot_swp (φ : Fr) (m n v : Int) : spot φ m n v = spot (swp φ) n m v := by
  unfold spot spX spY swp
  simp only
  rw [Int.add_comm (m * φ.o0), Int.add_comm (m * φ.o1)]
theorem k_swp {φ : Fr} (hk : φ.k ≠ 0) : (swp φ).k ≠ 0 := by
  unfold Fr.k swp at *
  simp only at *
  intro z
  apply hk
  grind
theorem sgn_ruler {φ : Fr} (hw : 1 ≤ φ.W) (hk : φ.k ≠ 0) {a b c d e f v : Int} (hv : 1 ≤ v) (h : a ≠ c ∨ b ≠ d) : sgn (dot (lineOf (spot φ a b v) (spot φ c d v)) (spot φ e f v)) = sgn ((c - a) * (f - b) - (d - b) * (e - a)) * sense φ := by
  rw [sgn_line (spot_Pt hw a b v hv) (spot_Pt hw c d v hv) (ne_spot hw hk hv h), sgn_det hw hk a b c d e f v hv]
theorem nn_sq {a c d : Int} (h : a ≠ 0) : 0 < a * c * (a * d) ↔ 0 < c * d := by
  have e : a * c * (a * d) = (a * a) * (c * d) := by grind
  rw [e]
  have p := sq_p h
  constructor
  · intro z
    exact pos_of p z
  · intro z
    exact Int.mul_pos p z
theorem meet_cross {φ : Fr} (hw : 1 ≤ φ.W) (hk : φ.k ≠ 0) {a b c d v : Int} (hv : 1 ≤ v) : meet4 (spot φ a 0 v) (spot φ b 0 v) (spot φ 0 c v) (spot φ 0 d v) = if a * b ≤ 0 ∧ c * d ≤ 0 then [spot φ 0 0 1] else [] := by
  unfold meet4
  by_cases hab : a = b
  · subst hab
    rw [if_pos (eqB_iff.mpr rfl), bet_cross hw hk hv]
    by_cases h : a = 0 ∧ c * d ≤ 0
    · rw [if_pos (decide_eq_true h)]
      obtain ⟨rfl, h⟩ := h
      rw [if_pos ⟨by simp, h⟩, spot00 hw hv]
    · rw [if_neg (fun z => h (of_decide_eq_true z)), if_neg]
      rintro ⟨h1, h2⟩
      refine h ⟨?_, h2⟩
      by_cases z : a = 0
      · exact z
      · have := sq_p z
        omega
  rw [if_neg (fun z => ne_spot hw hk hv (.inl hab) (eqB_iff.mp z))]
  by_cases hcd : c = d
  · subst hcd
    rw [if_pos (eqB_iff.mpr rfl), spot_swp φ 0 c, spot_swp φ a 0, spot_swp φ b 0, bet_cross (φ := swp φ) hw (k_swp hk) hv, ← spot_swp]
    by_cases h : c = 0 ∧ a * b ≤ 0
    · rw [if_pos (decide_eq_true h)]
      obtain ⟨rfl, h⟩ := h
      rw [if_pos ⟨h, by simp⟩, spot00 hw hv]
    · rw [if_neg (fun z => h (of_decide_eq_true z)), if_neg]
      rintro ⟨h1, h2⟩
      refine h ⟨?_, h1⟩
      by_cases z : c = 0
      · exact z
      · have := sq_p z
        omega
  rw [if_neg (fun z => ne_spot hw hk hv (.inr hcd) (eqB_iff.mp z))]
  have r1 := sgn_ruler hw hk (a := a) (b := 0) (c := b) (d := 0) (e := 0) (f := c) hv (.inl hab)
  have r2 := sgn_ruler hw hk (a := a) (b := 0) (c := b) (d := 0) (e := 0) (f := d) hv (.inl hab)
  have r3 := sgn_ruler hw hk (a := 0) (b := c) (c := 0) (d := d) (e := a) (f := 0) hv (.inr hcd)
  have r4 := sgn_ruler hw hk (a := 0) (b := c) (c := 0) (d := d) (e := b) (f := 0) hv (.inr hcd)
  rw [show (b - a) * (c - 0) - (0 - 0) * (0 - a) = (b - a) * c by grind] at r1
  rw [show (b - a) * (d - 0) - (0 - 0) * (0 - a) = (b - a) * d by grind] at r2
  rw [show (0 - 0) * (0 - c) - (d - c) * (a - 0) = (c - d) * a by grind] at r3
  rw [show (0 - 0) * (0 - c) - (d - c) * (b - 0) = (c - d) * b by grind] at r4
  have hb : b - a ≠ 0 := by omega
  have hc : c - d ≠ 0 := by omega
  have s1 := sameS_by (sense_1 φ) r1 r2
  have s2 := sameS_by (sense_1 φ) r3 r4
  have z1 := zero_by (sense_1 φ) r1
  have z2 := zero_by (sense_1 φ) r2
  have z3 := zero_by (sense_1 φ) r3
  have z4 := zero_by (sense_1 φ) r4
  have y : ∀ {m n : Int}, m ≠ 0 → (m * n = 0 ↔ n = 0) := fun hm => ⟨fun h => (Int.mul_eq_zero.mp h).resolve_left hm, fun h => by rw [h, Int.mul_zero]⟩
  rw [y hb] at z1 z2
  rw [y hc] at z3 z4
  unfold share
  have e0 : ∀ {l : P3}, sort2 [l] = [l] := rfl
  by_cases h1 : 0 < c * d
  · rw [s1, if_pos (decide_eq_true ((nn_sq hb).mpr h1)), if_neg (by omega)]
    rfl
  rw [s1, if_neg (fun z => h1 ((nn_sq hb).mp (of_decide_eq_true z))), if_neg (fun z => by
    have := z1.mp z.1
    have := z2.mp z.2
    omega)]
  by_cases h2 : 0 < a * b
  · rw [s2, if_pos (decide_eq_true ((nn_sq hc).mpr h2)), if_neg (by omega)]
    rfl
  rw [s2, if_neg (fun z => h2 ((nn_sq hc).mp (of_decide_eq_true z))), if_pos (show a * b ≤ 0 ∧ c * d ≤ 0 by omega)]
  by_cases k1 : c = 0
  · rw [if_pos (z1.mpr k1), k1, e0, spot00 hw hv]
  rw [if_neg (fun z => k1 (z1.mp z))]
  by_cases k2 : d = 0
  · rw [if_pos (z2.mpr k2), k2, e0, spot00 hw hv]
  rw [if_neg (fun z => k2 (z2.mp z))]
  by_cases k3 : a = 0
  · rw [if_pos (z3.mpr k3), k3, e0, spot00 hw hv]
  rw [if_neg (fun z => k3 (z3.mp z))]
  by_cases k4 : b = 0
  · rw [if_pos (z4.mpr k4), k4, e0, spot00 hw hv]
  rw [if_neg (fun z => k4 (z4.mp z)), e0, (meet_spot hw hk hv hab hcd).2]
theorem bet_far {φ : Fr} (hw : 1 ≤ φ.W) (hk : φ.k ≠ 0) {a b c s e v : Int} (hv : 1 ≤ v) (h : s ≠ e) : between (spot φ c s v) (spot φ a e v) (spot φ b e v) = false := by
  rw [bet_gen hw hk hv]
  by_cases k : a = b
  · subst k
    rw [if_neg (by simp)]
    refine decide_eq_false fun z => ?_
    have := q2_pos hk (m := a - c) (n := e - s) (.inr (by omega))
    omega
  · refine if_pos fun z => ?_
    have e : (b - a) * (s - e) = 0 := by grind
    rcases Int.mul_eq_zero.mp e with e | e <;> omega
theorem meet_far {φ : Fr} (hw : 1 ≤ φ.W) (hk : φ.k ≠ 0) {a b c d s e v : Int} (hv : 1 ≤ v) (h : s ≠ e) : meet4 (spot φ a s v) (spot φ b s v) (spot φ c e v) (spot φ d e v) = [] := by
  unfold meet4
  rw [bet_far hw hk hv h, bet_far hw hk hv h.symm]
  by_cases hab : a = b
  · subst hab
    rw [if_pos (eqB_iff.mpr rfl), if_neg (by decide)]
  rw [if_neg (fun z => ne_spot hw hk hv (.inl hab) (eqB_iff.mp z))]
  by_cases hcd : c = d
  · subst hcd
    rw [if_pos (eqB_iff.mpr rfl), if_neg (by decide)]
  rw [if_neg (fun z => ne_spot hw hk hv (.inl hcd) (eqB_iff.mp z))]
  have r1 := sgn_ruler hw hk (a := a) (b := s) (c := b) (d := s) (e := c) (f := e) hv (.inl hab)
  have r2 := sgn_ruler hw hk (a := a) (b := s) (c := b) (d := s) (e := d) (f := e) hv (.inl hab)
  rw [show (b - a) * (e - s) - (s - s) * (c - a) = (b - a) * (e - s) by grind] at r1
  rw [show (b - a) * (e - s) - (s - s) * (d - a) = (b - a) * (e - s) by grind] at r2
  unfold share
  rw [sameS_by (sense_1 φ) r1 r2, if_pos (decide_eq_true (sq_p (Int.mul_ne_zero (by omega) (by omega))))]
  rfl
end PM
set_option Elab.async false
set_option linter.all false
set_option maxRecDepth 100000
set_option maxHeartbeats 2000000
namespace PM
/-- the ends of what two spans have in common -/
def ends (a b c d : Int) : List Int :=
  if max (min a b) (min c d) ≤ min (max a b) (max c d) then (if max (min a b) (min c d) = min (max a b) (max c d) then [max (min a b) (min c d)] else [max (min a b) (min c d), min (max a b) (max c d)]) else []
def inI (x : Int) : List Int → Bool
  | [] => false
  | y :: l => decide (x = y) || inI x l
def got (a b c d : Int) : List Int :=
  [c, d].filter (fun t => decide (min a b ≤ t ∧ t ≤ max a b)) ++ [a, b].filter (fun t => !inI t ([c, d].filter (fun t => decide (min a b ≤ t ∧ t ≤ max a b))) && decide (min c d ≤ t ∧ t ≤ max c d))
theorem ends2 {a b c d : Int} (h : max (min a b) (min c d) < min (max a b) (max c d)) : ends a b c d = [max (min a b) (min c d), min (max a b) (max c d)] := by
  unfold ends
  rw [if_pos (by omega), if_neg (by omega)]
theorem ends1 {a b c d : Int} (h : max (min a b) (min c d) = min (max a b) (max c d)) : ends a b c d = [max (min a b) (min c d)] := by
  unfold ends
  rw [if_pos (by omega), if_pos h]
theorem ends0 {a b c d : Int} (h : min (max a b) (max c d) < max (min a b) (min c d)) : ends a b c d = [] := by
  unfold ends
  rw [if_neg (by omega)]
theorem pr_of {a b c d : Int} {x y : Int} (h : max (min a b) (min c d) < min (max a b) (max c d)) (hx : x = max (min a b) (min c d) ∧ y = min (max a b) (max c d) ∨ y = max (min a b) (min c d) ∧ x = min (max a b) (max c d)) : [x, y] = ends a b c d ∨ ∃ m n, [x, y] = [m, n] ∧ ends a b c d = [n, m] := by
  rw [ends2 h]
  rcases hx with ⟨rfl, rfl⟩ | ⟨rfl, rfl⟩
  · exact .inl rfl
  · exact .inr ⟨_, _, rfl, rfl⟩
theorem got_ends {a b c d : Int} (h : a ≠ b) (k : c ≠ d) : got a b c d = ends a b c d ∨ ∃ x y, got a b c d = [x, y] ∧ ends a b c d = [y, x] := by
  unfold got
  by_cases h1 : min a b ≤ c ∧ c ≤ max a b <;> by_cases h2 : min a b ≤ d ∧ d ≤ max a b
  · have e : [c, d].filter (fun t => decide (min a b ≤ t ∧ t ≤ max a b)) = [c, d] := by simp only [List.filter, h1, h2, and_self, decide_true]
    rw [e]
    have ea : ∀ x, (x = a ∨ x = b) → (!inI x [c, d] && decide (min c d ≤ x ∧ x ≤ max c d)) = false := fun x hx => by
      have : x = c ∨ x = d ∨ ¬ (min c d ≤ x ∧ x ≤ max c d) := by omega
      rcases this with q | q | q
      · simp [inI, q]
      · simp [inI, q]
      · rw [decide_eq_false q, Bool.and_false]
    rw [List.filter_cons, ea a (.inl rfl), List.filter_cons, ea b (.inr rfl)]
    exact pr_of (by omega) (by omega)
  · have e : [c, d].filter (fun t => decide (min a b ≤ t ∧ t ≤ max a b)) = [c] := by
      rw [List.filter_cons, decide_eq_true h1, List.filter_cons, decide_eq_false h2]
      rfl
    rw [e]
    have ea : ∀ x, (!inI x [c] && decide (min c d ≤ x ∧ x ≤ max c d)) = decide (x ≠ c ∧ (min c d ≤ x ∧ x ≤ max c d)) := fun x => by simp [inI]
    rw [List.filter_cons, ea a, List.filter_cons, ea b]
    by_cases ha : a ≠ c ∧ (min c d ≤ a ∧ a ≤ max c d) <;> by_cases hb : b ≠ c ∧ (min c d ≤ b ∧ b ≤ max c d)
    · exfalso; omega
    · rw [decide_eq_true ha, decide_eq_false hb]
      exact pr_of (by omega) (by omega)
    · rw [decide_eq_true hb, decide_eq_false ha]
      exact pr_of (by omega) (by omega)
    · rw [decide_eq_false ha, decide_eq_false hb]
      left
      rw [ends1 (by omega), show max (min a b) (min c d) = c by omega]
      rfl
  · have e : [c, d].filter (fun t => decide (min a b ≤ t ∧ t ≤ max a b)) = [d] := by
      rw [List.filter_cons, decide_eq_false h1, List.filter_cons, decide_eq_true h2]
      rfl
    rw [e]
    have ea : ∀ x, (!inI x [d] && decide (min c d ≤ x ∧ x ≤ max c d)) = decide (x ≠ d ∧ (min c d ≤ x ∧ x ≤ max c d)) := fun x => by simp [inI]
    rw [List.filter_cons, ea a, List.filter_cons, ea b]
    by_cases ha : a ≠ d ∧ (min c d ≤ a ∧ a ≤ max c d) <;> by_cases hb : b ≠ d ∧ (min c d ≤ b ∧ b ≤ max c d)
    · exfalso; omega
    · rw [decide_eq_true ha, decide_eq_false hb]
      exact pr_of (by omega) (by omega)
    · rw [decide_eq_true hb, decide_eq_false ha]
      exact pr_of (by omega) (by omega)
    · rw [decide_eq_false ha, decide_eq_false hb]
      left
      rw [ends1 (by omega), show max (min a b) (min c d) = d by omega]
      rfl
  · have e : [c, d].filter (fun t => decide (min a b ≤ t ∧ t ≤ max a b)) = [] := by
      rw [List.filter_cons, decide_eq_false h1, List.filter_cons, decide_eq_false h2]
      rfl
    rw [e]
    have ea : ∀ x, (!inI x [] && decide (min c d ≤ x ∧ x ≤ max c d)) = decide (min c d ≤ x ∧ x ≤ max c d) := fun x => by simp [inI]
    rw [List.filter_cons, ea a, List.filter_cons, ea b]
    by_cases ha : min c d ≤ a ∧ a ≤ max c d <;> by_cases hb : min c d ≤ b ∧ b ≤ max c d
    · rw [decide_eq_true ha, decide_eq_true hb]
      exact pr_of (by omega) (by omega)
    · exfalso; omega
    · exfalso; omega
    · rw [decide_eq_false ha, decide_eq_false hb]
      left
      rw [ends0 (by omega)]
      rfl
theorem inB_spot {φ : Fr} (hw : 1 ≤ φ.W) (hk : φ.k ≠ 0) {v x : Int} (hv : 1 ≤ v) : ∀ l : List Int, inB (spot φ x 0 v) (l.map fun t => spot φ t 0 v) = inI x l
  | [] => rfl
  | y :: l => by
    show (eqB (spot φ x 0 v) (spot φ y 0 v) || inB (spot φ x 0 v) (l.map fun t => spot φ t 0 v)) = (decide (x = y) || inI x l)
    rw [inB_spot hw hk hv l]
    congr 1
    by_cases e : x = y
    · rw [e, decide_eq_true rfl]
      exact eqB_iff.mpr rfl
    · rw [decide_eq_false e]
      exact eqB_no.mpr (ne_spot hw hk hv (.inl e))
theorem filt_map {f : P3 → Bool} {g : Int → P3} {l : List Int} {h : Int → Bool} (e : ∀ x, f (g x) = h x) : (l.map g).filter f = (l.filter h).map g := by
  induction l with
  | nil => rfl
  | cons x l ih =>
    rw [List.map_cons, List.filter_cons, List.filter_cons, e, ih]
    cases h x <;> rfl
theorem meet_same4 {φ : Fr} (hw : 1 ≤ φ.W) (hk : φ.k ≠ 0) {a b c d v : Int} (hv : 1 ≤ v) : meet4 (spot φ a 0 v) (spot φ b 0 v) (spot φ c 0 v) (spot φ d 0 v) = sort2 ((ends a b c d).map fun t => spot φ t 0 v) := by
  unfold meet4
  by_cases hab : a = b
  · subst hab
    rw [if_pos (eqB_iff.mpr rfl), bet_line hw hk hv]
    unfold ends
    by_cases h : min c d ≤ a ∧ a ≤ max c d
    · rw [if_pos (decide_eq_true h), if_pos (by omega), if_pos (by omega), show max (min a a) (min c d) = a by omega]
      rfl
    · rw [if_neg (fun z => h (of_decide_eq_true z)), if_neg (by omega)]
      rfl
  rw [if_neg (fun z => ne_spot hw hk hv (.inl hab) (eqB_iff.mp z))]
  by_cases hcd : c = d
  · subst hcd
    rw [if_pos (eqB_iff.mpr rfl), bet_line hw hk hv]
    unfold ends
    by_cases h : min a b ≤ c ∧ c ≤ max a b
    · rw [if_pos (decide_eq_true h), if_pos (by omega), if_pos (by omega), show max (min a b) (min c c) = c by omega]
      rfl
    · rw [if_neg (fun z => h (of_decide_eq_true z)), if_neg (by omega)]
      rfl
  rw [if_neg (fun z => ne_spot hw hk hv (.inl hcd) (eqB_iff.mp z))]
  have z : ∀ x, dot (lineOf (spot φ a 0 v) (spot φ b 0 v)) (spot φ x 0 v) = 0 := fun x => by
    have r := sgn_ruler hw hk (a := a) (b := 0) (c := b) (d := 0) (e := x) (f := 0) hv (.inl hab)
    rw [show (b - a) * (0 - 0) - (0 - 0) * (x - a) = 0 by grind] at r
    exact (zero_by (sense_1 φ) r).mpr rfl
  unfold share
  rw [z, z, if_neg (by decide), if_pos ⟨rfl, rfl⟩]
  have m2 : ∀ x y : Int, [spot φ x 0 v, spot φ y 0 v] = [x, y].map (fun t => spot φ t 0 v) := fun _ _ => rfl
  have e1 : ([c, d].map (fun t => spot φ t 0 v)).filter (fun t => between t (spot φ a 0 v) (spot φ b 0 v)) = ([c, d].filter (fun t => decide (min a b ≤ t ∧ t ≤ max a b))).map (fun t => spot φ t 0 v) :=
    filt_map (f := fun t => between t (spot φ a 0 v) (spot φ b 0 v)) (g := fun t => spot φ t 0 v) (h := fun t => decide (min a b ≤ t ∧ t ≤ max a b)) fun x => bet_line hw hk hv
  rw [m2 c d, m2 a b, e1]
  generalize hF : [c, d].filter (fun t => decide (min a b ≤ t ∧ t ≤ max a b)) = F
  have e2 : ([a, b].map (fun t => spot φ t 0 v)).filter (fun t => !inB t (F.map (fun t => spot φ t 0 v)) && between t (spot φ c 0 v) (spot φ d 0 v)) = ([a, b].filter (fun t => !inI t F && decide (min c d ≤ t ∧ t ≤ max c d))).map (fun t => spot φ t 0 v) :=
    filt_map (f := fun t => !inB t (F.map (fun t => spot φ t 0 v)) && between t (spot φ c 0 v) (spot φ d 0 v)) (g := fun t => spot φ t 0 v) (h := fun t => !inI t F && decide (min c d ≤ t ∧ t ≤ max c d)) fun x => by
      show (!inB (spot φ x 0 v) (F.map fun t => spot φ t 0 v) && between (spot φ x 0 v) (spot φ c 0 v) (spot φ d 0 v)) = (!inI x F && decide (min c d ≤ x ∧ x ≤ max c d))
      rw [inB_spot hw hk hv, bet_line hw hk hv]
  rw [e2, ← List.map_append]
  rcases got_ends hab hcd with g | ⟨x, y, g1, g2⟩
  · unfold got at g
    rw [hF] at g
    rw [g]
  · unfold got at g1
    rw [hF] at g1
    rw [g1, g2]
    exact sort2_comm _ _
theorem ends_swap (a b c d : Int) : ends b a c d = ends a b c d := by
  unfold ends
  rw [Int.min_comm b a, Int.max_comm b a]
theorem ends_turn (a b c d : Int) : ends c d a b = ends a b c d := by
  unfold ends
  rw [Int.max_comm (min c d), Int.min_comm (max c d)]
end PM
set_option Elab.async false
set_option linter.all false
set_option maxRecDepth 100000
set_option maxHeartbeats 2000000
namespace Q
open PySem L2 PySem.Spec PyProof.Rows PySem.Calls
open PM Evl
abbrev sShP : Stmt := top 16
/-- points in their places, one by one -/
inductive PtsA (H : Hp) : List Addr → List P3 → Prop where
  | nil : PtsA H [] []
  | cons {a : Addr} {p : P3} {as : List Addr} {ps : List P3} (h : PtA H a p) (t : PtsA H as ps) : PtsA H (a :: as) (p :: ps)
theorem PtsA.mono {H H' : Hp} (e : Ex H H') {as : List Addr} {ps : List P3} (h : PtsA H as ps) : PtsA H' as ps := by
  induction h with
  | nil => exact .nil
  | cons h _ ih => exact .cons (pt_mono e h) ih
theorem PtsA.app {H : Hp} {as bs : List Addr} {ps qs : List P3} (h : PtsA H as ps) (k : PtsA H bs qs) : PtsA H (as ++ bs) (ps ++ qs) := by
  induction h with
  | nil => exact k
  | cons h _ ih => exact .cons h ih
theorem PtsA.len {H : Hp} {as : List Addr} {ps : List P3} (h : PtsA H as ps) : as.length = ps.length := by
  induction h with
  | nil => rfl
  | cons _ _ ih => rw [List.length_cons, List.length_cons, ih]
theorem PtsA.dp {K : PySem.W.Frag} {H : Hp} {as : List Addr} {ps : List P3} (h : PtsA H as ps) : DpAll K H (as.map V.ref) (ps.map dP) := by
  induction h with
  | nil => exact .nil
  | cons h _ ih => exact .cons (dp_of h.h) ih
theorem given2 (f : Nat → Bool) (v : Nat → V) : given 2 f v = (if f 0 = true then [v 0] else []) ++ (if f 1 = true then [v 1] else []) := by
  unfold given
  rw [show List.range 2 = [0, 1] from rfl, List.filter_cons, List.filter_cons]
  cases f 0 <;> cases f 1 <;> rfl
theorem giv2 {H : Hp} {f : Nat → Bool} {v : Nat → V} {x y : Addr} {p q : P3} {g : P3 → Bool} (h0 : f 0 = g p) (h1 : f 1 = g q) (v0 : v 0 = .ref x) (v1 : v 1 = .ref y) (hx : PtA H x p) (hy : PtA H y q) : ∃ ls : List Addr, given 2 f v = ls.map V.ref ∧ PtsA H ls ([p, q].filter g) := by
  rw [given2, h0, h1, v0, v1, List.filter_cons, List.filter_cons]
  cases g p <;> cases g q
  · exact ⟨[], rfl, .nil⟩
  · exact ⟨[y], rfl, .cons hy .nil⟩
  · exact ⟨[x], rfl, .cons hx .nil⟩
  · exact ⟨[x, y], rfl, .cons hx (.cons hy .nil)⟩
theorem any_inB (t : P3) : ∀ F : List P3, ((F.map dP).any fun z => PyData.eqv z (dP t)) = inB t F
  | [] => rfl
  | q :: F => by
    show (PyData.eqv (dP q) (dP t) || (F.map dP).any fun z => PyData.eqv z (dP t)) = (eqB t q || inB t F)
    rw [any_inB t F]
    congr 1
    by_cases e : q = t
    · rw [(eqv_dP q t).mpr e, eqB_iff.mpr e.symm]
    · rw [Bool.eq_false_iff.mpr fun z => e ((eqv_dP q t).mp z), eqB_no.mpr fun z => e z.symm]
theorem shaped_dPs : ∀ F : List P3, F.length ≤ 2 → SeqAt.shaped (.list (F.map dP)) = true
  | [], _ => rfl
  | [_], _ => rfl
  | [_, _], _ => rfl
  | _ :: _ :: _ :: _, h => by simp at h
section
variable {K : PySem.W.Frag} {σ : L2.St} {H : Hp} {t : TT} {te ta tb : TE} {v : V}
theorem el_lcT {a : Addr} {xs : List V} {tl : TE} {j : Nat} {vs : List Nat} (f : Nat → Bool) (v : Nat → V) (h : Ev tl σ H (.ref a)) (hx : SqT K H a xs) (hz : xs.length ≤ 40000) (hw : ∀ x, wipe ((wipe σ vs).set j (some x)) vs = wipe σ vs)
    (ht : ∀ (i : Nat) (x : V) H1, Ex H H1 → xs[i]? = some x → EvT t ((wipe σ vs).set j (some x)) H1 (f i)) (he : ∀ (i : Nat) (x : V) H1, Ex H H1 → xs[i]? = some x → f i = true → Ev te ((wipe σ vs).set j (some x)) H1 (v i)) :
    EvL (tLc (iTup K tl) (gName j) t te vs) σ H (given xs.length f v) := fun H0 e Q q => h H0 e _ fun H1 e1 => ⟨a, rfl, ⟨xs, ex_t (e.trans e1) hx⟩, fun Dl hD =>
  lc_tup (xs := xs) (Cw H1 f v Dl) ⟨hD, Ex.new hD, upd_same⟩ (fun i H' _ p => ex_t ((e.trans e1).trans p.2.1) hx) (fun i x H' hi p => ⟨hw x, cw_turn p (by have := (List.getElem?_eq_some_iff.mp hi).1; omega) (ht i x H1 (e.trans e1) hi) (fun hf => he i x H1 (e.trans e1) hi hf)⟩)
    (fun H' p => q Dl H' (fresh_back e1 p.1) (e1.trans p.2.1) p.2.2)⟩
theorem ev_val {la pa : Addr} {l p : P3} {E : XK} (h1 : Ev ta σ H (.ref la)) (h2 : Ev tb σ H (.ref pa)) (hl : H la = some (.tup l.vs)) (hp : H pa = some (.tup p.vs)) (bl : B3 2001 l) (bp : B3 1000 p) : Ev (tCall spVal [] E (tCons ta (tCons tb tNil))) σ H (.int (dot l p)) :=
  ev_call (ea_cons h1 (ea_cons h2 ea_nil)) fun H1 e Q q E => ⟨la, pa, l, p, rfl, e _ _ hl, e _ _ hp, bl, bp, q H1 (Ex.refl _)⟩
theorem ev_lies {tc : TE} {E : XK} {p q r : P3} (h1 : EvPt ta σ H p) (h2 : EvPt tb σ H q) (h3 : EvPt tc σ H r) : Ev (tCall spLies [] E (tCons ta (tCons tb (tCons tc tNil)))) σ H (.bl (between p q r)) := fun H1 e Q k =>
  h1 H1 e _ fun l1 H2 e2 x1 => h2 H2 (e.trans e2) _ fun l2 H3 e3 x2 => h3 H3 ((e.trans e2).trans e3) _ fun l3 H4 e4 x3 =>
    ⟨l1, l2, l3, p, q, r, rfl, (pt_mono (e3.trans e4) x1).h, (pt_mono e4 x2).h, x3.h, x1.b, x2.b, x3.b, fun H5 e5 => k H5 (((e2.trans e3).trans e4).trans e5)⟩
theorem ept_ix {a l : Addr} {xs : List V} {p : P3} {k : Int} (h : Ev te σ H (.ref a)) (ha : H a = some (.tup xs)) (hk : atI xs k = some (.ref l)) (x : PtA H l p) : EvPt (tOp (rIxT K) te (tC (.int k))) σ H p := fun H1 e Q q =>
  (ev_ixT h ha hk) H1 e Q fun H2 e2 => q l H2 e2 (pt_mono (e.trans e2) x)
theorem el_cat {x : Addr} {xs ys : List V} (h : Ev ta σ H (.ref x)) (hx : H x = some (.lst xs)) (hb : EvL tb σ H ys) (hz : xs.length + ys.length ≤ 100000) : EvL (tOp rCat ta tb) σ H (xs ++ ys) := fun H1 e Q q =>
  h H1 e _ fun H2 e2 => hb H2 (e.trans e2) _ fun l H3 hl e3 hl3 => ⟨x, l, xs, ys, rfl, rfl, e3 _ _ (e2 _ _ (e _ _ hx)), hl3, sz_of hz, fun p hp => q p _ (fresh_back (e2.trans e3) hp) ((e2.trans e3).trans (Ex.new hp)) upd_same⟩
theorem q_par {i j : Nat} {v1 v2 : V} {D : Ends} {tz : TS} (h1 : Ev ta σ H v1) (h2 : Ev tb σ H v2) (k : ∀ H1, Ex H H1 → tz D ((σ.set i (some v1)).set j (some v2)) H1) : tSeq (tPar i j (tCons ta (tCons tb tNil))) tz D σ H :=
  h1 H (Ex.refl H) _ fun H2 e2 => h2 H2 e2 _ fun H3 e3 => ⟨_, _, rfl, k H3 (e2.trans e3)⟩
/-- for .. in (t1, t2, t3, t4), four tuples made there -/
theorem q_for4 {x1 x2 x3 x4 : List V} {g : TG} {tu tz : TS} {D : Ends} {tc td : TE} (h1 : EvU ta σ H x1) (h2 : EvU tb σ H x2) (h3 : EvU tc σ H x3) (h4 : EvU td σ H x4)
    (k : ∀ (t1 t2 t3 t4 tt : Addr) (HT : Hp), Ex H HT → HT tt = some (.tup [.ref t1, .ref t2, .ref t3, .ref t4]) → HT t1 = some (.tup x1) → HT t2 = some (.tup x2) → HT t3 = some (.tup x3) → HT t4 = some (.tup x4) →
      ∃ Pv : Nat → L2.St → Hp → Prop, Pv 0 σ HT ∧ (∀ i σ' H', Pv i σ' H' → Ex HT H') ∧ (∀ i x σ' H', [V.ref t1, V.ref t2, V.ref t3, V.ref t4][i]? = some x → Pv i σ' H' → g x σ' H' fun σ2 H2 => tu { D with nx := Pv (i + 1), ct := Pv (i + 1), bk := tz D } σ2 H2) ∧ ∀ σ' H', Pv 4 σ' H' → tz D σ' H') :
    tSeq (tFor (iTup K (tTup (tCons ta (tCons tb (tCons tc (tCons td tNil)))))) g tu) tz D σ H :=
  h1 H (Ex.refl H) _ fun t1 H6 _ e6 g6 => h2 H6 e6 _ fun t2 H7 _ e7 g7 => h3 H7 (e6.trans e7) _ fun t3 H8 _ e8 g8 => h4 H8 ((e6.trans e7).trans e8) _ fun t4 H9 _ e9 g9 =>
    ⟨(by show 4 ≤ sizeLine; decide), fun tt htt => ⟨tt, rfl, ⟨_, SqT.of upd_same⟩, by
      have eN := Ex.new (o := .tup [.ref t1, .ref t2, .ref t3, .ref t4]) htt
      obtain ⟨Pv, p0, pe, ps, pd⟩ := k t1 t2 t3 t4 tt _ ((((e6.trans e7).trans e8).trans e9).trans eN) upd_same (eN _ _ (e9 _ _ (e8 _ _ (e7 _ _ g6)))) (eN _ _ (e9 _ _ (e8 _ _ g7))) (eN _ _ (e9 _ _ g8)) (eN _ _ g9)
      exact for_tup (xs := [.ref t1, .ref t2, .ref t3, .ref t4]) (D := { D with nx := tz D }) Pv p0 (fun i σ' H' _ h => SqT.of (pe i σ' H' h _ _ upd_same)) ps pd⟩⟩
/-- a > 0 and b > 0 or (a < 0 and b < 0) -/
theorem et_same {i j : Nat} {m n : Int} (h1 : σ[i]? = some (some (.int m))) (h2 : σ[j]? = some (some (.int n))) :
    EvT (tOr (tAnd (tTest (tOp (rI0 fun i j => .bl (decide (j < i))) (tVar i) (tC (.int 0)))) (tTest (tOp (rI0 fun i j => .bl (decide (j < i))) (tVar j) (tC (.int 0))))) (tAnd (tTest (tOp (rI0 fun i j => .bl (decide (i < j))) (tVar i) (tC (.int 0)))) (tTest (tOp (rI0 fun i j => .bl (decide (i < j))) (tVar j) (tC (.int 0)))))) σ H (sameS m n) :=
  et_is (et_or (et_and (et_test (ev_op (ev_var h1) ev_c rv_I0)) fun _ => et_test (ev_op (ev_var h2) ev_c rv_I0)) fun _ => et_and (et_test (ev_op (ev_var h1) ev_c rv_I0)) fun _ => et_test (ev_op (ev_var h2) ev_c rv_I0)) rfl
end
end Q
set_option Elab.async false
set_option linter.all false
set_option maxRecDepth 100000
set_option maxHeartbeats 4000000
namespace Q
open PySem L2 PySem.Spec PyProof.Rows PySem.Calls
open PM Evl
def spShP : Sp := fun vs H Q _ => ∃ (o t lu lo a b c d : Addr) (p q r s : P3), vs = [.ref o, .ref t, .ref lu, .ref lo] ∧ H o = some (.tup [.ref a, .ref b]) ∧ H t = some (.tup [.ref c, .ref d]) ∧ PtA H a p ∧ PtA H b q ∧ PtA H c r ∧ PtA H d s ∧
  H lu = some (.tup (lineOf p q).vs) ∧ H lo = some (.tup (lineOf r s).vs) ∧
  (sameS (dot (lineOf p q) r) (dot (lineOf p q) s) = false → ¬ (dot (lineOf p q) r = 0 ∧ dot (lineOf p q) s = 0) → (mt p q r s).w ≠ 0 ∧ Pt (mts p q r s) ∧ B3 1000 (mts p q r s)) ∧
  ∀ (l : Addr) (as : List Addr) H', H l = none → Ex H H' → H' l = some (.lst (as.map V.ref)) → PtsA H' as (share p q r s) → Q (.ref l) H'
section
variable {P : Program} {w : World} {K : PySem.W.Frag} {mg : Str → Option Value} {base : Heap}
theorem room65 {k : Nat} {A : Around} (r : Room k A) : A.units + 65 < cLine := by have := r.un; omega
theorem scShP : FnScope ["one", "two", "ruler", "other", "start", "end", "found", "first", "last", "value", "point"] ["one", "two", "ruler", "other"] (defScope sShP) := ⟨rfl, rfl, rfl, by decide +kernel, rfl, by decide +kernel, by decide +kernel⟩
theorem ok_shP {f : Addr} {fd : FuncData} (F : Fun K "shared_points" "shared_points" sShP f fd) (CV : Cl P w K mg base 1 "value_at" spVal) (CL : Cl P w K mg base 3 "lies_between" spLies) (CC : Cl P w K mg base 2 "cross_point" spCross) :
    FnOk P w K mg base CX0 4 f fd ["one", "two", "ruler", "other"] spShP := by
  refine F.ok scShP (fun vs H Q E h => ?_) (fun cdv A outer s H vs Q E hr h => ?_)
  · obtain ⟨o, t, lu, lo, a, b, c, d, p, q, r, s, rfl, _⟩ := h
    rfl
  · obtain ⟨o, t, lu, lo, a, b, c, d, p, q, r, s, rfl, ho, ht, ha, hb, hc, hd, hlu, hlo, hx, k⟩ := h
    have hu := room65 hr
    refine ⟨_, (pss_cons (ps_par (i := 4) (j := 5) (by rfl) scShP.nd rfl rfl (by decide) rfl rfl (pa_cons (pe_cl CV hr (by decide) (by rfl) (pa_cons (pv 2) (pa_cons ((pe_ix ix_tup (pv 1) pe_int (fun _ _ => rfl))) pa_nil))) (pa_cons (pe_cl CV hr (by decide) (by rfl) (pa_cons (pv 2) (pa_cons ((pe_ix ix_tup (pv 1) pe_int (fun _ _ => rfl))) pa_nil))) pa_nil)) (by rfl))
      (pss_cons (ps_if (pw_or (pw_and (pt_cmpR op_gt (pv 4) pe_int (nomark _)) (pw_and1 (pt_cmpR op_gt (pv 5) pe_int (nomark _)))).pt (pw_or1 (pw_and (pt_cmpR op_lt (pv 4) pe_int (nomark _)) (pw_and1 (pt_cmpR op_lt (pv 5) pe_int (nomark _)))).pt)).pt (pss_one (ps_ret (pe_lst pa_nil))) pss_nil)
      (pss_cons (ps_if (pw_and (pt_cmpR op_eq (pv 4) pe_int (nomark _)) (pw_and1 (pt_cmpR op_eq (pv 5) pe_int (nomark _)))).pt
          (pss_cons (ps_set (i := 6) scShP.nd rfl (Or.inr rfl) (pe_lc (own := [("point", 10)]) (g := gName 10) (by rfl) scShP.nd (pi_tup (pv 1))
              (blkOk_by (own := [("point", 10)]) (N := ["one", "two", "ruler", "other", "start", "end", "found", "first", "last", "value", "point"]) (sc := defScope sShP) (by decide +kernel))
              (fun _ _ _ _ _ => pg_name (i := 10) scShP.nd rfl (Or.inl rfl)) (fun _ _ _ _ _ => pts_one (by exact (pt_val (pe_cl CL hr (by decide) (by rfl) (by exact (pa_cons (pv 10) (pa_cons ((pe_ix ix_tup (pv 0) pe_int (fun _ _ => rfl))) (pa_cons ((pe_ix ix_tup (pv 0) pe_int (fun _ _ => rfl))) pa_nil))))))))
              (tt := tB (tCall spLies [] E0 (tCons (tVar 10) (tCons (tOp (rIxT K) (tVar 0) (tC (.int 0))) (tCons (tOp (rIxT K) (tVar 0) (tC (.int 1))) tNil))))) (te := tVar 10) (fun _ _ _ _ _ => by exact (pv 10))))
          (pss_one (ps_ret (pe_op op_cat (pv 6) (pe_lc (own := [("point", 10)]) (g := gName 10) (by rfl) scShP.nd (pi_tup (pv 0))
              (blkOk_by (own := [("point", 10)]) (N := ["one", "two", "ruler", "other", "start", "end", "found", "first", "last", "value", "point"]) (sc := defScope sShP) (by decide +kernel))
              (fun _ _ _ _ _ => pg_name (i := 10) scShP.nd rfl (Or.inl rfl)) (fun _ _ _ _ _ => pts_one (by exact (pw_and (pt_cmpR (op_notInD hu) (pv 10) (pv 6) (by rfl)) (pw_and1 (pt_val (pe_cl CL hr (by decide) (by rfl) (by exact (pa_cons (pv 10) (pa_cons ((pe_ix ix_tup (pv 1) pe_int (fun _ _ => rfl))) (pa_cons ((pe_ix ix_tup (pv 1) pe_int (fun _ _ => rfl))) pa_nil)))))))).pt))
              (tt := tAnd (tTest (tOp (rNotInD K) (tVar 10) (tVar 6))) (tB (tCall spLies [] E0 (tCons (tVar 10) (tCons (tOp (rIxT K) (tVar 1) (tC (.int 0))) (tCons (tOp (rIxT K) (tVar 1) (tC (.int 1))) tNil)))))) (te := tVar 10) (fun _ _ _ _ _ => by exact (pv 10))))))) pss_nil)
      (pss_cons (ps_par (i := 7) (j := 8) (by rfl) scShP.nd rfl rfl (by decide) rfl rfl (pa_cons (pe_cl CV hr (by decide) (by rfl) (pa_cons (pv 3) (pa_cons ((pe_ix ix_tup (pv 0) pe_int (fun _ _ => rfl))) pa_nil))) (pa_cons (pe_cl CV hr (by decide) (by rfl) (pa_cons (pv 3) (pa_cons ((pe_ix ix_tup (pv 0) pe_int (fun _ _ => rfl))) pa_nil))) pa_nil)) (by rfl))
      (pss_cons (ps_if (pw_or (pw_and (pt_cmpR op_gt (pv 7) pe_int (nomark _)) (pw_and1 (pt_cmpR op_gt (pv 8) pe_int (nomark _)))).pt (pw_or1 (pw_and (pt_cmpR op_lt (pv 7) pe_int (nomark _)) (pw_and1 (pt_cmpR op_lt (pv 8) pe_int (nomark _)))).pt)).pt (pss_one (ps_ret (pe_lst pa_nil))) pss_nil)
      (pss_cons (ps_for PassesOwn.never rfl (pi_tup (pe_tup (pa_cons (pe_tup (pa_cons (pv 4) (pa_cons ((pe_ix ix_tup (pv 1) pe_int (fun _ _ => rfl))) pa_nil))) (pa_cons (pe_tup (pa_cons (pv 5) (pa_cons ((pe_ix ix_tup (pv 1) pe_int (fun _ _ => rfl))) pa_nil))) (pa_cons (pe_tup (pa_cons (pv 7) (pa_cons ((pe_ix ix_tup (pv 0) pe_int (fun _ _ => rfl))) pa_nil))) (pa_cons (pe_tup (pa_cons (pv 8) (pa_cons ((pe_ix ix_tup (pv 0) pe_int (fun _ _ => rfl))) pa_nil))) pa_nil)))))) (pg_tup (by rfl) (pgs_cons (pg_name (i := 9) scShP.nd rfl (.inl rfl)) (pgs_cons (pg_name (i := 10) scShP.nd rfl (.inl rfl)) pgs_nil)))
          (pss_one (ps_if (pt_cmpR op_eq (pv 9) pe_int (nomark _)) (pss_one (ps_ret (pe_lst (pa_cons (pv 10) pa_nil)))) pss_nil)))
      (pss_one (ps_ret (pe_lst (pa_cons (pe_cl CC hr (by decide) (by rfl) (pa_cons (pv 2) (pa_cons (pv 3) pa_nil))) pa_nil)))))))))), ?_⟩
    have st0 : ∀ m : Int, (V.int m = V.int 0) ↔ m = 0 := fun m => ⟨fun h => by injection h, fun h => by rw [h]⟩
    refine q_par (ev_val (ev_var rfl) (ev_ixT (ev_var rfl) ht rfl) hlu hc.h (B3.line ha.b hb.b) hc.b) (ev_val (ev_var rfl) (ev_ixT (ev_var rfl) ht rfl) hlu hd.h (B3.line ha.b hb.b) hd.b) fun H1 e1 => ?_
    unfold share at k
    generalize hst : dot (lineOf p q) r = st at k hx ⊢
    generalize hen : dot (lineOf p q) s = en at k hx ⊢
    refine q_when (et_same rfl rfl) (fun hs H2 e2 => ?_) (fun hs H2 e2 => ?_)
    · rw [if_pos hs] at k
      exact s_retL (el_lst ea_nil (by decide)) fun l H3 hl e3 hl3 => k l [] H3 (fresh_back (e1.trans e2) hl) ((e1.trans e2).trans e3) hl3 .nil
    rw [hs, if_neg (by decide)] at k
    have e12 := e1.trans e2
    refine q_when (et_and (et_test (ev_op (ev_var rfl) ev_c (rv_eq rfl))) fun _ => et_test (ev_op (ev_var rfl) ev_c (rv_eq rfl))) (fun hz H3 e3 => ?_) (fun hz H3 e3 => ?_)
    · obtain ⟨z1, z2⟩ := Bool.and_eq_true_iff.mp hz
      have z1 := (st0 _).mp (of_decide_eq_true z1)
      have z2 := (st0 _).mp (of_decide_eq_true z2)
      rw [if_pos ⟨z1, z2⟩] at k
      have e13 := e12.trans e3
      have ho3 := e13 _ _ ho
      have ht3 := e13 _ _ ht
      have ha3 := pt_mono e13 ha
      have hb3 := pt_mono e13 hb
      have hc3 := pt_mono e13 hc
      have hd3 := pt_mono e13 hd
      refine q_asgL (el_lcT (fun i => if i = 0 then between r p q else between s p q) (fun i => if i = 0 then .ref c else .ref d) (ev_var rfl) (SqT.of ht3) (by show 2 ≤ 40000; decide) (fun _ => rfl) (fun i x H4 e4 hx => ?_) (fun i x H4 e4 hx _ => ?_)) fun l4 H4 hl4 e4 hq4 => ?_
      · match i, hx with
        | 0, hx =>
          cases hx
          exact et_B (ev_lies (ept_var rfl (pt_mono e4 hc3)) (ept_ix (ev_var rfl) (e4 _ _ ho3) rfl (pt_mono e4 ha3)) (ept_ix (ev_var rfl) (e4 _ _ ho3) rfl (pt_mono e4 hb3)))
        | 1, hx =>
          cases hx
          exact et_B (ev_lies (ept_var rfl (pt_mono e4 hd3)) (ept_ix (ev_var rfl) (e4 _ _ ho3) rfl (pt_mono e4 ha3)) (ept_ix (ev_var rfl) (e4 _ _ ho3) rfl (pt_mono e4 hb3)))
        | i + 2, hx => cases hx
      · match i, hx with
        | 0, hx =>
          cases hx
          exact ev_var rfl
        | 1, hx =>
          cases hx
          exact ev_var rfl
        | i + 2, hx => cases hx
      obtain ⟨ls, el, pl⟩ := giv2 (H := H4) (f := fun i => if i = 0 then between r p q else between s p q) (v := fun i => if i = 0 then .ref c else .ref d) (x := c) (y := d) (g := fun t => between t p q) rfl rfl rfl rfl (pt_mono e4 hc3) (pt_mono e4 hd3)
      have hq4 : H4 l4 = some (.lst (ls.map V.ref)) := by
        rw [← el]
        exact hq4
      have lz : ls.length ≤ 2 := by
        rw [pl.len]
        exact List.length_filter_le _ [r, s]
      have sF := shaped_dPs ([r, s].filter fun t => between t p q) (List.length_filter_le _ [r, s])
      generalize [r, s].filter (fun t => between t p q) = F at k pl sF
      have ho4 := e4 _ _ ho3
      have ht4 := e4 _ _ ht3
      have ha4 := pt_mono e4 ha3
      have hb4 := pt_mono e4 hb3
      have hc4 := pt_mono e4 hc3
      have hd4 := pt_mono e4 hd3
      have nin : ∀ {σ : L2.St} {i j : Nat} {x : Addr} {t : P3} {H5 : Hp}, σ[i]? = some (some (.ref x)) → σ[j]? = some (some (.ref l4)) → Ex H4 H5 → PtA H5 x t → EvT (tTest (tOp (rNotInD K) (tVar i) (tVar j))) σ H5 (!inB t F) := fun h1 h2 e5 hx => by
        refine et_test (ev_op (ev_var h1) (ev_var h2) (rv_val fun H6 e6 Q q => ⟨dP _, F.map dP, dp_of (pt_mono e6 hx).h, .lst (SqL.of (e6 _ _ (e5 _ _ hq4))) ((pl.mono (e5.trans e6)).dp), shaped_dP _, sF, ?_⟩))
        rw [any_inB]
        exact q
      refine s_retL (el_cat (ev_var rfl) hq4 (el_lcT (fun i => if i = 0 then (!inB p F && between p r s) else (!inB q F && between q r s)) (fun i => if i = 0 then .ref a else .ref b) (ev_var rfl) (SqT.of ho4) (by show 2 ≤ 40000; decide) (fun _ => rfl) (fun i x H5 e5 hx => ?_) (fun i x H5 e5 hx _ => ?_)) ?_) fun l6 H6 hl6 e6 hq6 => ?_
      · match i, hx with
        | 0, hx =>
          cases hx
          exact et_and (nin rfl rfl e5 (pt_mono e5 ha4)) fun _ => et_B (ev_lies (ept_var rfl (pt_mono e5 ha4)) (ept_ix (ev_var rfl) (e5 _ _ ht4) rfl (pt_mono e5 hc4)) (ept_ix (ev_var rfl) (e5 _ _ ht4) rfl (pt_mono e5 hd4)))
        | 1, hx =>
          cases hx
          exact et_and (nin rfl rfl e5 (pt_mono e5 hb4)) fun _ => et_B (ev_lies (ept_var rfl (pt_mono e5 hb4)) (ept_ix (ev_var rfl) (e5 _ _ ht4) rfl (pt_mono e5 hc4)) (ept_ix (ev_var rfl) (e5 _ _ ht4) rfl (pt_mono e5 hd4)))
        | i + 2, hx => cases hx
      · match i, hx with
        | 0, hx =>
          cases hx
          exact ev_var rfl
        | 1, hx =>
          cases hx
          exact ev_var rfl
        | i + 2, hx => cases hx
      · rw [List.length_map]
        have := given_len 2 (fun i => if i = 0 then (!inB p F && between p r s) else (!inB q F && between q r s)) (fun i => if i = 0 then V.ref a else .ref b)
        show ls.length + (given 2 _ _).length ≤ 100000
        omega
      obtain ⟨ms, em, pm⟩ := giv2 (H := H6) (f := fun i => if i = 0 then (!inB p F && between p r s) else (!inB q F && between q r s)) (v := fun i => if i = 0 then .ref a else .ref b) (x := a) (y := b) (g := fun t => !inB t F && between t r s) rfl rfl rfl rfl (pt_mono e6 ha4) (pt_mono e6 hb4)
      refine k l6 (ls ++ ms) H6 (fresh_back (e13.trans e4) hl6) ((e13.trans e4).trans e6) ?_ ((pl.mono e6).app pm)
      rw [List.map_append, ← em]
      exact hq6
    have nz : ¬ (st = 0 ∧ en = 0) := fun ⟨z1, z2⟩ => by
      rw [z1, z2] at hz
      simp at hz
    rw [if_neg nz] at k
    obtain ⟨w0, mp, mb⟩ := hx hs nz
    have e13 := e12.trans e3
    have hlo3 := e13 _ _ hlo
    have ho3 := e13 _ _ ho
    refine q_par (ev_val (ev_var rfl) (ev_ixT (ev_var rfl) ho3 rfl) hlo3 (pt_mono e13 ha).h (B3.line hc.b hd.b) ha.b) (ev_val (ev_var rfl) (ev_ixT (ev_var rfl) ho3 rfl) hlo3 (pt_mono e13 hb).h (B3.line hc.b hd.b) hb.b) fun H4 e4 => ?_
    generalize hfi : dot (lineOf r s) p = fi at k ⊢
    generalize hla : dot (lineOf r s) q = la at k ⊢
    refine q_when (et_same rfl rfl) (fun hs H5 e5 => ?_) (fun hs H5 e5 => ?_)
    · rw [if_pos hs] at k
      exact s_retL (el_lst ea_nil (by decide)) fun l H6 hl e6 hl6 => k l [] H6 (fresh_back ((e13.trans e4).trans e5) hl) (((e13.trans e4).trans e5).trans e6) hl6 .nil
    rw [hs, if_neg (by decide)] at k
    have e15 := (e13.trans e4).trans e5
    have ho5 := e15 _ _ ho
    have ht5 := e15 _ _ ht
    refine q_for4 (eu_tup (ea_cons (ev_var rfl) (ea_cons (ev_ixT (ev_var rfl) ht5 rfl) ea_nil)) (by show 2 ≤ 100000; decide)) (eu_tup (ea_cons (ev_var rfl) (ea_cons (ev_ixT (ev_var rfl) ht5 rfl) ea_nil)) (by show 2 ≤ 100000; decide)) (eu_tup (ea_cons (ev_var rfl) (ea_cons (ev_ixT (ev_var rfl) ho5 rfl) ea_nil)) (by show 2 ≤ 100000; decide)) (eu_tup (ea_cons (ev_var rfl) (ea_cons (ev_ixT (ev_var rfl) ho5 rfl) ea_nil)) (by show 2 ≤ 100000; decide))
      fun t1 t2 t3 t4 tt HT eT _ g6 g7 g8 g9 => ?_
    have e19 := e15.trans eT
    have xa := pt_mono e19 ha
    have xb := pt_mono e19 hb
    have xc := pt_mono e19 hc
    have xd := pt_mono e19 hd
    generalize hW : (if st = 0 then [r] else if en = 0 then [s] else if fi = 0 then [p] else if la = 0 then [q] else [mts p q r s]) = whole at k
    have step : ∀ (D : Ends) (tu x : Addr) (m : Int) (y : P3) (σ' : L2.St) (H' : Hp) (Pn : Prop), Ex HT H' → HT tu = some (.tup [.int m, .ref x]) → PtA HT x y → (m = 0 → whole = [y]) → (m ≠ 0 → Pn) →
        (∃ u v, σ' = [some (.ref o), some (.ref t), some (.ref lu), some (.ref lo), some (.int st), some (.int en), none, some (.int fi), some (.int la), u, v]) → (∀ l H', Q (.ref l) H' → D.rt (.ref l) H') → (∀ u v H2, Ex HT H2 → Pn → D.nx [some (.ref o), some (.ref t), some (.ref lu), some (.ref lo), some (.int st), some (.int en), none, some (.int fi), some (.int la), u, v] H2) →
        gTup K 2 (gCons (gName 9) (gCons (gName 10) gNil)) (.ref tu) σ' H' fun σ2 H2 => tIfS (tTest (tOp rEq (tVar 9) (tC (.int 0)))) (tRet (tLst (tCons (tVar 10) tNil))) tNext D σ2 H2 := by
      rintro D tu x m y σ' H' Pn eh h1 h2 h3 h4 ⟨u, v, rfl⟩ h5 h6
      refine ⟨tu, _, rfl, SqT.of (eh _ _ h1), rfl, _, _, rfl, _, _, rfl, rfl, ?_⟩
      refine s_when (et_test (ev_op (ev_var rfl) ev_c (rv_eq rfl))) (fun hm H2 e2 => ?_) (fun hm H2 e2 => ?_)
      · have hm := h3 ((st0 m).mp (of_decide_eq_true hm))
        rw [hm] at k
        refine s_retL (el_lst (ea_cons (ev_var (i := 10) rfl) ea_nil) (by show 1 ≤ 100000; decide)) fun l H3 hl e3 hl3 => h5 l H3 (k l [x] H3 (fresh_back ((e19.trans eh).trans e2) hl) (((e19.trans eh).trans e2).trans e3) hl3 (.cons (pt_mono ((eh.trans e2).trans e3) h2) .nil))
      · exact h6 _ _ H2 (eh.trans e2) (h4 fun z => by rw [z] at hm; simp at hm)
    refine ⟨fun i σ' H' => Ex HT H' ∧ whole = (match i with | 0 => whole | 1 => if en = 0 then [s] else if fi = 0 then [p] else if la = 0 then [q] else [mts p q r s] | 2 => if fi = 0 then [p] else if la = 0 then [q] else [mts p q r s] | 3 => if la = 0 then [q] else [mts p q r s] | _ => [mts p q r s]) ∧ ∃ u v, σ' = [some (.ref o), some (.ref t), some (.ref lu), some (.ref lo), some (.int st), some (.int en), none, some (.int fi), some (.int la), u, v], ⟨Ex.refl _, rfl, _, _, rfl⟩, fun i σ' H' h => h.1, fun i x σ' H' hx pv => ?_, fun σ' H' pv => ?_⟩
    · obtain ⟨eh, hw, hσ⟩ := pv
      match i, hx, hw with
      | 0, hx, hw =>
        cases hx
        exact step _ t1 c st r σ' H' (whole = if en = 0 then [s] else if fi = 0 then [p] else if la = 0 then [q] else [mts p q r s]) eh g6 xc (fun z => by rw [← hW, if_pos z]) (fun z => by rw [← hW, if_neg z]) hσ (fun _ _ h => h) fun u v H2 e2 pn => ⟨e2, pn, u, v, rfl⟩
      | 1, hx, hw =>
        cases hx
        exact step _ t2 d en s σ' H' (whole = if fi = 0 then [p] else if la = 0 then [q] else [mts p q r s]) eh g7 xd (fun z => by rw [hw]; exact if_pos z) (fun z => by rw [hw]; exact if_neg z) hσ (fun _ _ h => h) fun u v H2 e2 pn => ⟨e2, pn, u, v, rfl⟩
      | 2, hx, hw =>
        cases hx
        exact step _ t3 a fi p σ' H' (whole = if la = 0 then [q] else [mts p q r s]) eh g8 xa (fun z => by rw [hw]; exact if_pos z) (fun z => by rw [hw]; exact if_neg z) hσ (fun _ _ h => h) fun u v H2 e2 pn => ⟨e2, pn, u, v, rfl⟩
      | 3, hx, hw =>
        cases hx
        exact step _ t4 b la q σ' H' (whole = [mts p q r s]) eh g9 xb (fun z => by rw [hw]; exact if_pos z) (fun z => by rw [hw]; exact if_neg z) hσ (fun _ _ h => h) fun u v H2 e2 pn => ⟨e2, pn, u, v, rfl⟩
      | i + 4, hx, hw => cases hx
    · obtain ⟨eh, hw, u, v, rfl⟩ := pv
      rw [hw] at k
      have eE := e19.trans eh
      refine ⟨_, rfl, _, rfl, lu, lo, lineOf p q, lineOf r s, rfl, eE _ _ hlu, eE _ _ hlo, B3.line ha.b hb.b, B3.line hc.b hd.b, .inr ⟨w0, fun l H6 h1 h2 h3 => ⟨(by show 1 ≤ sizeLine; decide), fun z hz => ?_⟩⟩⟩
      have eZ := Ex.new (o := .lst [.ref l]) hz
      exact k z [l] _ (fresh_back (eE.trans h2) hz) ((eE.trans h2).trans eZ) upd_same (.cons ⟨eZ _ _ h3, mp, mb⟩ .nil)
end
end Q
set_option Elab.async false
set_option linter.all false
set_option maxRecDepth 100000
set_option maxHeartbeats 4000000
/-! sorted of tuples of ints of any sign -/
namespace Lx
open PySem PyProof.Rows
def lexL : List Int → List Int → Bool
  | [], [] => false
  | [], _ :: _ => true
  | _ :: _, [] => false
  | x :: xs, y :: ys => if x = y then lexL xs ys else decide (x < y)
theorem lexL_asym : ∀ {xs ys : List Int}, lexL xs ys = true → lexL ys xs = false
  | [], [], h => by cases h
  | [], _ :: _, _ => rfl
  | _ :: _, [], h => by cases h
  | x :: xs, y :: ys, h => by
    unfold lexL at h ⊢
    by_cases e : x = y
    · rw [if_pos e] at h
      rw [if_pos e.symm]
      exact lexL_asym h
    · rw [if_neg e] at h
      rw [if_neg (fun z => e z.symm)]
      have := of_decide_eq_true h
      exact decide_eq_false (by omega)
theorem lexL_tr : ∀ {xs ys zs : List Int}, lexL ys xs = false → lexL zs ys = false → lexL zs xs = false
  | [], _, [], _, _ => rfl
  | _ :: _, [], [], h, _ => by cases h
  | _ :: _, _ :: _, [], _, h => by cases h
  | [], _, _ :: _, _, _ => rfl
  | _ :: _, [], _ :: _, h, _ => by cases h
  | x :: xs, y :: ys, z :: zs, h1, h2 => by
    unfold lexL at h1 h2 ⊢
    by_cases e : y = x
    · rw [if_pos e] at h1
      by_cases f : z = y
      · rw [if_pos f] at h2
        rw [if_pos (f.trans e)]
        exact lexL_tr h1 h2
      · rw [if_neg f] at h2
        rw [if_neg (fun g => f (g.trans e.symm))]
        have := of_decide_eq_false h2
        exact decide_eq_false (by omega)
    · rw [if_neg e] at h1
      have a := of_decide_eq_false h1
      by_cases f : z = y
      · rw [if_neg (fun g => e (f.symm.trans g))]
        exact decide_eq_false (by omega)
      · rw [if_neg f] at h2
        have b := of_decide_eq_false h2
        rw [if_neg (by omega)]
        exact decide_eq_false (by omega)
theorem swo (k : α → List Int) : SrtO.Swo fun v u => lexL (k v) (k u) := ⟨fun _ _ h => lexL_asym h, fun _ _ _ h1 h2 => lexL_tr h1 h2⟩
section
variable {prog : Program} {w : World} {A : Around} {E : Value → Shared → Prop} {s : Shared} {Q : Bool → Shared → Prop}
theorem walk_lex {b : Bool} {xs ys : List Value} {ns ms : List Int} (i : Nat) (hx : IntsAre xs ns) (hy : IntsAre ys ms) (hl : ns.length = ms.length) (h : Q (lexL ns ms) s) : PySem.W.KatLex prog w A b false Q (xs.zip ys) i s := by
  induction hx generalizing ys ms i with
  | nil =>
    cases hy with
    | nil => exact PySem.W.kat_nil h
    | cons q u hy => simp at hl
  | @cons p t xs ns hx ih =>
    cases hy with
    | nil => simp at hl
    | @cons q u ys ms hy =>
      have hl' : ns.length = ms.length := by simpa using hl
      show PySem.W.KatLex prog w A b false Q ((Value.int p t, Value.int q u) :: xs.zip ys) i s
      refine PySem.W.kat_cons (wpAny_eqBool_int ?_)
      unfold lexL at h
      by_cases e : p = q
      · rw [if_pos e] at h
        rw [show (p == q) = true from beq_iff_eq.mpr e]
        refine PySem.W.kat_yes ?_
        first
          | exact ih (i + 1) hy hl' h
          | exact ih _ _ (i + 1) hy hl' h
      · rw [if_neg e] at h
        rw [show (p == q) = false from beq_eq_false_iff_ne.mpr e]
        exact PySem.W.kat_no (TS.oneLt_ints _ h)
def Tups (h : Heap) (d : Nat) (k : Value → List Int) (vs : List Value) : Prop := ∀ v, v ∈ vs → TS.TupInts h v (k v) ∧ (k v).length = d
theorem heads {h : Heap} {d : Nat} {k : Value → List Int} (hd : 1 ≤ d) : ∀ vs : List Value, Tups h d k vs → ∃ fs, PySem.W.KatTups h vs fs ∧ fs.length = vs.length ∧ ∀ f, f ∈ fs → ∃ n t, f = Value.int n t
  | [], _ => ⟨[], PySem.W.KatTups.nil, rfl, fun f hf => by simp at hf⟩
  | v :: vs, x => by
    obtain ⟨fs, kt, hl, hi⟩ := heads hd vs fun u hu => x u (List.mem_cons_of_mem _ hu)
    obtain ⟨⟨a, xs, e, ⟨o, ho, hc, n, hdt⟩, i⟩, hn⟩ := x v (List.mem_cons_self ..)
    subst e
    have hlen := i.length
    match q : xs.toList, i with
    | [], i =>
      have l := i.length
      rw [List.length_nil, hn] at l
      omega
    | y :: ys, i =>
      obtain ⟨m, t, hy⟩ := i.all y (List.mem_cons_self ..)
      have hk0 : xs[0]? = some y := by
        have z := congrArg (fun l : List Value => l[0]?) q
        simpa using z
      refine ⟨y :: fs, PySem.W.KatTups.cons ho hc hdt hk0 kt, by simp [hl], fun f hf => ?_⟩
      rcases List.mem_cons.mp hf with rfl | hf
      · exact ⟨m, t, hy⟩
      · exact hi f hf
theorem sortable {a : Addr} {vs : List Value} {d : Nat} {k : Value → List Int} (hd : 1 ≤ d) (h0 : 0 < vs.length) (hp : Tups s.heap d k vs) (ha : ∀ o, s.heap.get? a = some o → o.cls ≠ .type "tuple") : SrtO.SortableO prog w A s a vs fun v u => lexL (k v) (k u) := by
  intro h' keep
  have hp' : Tups h' d k vs := fun v hm => ⟨(hp v hm).1.keeps fun b o e c => keep b o (fun z => by subst z; exact ha o e c) e, (hp v hm).2⟩
  obtain ⟨fs, h1, h2, h3⟩ := heads hd vs hp'
  refine ⟨tuples' true, fun Q E hq => ?_, ?_⟩
  · refine PySem.W.kat_kind (T := .type "int") h1 (by omega) (fun f hm => ?_) (by rfl) ?_
    · obtain ⟨x, t, rfl⟩ := h3 f hm
      exact PySem.W.Looks.now
    · have e : (Value.type "int" != Value.type "tuple") = true := by first | decide +kernel | rfl | decide
      rw [e]
      exact hq
  · intro p q hm hm'
    obtain ⟨⟨a1, xs, e1, ⟨o1, ho1, hc1, n1, hd1⟩, i1⟩, l1⟩ := hp' _ hm
    obtain ⟨⟨a2, ys, e2, ⟨o2, ho2, hc2, n2, hd2⟩, i2⟩, l2⟩ := hp' _ hm'
    show wpAny (model prog w) A (keyLt' (tuples' true) p.1 q.1) (fun r s' => s' = _ ∧ r = lexL (k p.1) (k q.1)) (fun _ _ => False) _
    generalize k p.1 = ns at i1 l1 ⊢
    generalize k q.1 = ms at i2 l2 ⊢
    rw [e1, e2]
    refine PySem.W.kat_lt ho1 hd1 ho2 hd2 ?_
    have sz : decide (xs.size < ys.size) = false := by
      have j1 := i1.length
      have j2 := i2.length
      rw [Array.length_toList] at j1 j2
      exact decide_eq_false (by omega)
    rw [sz]
    exact walk_lex 0 i1 i2 (by omega) ⟨rfl, rfl⟩
end
end Lx
namespace L2
open PySem PySem.Spec PyProof.Rows
/-- sorted(xs), xs a list of tuples of d ints -/
def rSortLex (K : PySem.W.Frag) : List V → Hp → VK → Prop := fun vs H Q => ∃ (a : Addr) (xs : List V) (k : V → List Int) (d : Nat), vs = [V.ref a] ∧ SqL K H a xs ∧ 1 ≤ d ∧ (∀ x ∈ xs, TupI K H x (k x) ∧ (k x).length = d) ∧
  ∀ ys p, ys.Perm xs → ys.Pairwise (fun x y => Lx.lexL (k y) (k x) = false) → H p = none → Q (.ref p) (upd H p (.lst ys))
section
variable {X : Cx}
theorem cr_sortLex : CallR X (.builtin "sorted") (rSortLex X.K) := by
  intro pins s σ H vs us Q I r h
  obtain ⟨a, xs, k, d, rfl, hs, hd, hx, q⟩ := h
  obtain ⟨its, rv, hl, hz⟩ := I.list hs
  rw [Vals.ref1 r]
  obtain ⟨e1, e2⟩ := bkV_refs rv fun x m => by
    obtain ⟨⟨t, e, _⟩, _⟩ := hx x m
    exact ⟨t, e⟩
  have hT : Lx.Tups s.heap d (fun u => k (bkV u)) its := fun v hv => by
    obtain ⟨t, rfl⟩ := e2 v hv
    have hm : V.ref t ∈ xs := by
      rw [e1]
      exact List.mem_map.mpr ⟨_, hv, rfl⟩
    obtain ⟨⟨t', e, ht⟩, hn⟩ := hx _ hm
    cases e
    exact ⟨tupI_raw I ht, hn⟩
  refine SrtO.sorted_ord (Lx.swo fun u => k (bkV u)) hl.isList (by rw [← rv.length]; exact hz) (fun h2 h₁ b hb kk => ?_) fun out h1 h2 => ?_
  · refine Lx.sortable (s := { s with heap := h₁ }) hd (by omega) (fun v hm => ⟨(hT v hm).1.keeps fun b o e _ => (kk b o e).2, (hT v hm).2⟩) fun o e => ?_
    have e' : some o = some (seqObj "list" its.toArray 0) := e.symm.trans hb
    cases e'
    intro c
    exact absurd (Value.type.inj c) (by decide)
  · obtain ⟨ep, he'⟩ := PyProof.Rows.sortedAll_at s.heap its out.toArray
    have h3 : ∀ u ∈ out, ∃ a, u = Value.ref a := fun u hu => e2 u (h2.perm.mem_iff.mp hu)
    have hp : (out.map bkV).Perm xs := by
      rw [e1]
      exact h2.perm.map bkV
    have hlen : (out.map bkV).length ≤ sizeLine := by
      rw [hp.length_eq]
      exact hz
    refine ⟨.ref _, upd H (s.heap.objs.size + 1) (.lst (out.map bkV)), I.laid (t' := s.toks) (fun _ _ => PyProof.Rows.sortedAll_old) (Nat.le_succ _) ⟨hlen, out, ep, bkV_vals h3, he'⟩, rfl, q _ _ hp ?_ (I.hok.fresh (Nat.le_succ _))⟩
    rw [List.pairwise_map]
    exact h1
end
end L2
set_option Elab.async false
set_option linter.all false
set_option maxRecDepth 100000
set_option maxHeartbeats 4000000
namespace PM
theorem sort2_len : ∀ l : List P3, (sort2 l).length = l.length
  | [] => rfl
  | [_] => rfl
  | [x, y] => by
    show (if ltT y x = true then [y, x] else [x, y]).length = 2
    split <;> rfl
  | _ :: _ :: _ :: _ => rfl
def tri (p : P3) : List Int := [p.x, p.y, p.w]
theorem lex_tri (p q : P3) : Lx.lexL (tri p) (tri q) = ltT p q := by
  show (if p.x = q.x then (if p.y = q.y then (if p.w = q.w then false else decide (p.w < q.w)) else decide (p.y < q.y)) else decide (p.x < q.x)) = ltT p q
  unfold ltT
  by_cases h : p.w = q.w
  · rw [if_pos h, h, decide_eq_false (Int.lt_irrefl q.w)]
  · rw [if_neg h]
theorem ltT_tot {p q : P3} (h : ltT p q = false) (k : ltT q p = false) : p = q := by
  rw [← Bool.not_eq_true, ltT_iff] at h k
  obtain ⟨a, b, c⟩ := p
  obtain ⟨d, e, f⟩ := q
  simp only [P3.mk.injEq] at *
  omega
end PM
namespace Q
open PySem L2 PySem.Spec PyProof.Rows PySem.Calls
open PM Evl
abbrev sPM : Stmt := top 27
theorem perm2 {α : Type} {ys : List α} {x y : α} (h : ys.Perm [x, y]) : ys = [x, y] ∨ ys = [y, x] := by
  have hl := h.length_eq
  match ys, hl, h with
  | [u, v], _, h =>
    have hu := h.mem_iff.mp (List.mem_cons_self (a := u) (l := [v]))
    rcases List.mem_cons.mp hu with rfl | hu
    · have z := h.cons_inv
      rw [List.perm_singleton] at z
      exact .inl (by rw [z])
    · have e := List.mem_singleton.mp hu
      subst e
      have z := (h.trans (List.Perm.swap _ _ [])).cons_inv
      rw [List.perm_singleton] at z
      exact .inr (by rw [z])
theorem pta_eq {H : Hp} {a : Addr} {p q : P3} (h : PtA H a p) (k : PtA H a q) : p = q := by
  have z := h.h.symm.trans k.h
  have z := Option.some.inj z
  have z : p.vs = q.vs := by injection z
  obtain ⟨a, b, c⟩ := p
  obtain ⟨d, e, f⟩ := q
  unfold P3.vs at z
  simp only [List.cons.injEq, V.int.injEq, and_true] at z
  rw [z.1, z.2.1, z.2.2]
/-- a rank for at most two points -/
theorem rank2 {K : PySem.W.Frag} {H : Hp} {as : List Addr} {ps : List P3} (h : PtsA H as ps) (hl : ps.length ≤ 2) : ∃ k : V → List Int, (∀ x ∈ as.map V.ref, TupI K H x (k x) ∧ (k x).length = 3) ∧
    ∀ ys : List V, ys.Perm (as.map V.ref) → ys.Pairwise (fun x y => Lx.lexL (k y) (k x) = false) → ∃ bs : List Addr, ys = bs.map V.ref ∧ PtsA H bs (sort2 ps) := by
  have ti : ∀ {a : Addr} {p : P3}, PtA H a p → TupI K H (.ref a) (tri p) := fun {a p} z => ⟨a, rfl, SqT.of z.h⟩
  match as, ps, h, hl with
  | [], [], _, _ => exact ⟨fun _ => [], fun x hx => by simp at hx, fun ys hp _ => ⟨[], List.Perm.eq_nil hp, .nil⟩⟩
  | [a], [p], .cons h .nil, _ => exact ⟨fun _ => tri p, fun x hx => by
      rw [List.mem_singleton.mp (show x ∈ [V.ref a] from hx)]
      exact ⟨ti h, rfl⟩, fun ys hp _ => ⟨[a], List.perm_singleton.mp hp, .cons h .nil⟩⟩
  | [a, b], [p, q], .cons h (.cons k .nil), _ =>
    have kb : (if V.ref b = V.ref a then tri p else tri q) = tri q := by
      by_cases e : V.ref b = V.ref a
      · rw [if_pos e]
        injection e with e
        subst e
        rw [pta_eq h k]
      · rw [if_neg e]
    refine ⟨fun x => if x = V.ref a then tri p else tri q, fun x hx => ?_, fun ys hp hw => ?_⟩
    · rcases List.mem_cons.mp (show x ∈ [V.ref a, V.ref b] from hx) with rfl | hx
      · show TupI K H (V.ref a) (if V.ref a = V.ref a then tri p else tri q) ∧ (if V.ref a = V.ref a then tri p else tri q).length = 3
        rw [if_pos rfl]
        exact ⟨ti h, rfl⟩
      · rw [List.mem_singleton.mp hx]
        show TupI K H (V.ref b) (if V.ref b = V.ref a then tri p else tri q) ∧ (if V.ref b = V.ref a then tri p else tri q).length = 3
        rw [kb]
        exact ⟨ti k, rfl⟩
    · rcases perm2 (show ys.Perm [V.ref a, V.ref b] from hp) with rfl | rfl
      · refine ⟨[a, b], rfl, ?_⟩
        have z : Lx.lexL (if V.ref b = V.ref a then tri p else tri q) (if V.ref a = V.ref a then tri p else tri q) = false := (List.pairwise_cons.mp hw).1 _ (List.mem_singleton.mpr rfl)
        rw [kb, if_pos rfl, lex_tri] at z
        show PtsA H [a, b] (if ltT q p = true then [q, p] else [p, q])
        rw [if_neg (by rw [z]; decide)]
        exact .cons h (.cons k .nil)
      · refine ⟨[b, a], rfl, ?_⟩
        have z : Lx.lexL (if V.ref a = V.ref a then tri p else tri q) (if V.ref b = V.ref a then tri p else tri q) = false := (List.pairwise_cons.mp hw).1 _ (List.mem_singleton.mpr rfl)
        rw [kb, if_pos rfl, lex_tri] at z
        show PtsA H [b, a] (if ltT q p = true then [q, p] else [p, q])
        by_cases c : ltT q p = true
        · rw [if_pos c]
          exact .cons k (.cons h .nil)
        · rw [if_neg c]
          have e := ltT_tot z (Bool.eq_false_iff.mpr c)
          subst e
          exact .cons k (.cons h .nil)
  | _ :: _ :: _ :: _, _ :: _ :: _ :: _, _, hl => simp at hl
theorem eqv_eqB (p q : P3) : PyData.eqv (dP p) (dP q) = eqB p q := by
  by_cases e : p = q
  · rw [(eqv_dP p q).mpr e, eqB_iff.mpr e]
  · rw [Bool.eq_false_iff.mpr fun z => e ((eqv_dP p q).mp z), eqB_no.mpr e]
def spPM : Sp := fun vs H Q _ => ∃ (a b c d : Addr) (p q r s : P3), vs = [.ref a, .ref b, .ref c, .ref d] ∧ PtA H a p ∧ PtA H b q ∧ PtA H c r ∧ PtA H d s ∧ (meet4 p q r s).length ≤ 2 ∧
  (p ≠ q → r ≠ s → sameS (dot (lineOf p q) r) (dot (lineOf p q) s) = false → ¬ (dot (lineOf p q) r = 0 ∧ dot (lineOf p q) s = 0) → (mt p q r s).w ≠ 0 ∧ Pt (mts p q r s) ∧ B3 1000 (mts p q r s)) ∧
  ∀ (l : Addr) (as : List Addr) H', Ex H H' → H' l = some (.tup (as.map V.ref)) → PtsA H' as (meet4 p q r s) → Q (.ref l) H'
section
variable {P : Program} {w : World} {K : PySem.W.Frag} {mg : Str → Option Value} {base : Heap}
theorem scPM : FnScope ["one", "two", "three", "four", "found"] ["one", "two", "three", "four"] (defScope sPM) := ⟨rfl, rfl, rfl, by decide +kernel, rfl, by decide +kernel, by decide +kernel⟩
structure TS3 (mg : Str → Option Value) : Prop where
  tuple : mg "tuple" = none
  sorted : mg "sorted" = none
theorem ok_pm {f : Addr} {fd : FuncData} (F : Fun K "pieces_meet" "pieces_meet" sPM f fd) (T : TS3 mg) (CK : ClR P w K mg base 3 "check_points" spChk) (CL : Cl P w K mg base 3 "lies_between" spLies) (CS : Cl P w K mg base 4 "shared_points" spShP) (CR : Cl P w K mg base 2 "line_through" spLine) :
    FnOk P w K mg base CX0 5 f fd ["one", "two", "three", "four"] spPM := by
  refine F.ok scPM (fun vs H Q E h => ?_) (fun cdv A outer s H vs Q E hr h => ?_)
  · obtain ⟨a, b, c, d, p, q, r, s, rfl, _⟩ := h
    rfl
  · obtain ⟨a, b, c, d, p, q, r, s, rfl, ha, hb, hc, hd, hlen, hx, k⟩ := h
    have hu := hr.units
    refine ⟨_, (pss_cons (ps_expr (pe_clR CK hr (by decide) (by rfl) (pa_cons (pv 0) (pa_cons (pv 1) (pa_cons (pv 2) (pa_cons (pv 3) pa_nil))))))
      (pss_cons (ps_if (pt_cmpR (op_eqD hu) (pv 0) (pv 1) (nomark _)) (pss_one (ps_ret (pe_ifExp (pt_val (pe_cl CL hr (by decide) (by rfl) (pa_cons (pv 0) (pa_cons (pv 2) (pa_cons (pv 3) pa_nil))))) (pe_tup (pa_cons (pv 0) pa_nil)) (pe_tup pa_nil)))) pss_nil)
      (pss_cons (ps_if (pt_cmpR (op_eqD hu) (pv 2) (pv 3) (nomark _)) (pss_one (ps_ret (pe_ifExp (pt_val (pe_cl CL hr (by decide) (by rfl) (pa_cons (pv 2) (pa_cons (pv 0) (pa_cons (pv 1) pa_nil))))) (pe_tup (pa_cons (pv 2) pa_nil)) (pe_tup pa_nil)))) pss_nil)
      (pss_cons (ps_set (i := 4) scPM.nd rfl (Or.inl rfl) (pe_cl CS hr (by decide) (by rfl) (pa_cons (pe_tup (pa_cons (pv 0) (pa_cons (pv 1) pa_nil))) (pa_cons (pe_tup (pa_cons (pv 2) (pa_cons (pv 3) pa_nil))) (pa_cons (pe_cl CR hr (by decide) (by rfl) (pa_cons (pv 0) (pa_cons (pv 1) pa_nil))) (pa_cons (pe_cl CR hr (by decide) (by rfl) (pa_cons (pv 2) (pa_cons (pv 3) pa_nil))) pa_nil))))))
      (pss_one (ps_ret (pe_callTy call_tuple_of (by rfl) T.tuple (by decide +kernel) (pa_cons (pe_callB cr_sortLex (by rfl) T.sorted (by decide +kernel) (pa_cons (pv 4) pa_nil)) pa_nil)))))))), ?_⟩
    refine st_chkS (va_cons (val_var rfl) (va_cons (val_var rfl) (va_cons (val_var rfl) (va_cons (val_var rfl) va_nil)))) (by show 4 ≤ 9; decide) (fun v hv => ?_) fun H1 e1 => ?_
    · simp only [List.mem_cons, List.not_mem_nil, or_false] at hv
      rcases hv with rfl | rfl | rfl | rfl
      · exact Pv.pt ha.h ha.pt
      · exact Pv.pt hb.h hb.pt
      · exact Pv.pt hc.h hc.pt
      · exact Pv.pt hd.h hd.pt
    have ha1 := pt_mono e1 ha
    have hb1 := pt_mono e1 hb
    have hc1 := pt_mono e1 hc
    have hd1 := pt_mono e1 hd
    unfold meet4 at k hlen
    refine q_when (et_is (et_test (ev_eqP (ept_var rfl ha1) (ept_var rfl hb1))) (eqv_eqB p q)) (fun h H2 e2 => ?_) (fun h H2 e2 => ?_)
    · rw [if_pos h] at k
      refine (et_B (ev_lies (ept_var rfl (pt_mono e2 ha1)) (ept_var rfl (pt_mono e2 hc1)) (ept_var rfl (pt_mono e2 hd1)))) H2 (Ex.refl _) _ fun H3 e3 => ?_
      have e13 := (e1.trans e2).trans e3
      refine ite2 (fun z => ?_) (fun z => ?_)
      · rw [if_pos z] at k
        exact s_retU (eu_tup (ea_cons (ev_var (i := 0) rfl) ea_nil) (by show 1 ≤ 100000; decide)) fun l H4 _ e4 h4 => k l [a] H4 (e13.trans e4) h4 (.cons (pt_mono (e13.trans e4) ha) .nil)
      · rw [if_neg z] at k
        exact s_retU (eu_tup ea_nil (by decide)) fun l H4 _ e4 h4 => k l [] H4 (e13.trans e4) h4 .nil
    rw [if_neg (by rw [h]; decide)] at k hlen
    have hpq := eqB_no.mp h
    refine q_when (et_is (et_test (ev_eqP (ept_var rfl (pt_mono e2 hc1)) (ept_var rfl (pt_mono e2 hd1)))) (eqv_eqB r s)) (fun h H3 e3 => ?_) (fun h H3 e3 => ?_)
    · rw [if_pos h] at k
      have e13 := (e1.trans e2).trans e3
      refine (et_B (ev_lies (ept_var rfl (pt_mono e13 hc)) (ept_var rfl (pt_mono e13 ha)) (ept_var rfl (pt_mono e13 hb)))) H3 (Ex.refl _) _ fun H4 e4 => ?_
      have e14 := e13.trans e4
      refine ite2 (fun z => ?_) (fun z => ?_)
      · rw [if_pos z] at k
        exact s_retU (eu_tup (ea_cons (ev_var (i := 2) rfl) ea_nil) (by show 1 ≤ 100000; decide)) fun l H5 _ e5 h5 => k l [c] H5 (e14.trans e5) h5 (.cons (pt_mono (e14.trans e5) hc) .nil)
      · rw [if_neg z] at k
        exact s_retU (eu_tup ea_nil (by decide)) fun l H5 _ e5 h5 => k l [] H5 (e14.trans e5) h5 .nil
    rw [if_neg (by rw [h]; decide)] at k hlen
    rw [sort2_len] at hlen
    have hrs := eqB_no.mp h
    have e13 := (e1.trans e2).trans e3
    have ha3 := pt_mono e13 ha
    have hb3 := pt_mono e13 hb
    have hc3 := pt_mono e13 hc
    have hd3 := pt_mono e13 hd
    refine ⟨_, rfl, _, rfl, (by show 2 ≤ sizeLine; decide), fun o ho => ⟨_, rfl, _, rfl, (by show 2 ≤ sizeLine; decide), fun t ht => ?_⟩⟩
    have f1 := Ex.new (o := .tup [.ref a, .ref b]) ho
    have f2 := Ex.new (o := .tup [.ref c, .ref d]) ht
    have ho2 := f2 _ _ (show upd H3 o (.tup [.ref a, .ref b]) o = _ from upd_same)
    have ht2 : upd (upd H3 o (.tup [.ref a, .ref b])) t (.tup [.ref c, .ref d]) t = some (.tup [.ref c, .ref d]) := upd_same
    have f12 := f1.trans f2
    generalize upd (upd H3 o (.tup [.ref a, .ref b])) t (.tup [.ref c, .ref d]) = H4 at ho2 ht2 f12 ⊢
    have ha4 := pt_mono f12 ha3
    have hb4 := pt_mono f12 hb3
    have hc4 := pt_mono f12 hc3
    have hd4 := pt_mono f12 hd3
    refine ⟨_, rfl, _, rfl, a, b, p, q, rfl, ha4.h, hb4.h, ha.b, hb.b, cr_ne ha.pt hb.pt hpq, fun l1 H5 g1 e5 t1 => ?_⟩
    refine ⟨_, rfl, _, rfl, c, d, r, s, rfl, e5 _ _ hc4.h, e5 _ _ hd4.h, hc.b, hd.b, cr_ne hc.pt hd.pt hrs, fun l2 H6 g2 e6 t2 => ?_⟩
    have e56 := Ex.trans e5 e6
    refine ⟨o, t, l1, l2, a, b, c, d, p, q, r, s, rfl, e56 _ _ ho2, e56 _ _ ht2, pt_mono e56 ha4, pt_mono e56 hb4, pt_mono e56 hc4, pt_mono e56 hd4, e6 _ _ t1, t2, hx hpq hrs, fun l as H7 hl e7 h7 pts => ?_⟩
    obtain ⟨kk, hk1, hk2⟩ := rank2 (K := K) pts hlen
    refine ⟨_, rfl, l, as.map V.ref, kk, 3, rfl, SqL.of h7, by decide, hk1, fun ys p7 hp hw hn => ⟨p7, ys, rfl, .inl ⟨SqL.of upd_same, fun l8 hl8 => ?_⟩⟩⟩
    obtain ⟨bs, rfl, pb⟩ := hk2 ys hp hw
    have e78 := (Ex.new (o := .lst (bs.map V.ref)) hn).trans (Ex.new (o := .tup (bs.map V.ref)) hl8)
    exact k l8 bs _ ((((Ex.trans e13 f12).trans e56).trans e7).trans e78) upd_same (pb.mono e78)
end
end Q
set_option Elab.async false
set_option linter.all false
set_option maxRecDepth 100000
set_option maxHeartbeats 2000000
namespace Q
open PySem L2 PySem.Spec PyProof.Rows PySem.Calls
open Ob
section
variable {pr : Program} {wd : World} {Ar : Around} {Res : Result → Shared → Prop} {it tu st : Addr} {u v best : Value} {t : Bool}
/-- min() of two values, the walk's end -/
theorem minL_end (Wk : Walks pr wd Ar.in1 it [it, tu] [it] (#[u, v] : Array Value).size (fun i x => (#[u, v] : Array Value)[i]? = some x) (fun i hp => hp.IsListIter it tu i ∧ hp.IsList tu #[u, v])) (hst : st ∉ [it, tu]) {sh : Shared} {cap : Nat} (at2 : sh.heap.IsListIter it tu 2 ∧ sh.heap.IsList tu #[u, v])
    (hl : sh.heap.get? st = some { cls := .type "list", dict := none, data := .seq #[best, best] cap, slots := #[] }) (fin : ∀ (hp : Heap) (tk : Nat), (∀ c o, c ∉ [it] → c ≠ st → sh.heap.get? c = some o → hp.get? c = some o) → Res (.ok (.ret best)) { sh with heap := hp, toks := tk }) :
    codeAny (model pr wd) Ar (.builtin "min.loop" ⟨[.ref it, .none, .ref st], []⟩) Res sh := by
  have nit : st ∉ [it] := fun z => hst (Wk.sub _ z)
  apply codeAny_builtin PySem.F.entry_min_loop
  rw [Around.under_plainId PySem.F.plain_min_loop _]
  show wpAny _ Ar.in1 (seqItems? (.ref st) >>= _) _ _ sh
  apply wpAny_bind
  apply wpAny_seqItems hl rfl
  show wpAny _ Ar.in1 (tryCatch (pyNext (.ref it)) _ >>= _) _ _ sh
  apply wpAny_bind
  apply wpAny_tryCatch
  apply Wk.done sh _ _ at2
  intro hp tk keep
  have hl2 := keep st _ nit hl
  show wpAny _ Ar.in1 (updateSeq st (fun _ => #[]) >>= _) _ _ _
  apply wpAny_bind
  apply wpAny_updateSeq hl2 rfl
  apply wpAny_bind
  apply wpAny_letGo
  apply wpAny_pure
  exact fin _ tk fun c o nc ns e => (Heap.get?_update_other _ _ ns.symm).trans (keep c o nc e)
theorem minL_turn (Wk : Walks pr wd Ar.in1 it [it, tu] [it] (#[u, v] : Array Value).size (fun i x => (#[u, v] : Array Value)[i]? = some x) (fun i hp => hp.IsListIter it tu i ∧ hp.IsList tu #[u, v])) (hst : st ∉ [it, tu]) {sh : Shared} {cap : Nat} (at1 : sh.heap.IsListIter it tu 1 ∧ sh.heap.IsList tu #[u, v])
    (hl : sh.heap.get? st = some { cls := .type "list", dict := none, data := .seq #[u, u] cap, slots := #[] })
    (cmp : ∀ (hp : Heap) (tk : Nat), (∀ c o, c ∉ [it] → c ≠ st → sh.heap.get? c = some o → hp.get? c = some o) → RcOp .Lt Ar.in1 { sh with heap := hp, toks := tk } v u t)
    (fin : ∀ (hp : Heap) (tk : Nat), (∀ c o, c ∉ [it] → c ≠ st → sh.heap.get? c = some o → hp.get? c = some o) → Res (.ok (.ret (if t = true then v else u))) { sh with heap := hp, toks := tk }) :
    codeAny (model pr wd) Ar (.builtin "min.loop" ⟨[.ref it, .none, .ref st], []⟩) Res sh := by
  have nit : st ∉ [it] := fun z => hst (Wk.sub _ z)
  have nm1 : (toString "min" ++ toString ".loop" : String) = "min.loop" := by decide
  apply codeAny_builtin PySem.F.entry_min_loop
  rw [Around.under_plainId PySem.F.plain_min_loop _]
  show wpAny _ Ar.in1 (seqItems? (.ref st) >>= _) _ _ sh
  apply wpAny_bind
  apply wpAny_seqItems hl rfl
  show wpAny _ Ar.in1 (tryCatch (pyNext (.ref it)) _ >>= _) _ _ sh
  apply wpAny_bind
  apply wpAny_tryCatch
  apply Wk.item 1 sh _ _ (show 1 < 2 by decide) at1
  intro x hp tk hx at2 keep
  have ex : x = v := by
    have z : (#[u, v] : Array Value)[1]? = some v := rfl
    rw [z] at hx
    cases hx
    rfl
  subst ex
  have hl2 := keep st _ nit hl
  show wpAny _ Ar.in1 (tryCatch (holding [x, x] (richCompare .Lt x u >>= _)) _ >>= _) _ _ _
  apply wpAny_bind
  apply wpAny_tryCatch
  apply wpAny_holding
  apply wpAny_bind
  apply cmp hp tk fun c o nc _ e => keep c o nc e
  apply wpAny_bind
  apply wpAny_holding
  apply wpAny_truthy_bool
  apply wpAny_bind
  apply wpAny_letGo
  apply wpAny_pure
  cases t with
  | true =>
    simp only [if_true]
    apply wpAny_bind
    apply wpAny_updateSeq hl2 rfl
    apply wpAny_bind
    apply wpAny_letGo
    rw [nm1]
    apply wpAny_pure
    refine ⟨plainId_quiet PySem.F.plain_min_loop _, minL_end Wk hst (Wk.frame _ _ _ at2 fun c hc o e => ?_) (Heap.get?_update_self _ hl2 rfl) fun hp2 tk2 keep2 => ?_⟩
    · exact (Heap.get?_update_other _ _ (fun z : st = c => hst (z ▸ hc))).trans e
    · exact fin hp2 tk2 fun c o nc ns e => keep2 c o nc ns ((Heap.get?_update_other _ _ ns.symm).trans (keep c o nc e))
  | false =>
    simp only [Bool.false_eq_true, if_false]
    apply wpAny_bind
    apply wpAny_letGo
    rw [nm1]
    apply wpAny_pure
    exact ⟨plainId_quiet PySem.F.plain_min_loop _, minL_end Wk hst at2 hl2 fun hp2 tk2 keep2 => fin hp2 tk2 fun c o nc ns e => keep2 c o nc ns (keep c o nc e)⟩
theorem minL_first (Wk : Walks pr wd Ar.in1 it [it, tu] [it] (#[u, v] : Array Value).size (fun i x => (#[u, v] : Array Value)[i]? = some x) (fun i hp => hp.IsListIter it tu i ∧ hp.IsList tu #[u, v])) (hst : st ∉ [it, tu]) {sh : Shared} {cap : Nat} (at0 : sh.heap.IsListIter it tu 0 ∧ sh.heap.IsList tu #[u, v])
    (hl : sh.heap.get? st = some { cls := .type "list", dict := none, data := .seq #[] cap, slots := #[] })
    (cmp : ∀ (hp : Heap) (tk : Nat), (∀ c o, c ∉ [it] → c ≠ st → sh.heap.get? c = some o → hp.get? c = some o) → RcOp .Lt Ar.in1 { sh with heap := hp, toks := tk } v u t)
    (fin : ∀ (hp : Heap) (tk : Nat), (∀ c o, c ∉ [it] → c ≠ st → sh.heap.get? c = some o → hp.get? c = some o) → Res (.ok (.ret (if t = true then v else u))) { sh with heap := hp, toks := tk }) :
    codeAny (model pr wd) Ar (.builtin "min.loop" ⟨[.ref it, .none, .ref st], []⟩) Res sh := by
  have nit : st ∉ [it] := fun z => hst (Wk.sub _ z)
  have nm1 : (toString "min" ++ toString ".loop" : String) = "min.loop" := by decide
  apply codeAny_builtin PySem.F.entry_min_loop
  rw [Around.under_plainId PySem.F.plain_min_loop _]
  show wpAny _ Ar.in1 (seqItems? (.ref st) >>= _) _ _ sh
  apply wpAny_bind
  apply wpAny_seqItems hl rfl
  show wpAny _ Ar.in1 (tryCatch (pyNext (.ref it)) _ >>= _) _ _ sh
  apply wpAny_bind
  apply wpAny_tryCatch
  apply Wk.item 0 sh _ _ (show 0 < 2 by decide) at0
  intro x hp tk hx at1 keep
  have ex : x = u := by
    have z : (#[u, v] : Array Value)[0]? = some u := rfl
    rw [z] at hx
    cases hx
    rfl
  subst ex
  have hl2 := keep st _ nit hl
  show wpAny _ Ar.in1 (updateSeq st (fun _ => #[x, x]) >>= _) _ _ _
  apply wpAny_bind
  apply wpAny_updateSeq hl2 rfl
  rw [nm1]
  apply wpAny_pure
  refine ⟨plainId_quiet PySem.F.plain_min_loop _, minL_turn (t := t) Wk hst (Wk.frame _ _ _ at1 fun c hc o e => ?_) (Heap.get?_update_self _ hl2 rfl) (fun hp2 tk2 keep2 => ?_) fun hp2 tk2 keep2 => ?_⟩
  · exact (Heap.get?_update_other _ _ (fun z : st = c => hst (z ▸ hc))).trans e
  · exact cmp hp2 tk2 fun c o nc ns e => keep2 c o nc ns ((Heap.get?_update_other _ _ ns.symm).trans (keep c o nc e))
  · exact fin hp2 tk2 fun c o nc ns e => keep2 c o nc ns ((Heap.get?_update_other _ _ ns.symm).trans (keep c o nc e))
theorem minL_call {l : Addr} {sh : Shared} {Ex : Value → Shared → Prop} {Q : Value → Shared → Prop} (hh : Ar.handled = none) (hL : sh.heap.IsList l #[u, v]) (cmp : ∀ (hp : Heap) (tk : Nat), (∀ c o, sh.heap.get? c = some o → hp.get? c = some o) → RcOp .Lt Ar.in1 { sh with heap := hp, toks := tk } v u t)
    (fin : ∀ (hp : Heap) (tk : Nat), (∀ c o, sh.heap.get? c = some o → hp.get? c = some o) → Q (if t = true then v else u) { sh with heap := hp, toks := tk }) : wpAny (model pr wd) Ar (call (.builtin "min") [.ref l]) Q Ex sh := by
  have nm1 : (toString "min" ++ toString ".loop" : String) = "min.loop" := by decide
  apply call_function_tree PySem.F.kind_min PySem.F.plain_min PySem.F.entry_min (PySem.F.args_min1 _)
  show wpAny _ Ar.in1 (Builtin.Builtins.bindParams "min" ["key", "default"] 0 ⟨[], []⟩ >>= _) _ _ sh
  apply wpAny_bind
  apply wpAny_of_eq (show Builtin.Builtins.bindParams "min" ["key", "default"] 0 ⟨[], []⟩ = pure [none, none] from rfl)
  refine wpAny_bind (wpAny_pure ?_)
  apply wpAny_bind
  apply wpAny_pyIter_list hL
  apply wpAny_bind
  refine wpAny_newObj_type ?_
  rw [nm1]
  apply wpAny_pure
  have hlt : l < sh.heap.objs.size := by
    obtain ⟨o, e, _⟩ := hL
    exact Heap.lt_size e
  have keep2 : ∀ {o1 o2 : Obj} (c : Addr) (o : Obj), sh.heap.get? c = some o → ((sh.heap.push o1).push o2).get? c = some o := fun c o e => Heap.get?_push_of_some _ (Heap.get?_push_of_some _ e)
  have old1 : ∀ (c : Addr) (o : Obj), sh.heap.get? c = some o → c ∉ [sh.heap.objs.size] := fun c o e => by
    rw [List.mem_singleton]
    exact Nat.ne_of_lt (Heap.lt_size e)
  have old2 : ∀ {o1 : Obj} (c : Addr) (o : Obj), sh.heap.get? c = some o → c ≠ (sh.heap.push o1).objs.size := fun {o1} c o e => by
    rw [Heap.size_push]
    exact Nat.ne_of_lt (Nat.lt_succ_of_lt (Heap.lt_size e))
  refine ⟨plainId_quiet PySem.F.plain_min_loop _, minL_first (t := t) (Walks.list (A := Ar.in1) hh _ l (Nat.ne_of_lt hlt) #[u, v]) (fun hm => ?_) ⟨⟨_, Heap.get?_push_of_some _ (Heap.get?_push_size _ rfl), rfl, rfl⟩, (hL.push _).push _⟩ (Heap.get?_push_size _ rfl) (fun hp tk keep => ?_) fun hp tk keep => ?_⟩
  · rcases List.mem_cons.mp hm with e | hm
    · rw [Heap.size_push] at e
      exact absurd e (Nat.succ_ne_self _)
    · have e := List.mem_singleton.mp hm
      rw [Heap.size_push] at e
      exact absurd e (Nat.ne_of_gt (Nat.lt_succ_of_lt hlt))
  · exact cmp hp tk fun c o e => keep c o (old1 c o e) (old2 c o e) (keep2 c o e)
  · exact fin hp tk fun c o e => keep c o (old1 c o e) (old2 c o e) (keep2 c o e)
end
section
variable {pr : Program} {wd : World} {Ar : Around} {Res : Result → Shared → Prop} {it tu st : Addr} {u v best : Value} {t : Bool}
/-- max() of two values, the walk's end -/
theorem maxL_end (Wk : Walks pr wd Ar.in1 it [it, tu] [it] (#[u, v] : Array Value).size (fun i x => (#[u, v] : Array Value)[i]? = some x) (fun i hp => hp.IsListIter it tu i ∧ hp.IsList tu #[u, v])) (hst : st ∉ [it, tu]) {sh : Shared} {cap : Nat} (at2 : sh.heap.IsListIter it tu 2 ∧ sh.heap.IsList tu #[u, v])
    (hl : sh.heap.get? st = some { cls := .type "list", dict := none, data := .seq #[best, best] cap, slots := #[] }) (fin : ∀ (hp : Heap) (tk : Nat), (∀ c o, c ∉ [it] → c ≠ st → sh.heap.get? c = some o → hp.get? c = some o) → Res (.ok (.ret best)) { sh with heap := hp, toks := tk }) :
    codeAny (model pr wd) Ar (.builtin "max.loop" ⟨[.ref it, .none, .ref st], []⟩) Res sh := by
  have nit : st ∉ [it] := fun z => hst (Wk.sub _ z)
  apply codeAny_builtin PySem.F.entry_max_loop
  rw [Around.under_plainId PySem.F.plain_max_loop _]
  show wpAny _ Ar.in1 (seqItems? (.ref st) >>= _) _ _ sh
  apply wpAny_bind
  apply wpAny_seqItems hl rfl
  show wpAny _ Ar.in1 (tryCatch (pyNext (.ref it)) _ >>= _) _ _ sh
  apply wpAny_bind
  apply wpAny_tryCatch
  apply Wk.done sh _ _ at2
  intro hp tk keep
  have hl2 := keep st _ nit hl
  show wpAny _ Ar.in1 (updateSeq st (fun _ => #[]) >>= _) _ _ _
  apply wpAny_bind
  apply wpAny_updateSeq hl2 rfl
  apply wpAny_bind
  apply wpAny_letGo
  apply wpAny_pure
  exact fin _ tk fun c o nc ns e => (Heap.get?_update_other _ _ ns.symm).trans (keep c o nc e)
theorem maxL_turn (Wk : Walks pr wd Ar.in1 it [it, tu] [it] (#[u, v] : Array Value).size (fun i x => (#[u, v] : Array Value)[i]? = some x) (fun i hp => hp.IsListIter it tu i ∧ hp.IsList tu #[u, v])) (hst : st ∉ [it, tu]) {sh : Shared} {cap : Nat} (at1 : sh.heap.IsListIter it tu 1 ∧ sh.heap.IsList tu #[u, v])
    (hl : sh.heap.get? st = some { cls := .type "list", dict := none, data := .seq #[u, u] cap, slots := #[] })
    (cmp : ∀ (hp : Heap) (tk : Nat), (∀ c o, c ∉ [it] → c ≠ st → sh.heap.get? c = some o → hp.get? c = some o) → RcOp .Gt Ar.in1 { sh with heap := hp, toks := tk } v u t)
    (fin : ∀ (hp : Heap) (tk : Nat), (∀ c o, c ∉ [it] → c ≠ st → sh.heap.get? c = some o → hp.get? c = some o) → Res (.ok (.ret (if t = true then v else u))) { sh with heap := hp, toks := tk }) :
    codeAny (model pr wd) Ar (.builtin "max.loop" ⟨[.ref it, .none, .ref st], []⟩) Res sh := by
  have nit : st ∉ [it] := fun z => hst (Wk.sub _ z)
  have nm1 : (toString "max" ++ toString ".loop" : String) = "max.loop" := by decide
  apply codeAny_builtin PySem.F.entry_max_loop
  rw [Around.under_plainId PySem.F.plain_max_loop _]
  show wpAny _ Ar.in1 (seqItems? (.ref st) >>= _) _ _ sh
  apply wpAny_bind
  apply wpAny_seqItems hl rfl
  show wpAny _ Ar.in1 (tryCatch (pyNext (.ref it)) _ >>= _) _ _ sh
  apply wpAny_bind
  apply wpAny_tryCatch
  apply Wk.item 1 sh _ _ (show 1 < 2 by decide) at1
  intro x hp tk hx at2 keep
  have ex : x = v := by
    have z : (#[u, v] : Array Value)[1]? = some v := rfl
    rw [z] at hx
    cases hx
    rfl
  subst ex
  have hl2 := keep st _ nit hl
  show wpAny _ Ar.in1 (tryCatch (holding [x, x] (richCompare .Gt x u >>= _)) _ >>= _) _ _ _
  apply wpAny_bind
  apply wpAny_tryCatch
  apply wpAny_holding
  apply wpAny_bind
  apply cmp hp tk fun c o nc _ e => keep c o nc e
  apply wpAny_bind
  apply wpAny_holding
  apply wpAny_truthy_bool
  apply wpAny_bind
  apply wpAny_letGo
  apply wpAny_pure
  cases t with
  | true =>
    simp only [if_true]
    apply wpAny_bind
    apply wpAny_updateSeq hl2 rfl
    apply wpAny_bind
    apply wpAny_letGo
    rw [nm1]
    apply wpAny_pure
    refine ⟨plainId_quiet PySem.F.plain_max_loop _, maxL_end Wk hst (Wk.frame _ _ _ at2 fun c hc o e => ?_) (Heap.get?_update_self _ hl2 rfl) fun hp2 tk2 keep2 => ?_⟩
    · exact (Heap.get?_update_other _ _ (fun z : st = c => hst (z ▸ hc))).trans e
    · exact fin hp2 tk2 fun c o nc ns e => keep2 c o nc ns ((Heap.get?_update_other _ _ ns.symm).trans (keep c o nc e))
  | false =>
    simp only [Bool.false_eq_true, if_false]
    apply wpAny_bind
    apply wpAny_letGo
    rw [nm1]
    apply wpAny_pure
    exact ⟨plainId_quiet PySem.F.plain_max_loop _, maxL_end Wk hst at2 hl2 fun hp2 tk2 keep2 => fin hp2 tk2 fun c o nc ns e => keep2 c o nc ns (keep c o nc e)⟩
theorem maxL_first (Wk : Walks pr wd Ar.in1 it [it, tu] [it] (#[u, v] : Array Value).size (fun i x => (#[u, v] : Array Value)[i]? = some x) (fun i hp => hp.IsListIter it tu i ∧ hp.IsList tu #[u, v])) (hst : st ∉ [it, tu]) {sh : Shared} {cap : Nat} (at0 : sh.heap.IsListIter it tu 0 ∧ sh.heap.IsList tu #[u, v])
    (hl : sh.heap.get? st = some { cls := .type "list", dict := none, data := .seq #[] cap, slots := #[] })
    (cmp : ∀ (hp : Heap) (tk : Nat), (∀ c o, c ∉ [it] → c ≠ st → sh.heap.get? c = some o → hp.get? c = some o) → RcOp .Gt Ar.in1 { sh with heap := hp, toks := tk } v u t)
    (fin : ∀ (hp : Heap) (tk : Nat), (∀ c o, c ∉ [it] → c ≠ st → sh.heap.get? c = some o → hp.get? c = some o) → Res (.ok (.ret (if t = true then v else u))) { sh with heap := hp, toks := tk }) :
    codeAny (model pr wd) Ar (.builtin "max.loop" ⟨[.ref it, .none, .ref st], []⟩) Res sh := by
  have nit : st ∉ [it] := fun z => hst (Wk.sub _ z)
  have nm1 : (toString "max" ++ toString ".loop" : String) = "max.loop" := by decide
  apply codeAny_builtin PySem.F.entry_max_loop
  rw [Around.under_plainId PySem.F.plain_max_loop _]
  show wpAny _ Ar.in1 (seqItems? (.ref st) >>= _) _ _ sh
  apply wpAny_bind
  apply wpAny_seqItems hl rfl
  show wpAny _ Ar.in1 (tryCatch (pyNext (.ref it)) _ >>= _) _ _ sh
  apply wpAny_bind
  apply wpAny_tryCatch
  apply Wk.item 0 sh _ _ (show 0 < 2 by decide) at0
  intro x hp tk hx at1 keep
  have ex : x = u := by
    have z : (#[u, v] : Array Value)[0]? = some u := rfl
    rw [z] at hx
    cases hx
    rfl
  subst ex
  have hl2 := keep st _ nit hl
  show wpAny _ Ar.in1 (updateSeq st (fun _ => #[x, x]) >>= _) _ _ _
  apply wpAny_bind
  apply wpAny_updateSeq hl2 rfl
  rw [nm1]
  apply wpAny_pure
  refine ⟨plainId_quiet PySem.F.plain_max_loop _, maxL_turn (t := t) Wk hst (Wk.frame _ _ _ at1 fun c hc o e => ?_) (Heap.get?_update_self _ hl2 rfl) (fun hp2 tk2 keep2 => ?_) fun hp2 tk2 keep2 => ?_⟩
  · exact (Heap.get?_update_other _ _ (fun z : st = c => hst (z ▸ hc))).trans e
  · exact cmp hp2 tk2 fun c o nc ns e => keep2 c o nc ns ((Heap.get?_update_other _ _ ns.symm).trans (keep c o nc e))
  · exact fin hp2 tk2 fun c o nc ns e => keep2 c o nc ns ((Heap.get?_update_other _ _ ns.symm).trans (keep c o nc e))
theorem maxL_call {l : Addr} {sh : Shared} {Ex : Value → Shared → Prop} {Q : Value → Shared → Prop} (hh : Ar.handled = none) (hL : sh.heap.IsList l #[u, v]) (cmp : ∀ (hp : Heap) (tk : Nat), (∀ c o, sh.heap.get? c = some o → hp.get? c = some o) → RcOp .Gt Ar.in1 { sh with heap := hp, toks := tk } v u t)
    (fin : ∀ (hp : Heap) (tk : Nat), (∀ c o, sh.heap.get? c = some o → hp.get? c = some o) → Q (if t = true then v else u) { sh with heap := hp, toks := tk }) : wpAny (model pr wd) Ar (call (.builtin "max") [.ref l]) Q Ex sh := by
  have nm1 : (toString "max" ++ toString ".loop" : String) = "max.loop" := by decide
  apply call_function_tree PySem.F.kind_max PySem.F.plain_max PySem.F.entry_max (PySem.F.args_max1 _)
  show wpAny _ Ar.in1 (Builtin.Builtins.bindParams "max" ["key", "default"] 0 ⟨[], []⟩ >>= _) _ _ sh
  apply wpAny_bind
  apply wpAny_of_eq (show Builtin.Builtins.bindParams "max" ["key", "default"] 0 ⟨[], []⟩ = pure [none, none] from rfl)
  refine wpAny_bind (wpAny_pure ?_)
  apply wpAny_bind
  apply wpAny_pyIter_list hL
  apply wpAny_bind
  refine wpAny_newObj_type ?_
  rw [nm1]
  apply wpAny_pure
  have hlt : l < sh.heap.objs.size := by
    obtain ⟨o, e, _⟩ := hL
    exact Heap.lt_size e
  have keep2 : ∀ {o1 o2 : Obj} (c : Addr) (o : Obj), sh.heap.get? c = some o → ((sh.heap.push o1).push o2).get? c = some o := fun c o e => Heap.get?_push_of_some _ (Heap.get?_push_of_some _ e)
  have old1 : ∀ (c : Addr) (o : Obj), sh.heap.get? c = some o → c ∉ [sh.heap.objs.size] := fun c o e => by
    rw [List.mem_singleton]
    exact Nat.ne_of_lt (Heap.lt_size e)
  have old2 : ∀ {o1 : Obj} (c : Addr) (o : Obj), sh.heap.get? c = some o → c ≠ (sh.heap.push o1).objs.size := fun {o1} c o e => by
    rw [Heap.size_push]
    exact Nat.ne_of_lt (Nat.lt_succ_of_lt (Heap.lt_size e))
  refine ⟨plainId_quiet PySem.F.plain_max_loop _, maxL_first (t := t) (Walks.list (A := Ar.in1) hh _ l (Nat.ne_of_lt hlt) #[u, v]) (fun hm => ?_) ⟨⟨_, Heap.get?_push_of_some _ (Heap.get?_push_size _ rfl), rfl, rfl⟩, (hL.push _).push _⟩ (Heap.get?_push_size _ rfl) (fun hp tk keep => ?_) fun hp tk keep => ?_⟩
  · rcases List.mem_cons.mp hm with e | hm
    · rw [Heap.size_push] at e
      exact absurd e (Nat.succ_ne_self _)
    · have e := List.mem_singleton.mp hm
      rw [Heap.size_push] at e
      exact absurd e (Nat.ne_of_gt (Nat.lt_succ_of_lt hlt))
  · exact cmp hp tk fun c o e => keep c o (old1 c o e) (old2 c o e) (keep2 c o e)
  · exact fin hp tk fun c o e => keep c o (old1 c o e) (old2 c o e) (keep2 c o e)
end
end Q
set_option Elab.async false
set_option linter.all false
set_option maxRecDepth 100000
set_option maxHeartbeats 4000000
namespace Q
open PySem L2 PySem.Spec PyProof.Rows PySem.Calls
open PM Evl Ob
theorem lexLt_tri (p q : P3) : HT.lexLt (tri p) (tri q) = ltT p q := by
  simp only [HT.lexLt, tri, ltT]
  by_cases c1 : p.x = q.x
  · by_cases c2 : p.y = q.y
    · by_cases c3 : p.w = q.w
      · simp [c1, c2, c3]
      · simp [c1, c2, c3]
    · simp [c1, c2]
  · simp [c1]
theorem dec_eq (a b : Int) : (a == b) = decide (a = b) := by
  by_cases q : a = b
  · rw [decide_eq_true q]
    exact beq_iff_eq.mpr q
  · rw [decide_eq_false q]
    exact beq_eq_false_iff_ne.mpr q
section
variable {X : Cx}
/-- the one of two points in a list that min, max give -/
def rMinLP : List V → Hp → VK → Prop := fun vs H Q => ∃ (l a b : Addr) (p q : P3), vs = [.ref l] ∧ H l = some (.lst [.ref a, .ref b]) ∧ H a = some (.tup p.vs) ∧ H b = some (.tup q.vs) ∧ Q (.ref (if ltT q p = true then b else a)) H
def rMaxLP : List V → Hp → VK → Prop := fun vs H Q => ∃ (l a b : Addr) (p q : P3), vs = [.ref l] ∧ H l = some (.lst [.ref a, .ref b]) ∧ H a = some (.tup p.vs) ∧ H b = some (.tup q.vs) ∧ Q (.ref (if ltT p q = true then b else a)) H
theorem tup_keep {s : Shared} {hp : Heap} {a : Addr} {items : Array Value} (x : s.heap.IsTuple a items) (keep : ∀ c o, s.heap.get? c = some o → hp.get? c = some o) : hp.IsTuple a items := by
  obtain ⟨o, e, c, n, d⟩ := x
  exact ⟨o, keep _ _ e, c, n, d⟩
theorem lexAt3 (p q : P3) : lexAt (fun j => decide ((tri q).getD j 0 = (tri p).getD j 0)) (fun j => decide ((tri p).getD j 0 < (tri q).getD j 0)) (decide (3 > 3)) 0 (min 3 3) = ltT p q := by
  have e3 : min 3 3 = 3 := rfl
  rw [e3]
  simp only [lexAt, tri, ltT, List.getD_cons_zero, List.getD_cons_succ, decide_eq_true_eq]
  by_cases c1 : p.x = q.x
  · by_cases c2 : p.y = q.y
    · by_cases c3 : p.w = q.w
      · simp [c1, c2, c3]
      · simp [c1, c2, c3, Ne.symm c3]
    · simp [c1, c2, Ne.symm c2]
  · simp [c1, Ne.symm c1]
theorem cr_minLP (hc : X.calm = true) (hu : X.A.units + 64 < cLine) : CallR X (.builtin "min") rMinLP := by
  intro pins s σ H vs us Q I r h
  obtain ⟨l, a, b, p, q, rfl, hl, ha, hb, k⟩ := h
  obtain ⟨itl, wl, pl, _⟩ := I.list (SqL.of hl)
  obtain ⟨its, w1, p1, _⟩ := I.tuple (SqT.of ha)
  obtain ⟨its2, w2, p2, _⟩ := I.tuple (SqT.of hb)
  rw [Vals.ref1 r]
  obtain ⟨u1, u2, rfl, r1, r2⟩ := vals2 wl
  cases r1
  cases r2
  refine minL_call (t := ltT q p) (I.ok.hd hc) pl.isList (fun hp tk keep => ?_) fun hp tk keep => ?_
  · intro pr wd Ex Q' q'
    rw [← lexLt_tri] at q'
    exact HT.lt_tupInts (tup_keep p2 keep) (tup_keep p1 keep) (intsAre_of (ns := tri q) w2) (intsAre_of (ns := tri p) w1) (show X.A.in1.units < cLine from Nat.lt_of_le_of_lt (Nat.succ_le_of_lt (Nat.lt_add_of_pos_right (by decide))) hu) q'
  · have J := I.kept (t' := tk) keep
    cases c : ltT q p with
    | true =>
      rw [c] at k
      exact ⟨.ref b, H, J, (rfl : Value.ref b = Value.ref b), k⟩
    | false =>
      rw [c] at k
      exact ⟨.ref a, H, J, (rfl : Value.ref a = Value.ref a), k⟩
theorem cr_maxLP (hc : X.calm = true) (hu : X.A.units + 64 < cLine) : CallR X (.builtin "max") rMaxLP := by
  intro pins s σ H vs us Q I r h
  obtain ⟨l, a, b, p, q, rfl, hl, ha, hb, k⟩ := h
  obtain ⟨itl, wl, pl, _⟩ := I.list (SqL.of hl)
  obtain ⟨its, w1, p1, _⟩ := I.tuple (SqT.of ha)
  obtain ⟨its2, w2, p2, _⟩ := I.tuple (SqT.of hb)
  rw [Vals.ref1 r]
  obtain ⟨u1, u2, rfl, r1, r2⟩ := vals2 wl
  cases r1
  cases r2
  refine maxL_call (t := ltT p q) (I.ok.hd hc) pl.isList (fun hp tk keep => ?_) fun hp tk keep => ?_
  · have i1 : IntsAre its (tri p) := Vals.ints (ns := tri p) w1
    have i2 : IntsAre its2 (tri q) := Vals.ints (ns := tri q) w2
    have n1 : its.toArray.size = 3 := by rw [List.size_toArray]; exact i1.length
    have n2 : its2.toArray.size = 3 := by rw [List.size_toArray]; exact i2.length
    have f1 : ∀ j (h1 : j < its.toArray.size), ∃ t, its.toArray[j] = .int ((tri p).getD j 0) t := fun j h1 => PyProof.Rows.IntsAre.int_at i1 _ _ (by simp at h1; simp [h1])
    have f2 : ∀ j (h1 : j < its2.toArray.size), ∃ t, its2.toArray[j] = .int ((tri q).getD j 0) t := fun j h1 => PyProof.Rows.IntsAre.int_at i2 _ _ (by simp at h1; simp [h1])
    have z := RcOp.tuples_gt (A := X.A.in1) (s := { s with heap := hp, toks := tk }) (e := fun j => decide ((tri q).getD j 0 = (tri p).getD j 0)) (r := fun j => decide ((tri p).getD j 0 < (tri q).getD j 0)) (tup_keep p2 keep) (tup_keep p1 keep) (show X.A.in1.units < cLine from Nat.lt_of_le_of_lt (Nat.succ_le_of_lt (Nat.lt_add_of_pos_right (by decide))) hu) (fun j h1 h2 => by
      obtain ⟨t, et⟩ := f2 j h1
      obtain ⟨t', et'⟩ := f1 j h2
      rw [et, et', ← dec_eq]
      exact SeqAt.EqAt.int_int _ _ _ _) (fun j h1 h2 _ => by
      obtain ⟨t, et⟩ := f2 j h1
      obtain ⟨t', et'⟩ := f1 j h2
      rw [et, et']
      exact RcOp.gt_int _ _ _ _)
    rw [n1, n2, lexAt3] at z
    exact z
  · have J := I.kept (t' := tk) keep
    cases c : ltT p q with
    | true =>
      rw [c] at k
      exact ⟨.ref b, H, J, (rfl : Value.ref b = Value.ref b), k⟩
    | false =>
      rw [c] at k
      exact ⟨.ref a, H, J, (rfl : Value.ref a = Value.ref a), k⟩
end
section
variable {K : PySem.W.Frag} {σ : L2.St} {H : Hp} {ta tb tc te : TE} {n m l : Int} {b : Bool} {D : Ends} {u : TS} {p q : P3} {i j : Nat} {E : XK}
theorem ev_minL {a : Addr} (h : Ev ta σ H (.ref a)) (ha : H a = some (.lst [.int m, .int n])) : Ev (tCB (rMin K) (tCons ta tNil)) σ H (.int (min m n)) := ev_cb (ea_cons h ea_nil) fun H1 e Q q => ⟨a, [m, n], rfl, SqL.of (e _ _ ha), (by show 0 < 2; decide), fun z hz hm => by
  have h1 := hm m (by simp)
  have h2 := hm n (by simp)
  simp only [List.mem_cons, List.not_mem_nil, or_false] at hz
  have : z = min m n := by omega
  rw [this]
  exact q H1 (Ex.refl _)⟩
theorem ev_maxL {a : Addr} (h : Ev ta σ H (.ref a)) (ha : H a = some (.lst [.int m, .int n])) : Ev (tCB (rMax K) (tCons ta tNil)) σ H (.int (max m n)) := ev_cb (ea_cons h ea_nil) fun H1 e Q q => ⟨a, [m, n], rfl, SqL.of (e _ _ ha), (by show 0 < 2; decide), fun z hz hm => by
  have h1 := hm m (by simp)
  have h2 := hm n (by simp)
  simp only [List.mem_cons, List.not_mem_nil, or_false] at hz
  have : z = max m n := by omega
  rw [this]
  exact q H1 (Ex.refl _)⟩
theorem ev_min2 (ha : Ev ta σ H (.int n)) (hb : Ev tb σ H (.int m)) : Ev (tCB (fun xs H Q => ∃ i j, xs = [.int i, .int j] ∧ Q (.int (if j < i then j else i)) H) (tCons ta (tCons tb tNil))) σ H (.int (min n m)) := fun H1 e Q q =>
  ha H1 e _ fun H2 e2 => hb H2 (e.trans e2) _ fun H3 e3 => ⟨n, m, rfl, by
    have z : (if m < n then m else n) = min n m := by split <;> omega
    rw [z]
    exact q H3 (e2.trans e3)⟩
theorem ev_max2' (ha : Ev ta σ H (.int n)) (hb : Ev tb σ H (.int m)) : Ev (tCB (fun xs H Q => ∃ i j, xs = [.int i, .int j] ∧ Q (.int (if j > i then j else i)) H) (tCons ta (tCons tb tNil))) σ H (.int (max n m)) := fun H1 e Q q =>
  ha H1 e _ fun H2 e2 => hb H2 (e.trans e2) _ fun H3 e3 => ⟨n, m, rfl, by
    have z : (if m > n then m else n) = max n m := by split <;> omega
    rw [z]
    exact q H3 (e2.trans e3)⟩
theorem ev_chain (ha : Ev ta σ H (.int n)) (hb : Ev tb σ H (.int m)) (hc : Ev tc σ H (.int l)) : Ev (tChain (rI0 fun i j => .bl (decide (i ≤ j))) (rI0 fun i j => .bl (decide (i ≤ j))) ta tb tc) σ H (.bl (decide (n ≤ m ∧ m ≤ l))) := fun H1 e Q q =>
  ha H1 e _ fun H2 e2 => hb H2 (e.trans e2) _ fun H3 e3 => ⟨n, m, rfl, rfl, _, rfl, by
    refine ite2 (fun c => ?_) (fun c => ?_)
    · refine hc H3 ((e.trans e2).trans e3) _ fun H4 e4 => ⟨m, l, rfl, rfl, ?_⟩
      have z : decide (m ≤ l) = decide (n ≤ m ∧ m ≤ l) := decide_eq_decide.mpr ⟨fun h => ⟨of_decide_eq_true c, h⟩, fun h => h.2⟩
      show Q (.bl (decide (m ≤ l))) H4
      rw [z]
      exact q H4 ((e2.trans e3).trans e4)
    · have z : decide (n ≤ m ∧ m ≤ l) = false := decide_eq_false fun h => no_dec c h.1
      rw [z] at q
      exact q H3 (e2.trans e3)⟩
theorem q_not {t : TT} {tu : TS} (h : EvT t σ H false) (k : ∀ H1, Ex H H1 → u D σ H1) : tSeq (tIfS t tu tNext) u D σ H := q_when h (fun z => nomatch z) fun _ => k
end
theorem bd0 {k : Nat} : Bd k 0 := ⟨by rw [Int.natAbs_zero]; exact Nat.pow_pos (by decide)⟩
/-! ### what is told of two pieces -/
def dPs (ps : List P3) : PyData := .tuple (ps.map dP)
theorem eqv_self (ps : List P3) : ps.length ≤ 2 → PyData.eqv (dPs ps) (dPs ps) = true := fun h => by
  match ps, h with
  | [], _ => simp [dPs, PyData.eqv, PyData.eqvAll]
  | [_], _ => simp [dPs, dP, PyData.eqv, PyData.eqvAll]
  | [_, _], _ => simp [dPs, dP, PyData.eqv, PyData.eqvAll]
  | _ :: _ :: _ :: _, h => simp at h
theorem shaped_1 (ps : List P3) : ps.length ≤ 2 → SeqAt.shaped (dPs ps) = true := fun h => by
  match ps, h with
  | [], _ => rfl
  | [_], _ => rfl
  | [_, _], _ => rfl
  | _ :: _ :: _ :: _, h => simp at h
theorem shaped_3 (ps : List P3) : ps.length ≤ 2 → SeqAt.shaped (.list [dPs ps, dPs ps, dPs ps]) = true := fun h => by
  match ps, h with
  | [], _ => rfl
  | [_], _ => rfl
  | [_, _], _ => rfl
  | _ :: _ :: _ :: _, h => simp at h
/-- pieces_meet may be asked of these, and answers so -/
structure MtQ (p q r s : P3) (ps : List P3) : Prop where
  eq : meet4 p q r s = ps
  pt : p ≠ q → r ≠ s → sameS (dot (lineOf p q) r) (dot (lineOf p q) s) = false → ¬ (dot (lineOf p q) r = 0 ∧ dot (lineOf p q) s = 0) → (mt p q r s).w ≠ 0 ∧ Pt (mts p q r s) ∧ B3 1000 (mts p q r s)
/-- an expression that gives a new tuple of points -/
def EvTu (te : TE) (σ : L2.St) (H : Hp) (ps : List P3) : Prop := ∀ H1, Ex H H1 → ∀ Q : VK, (∀ (l : Addr) (as : List Addr) H2, Ex H1 H2 → H2 l = some (.tup (as.map V.ref)) → PtsA H2 as ps → Q (.ref l) H2) → te σ H1 Q
section
variable {K : PySem.W.Frag} {σ : L2.St} {H : Hp} {ta tb tc td te : TE} {D : Ends} {u : TS} {p q r s : P3} {i j : Nat} {E : XK} {ps : List P3}
theorem etu_pm (h1 : EvPt ta σ H p) (h2 : EvPt tb σ H q) (h3 : EvPt tc σ H r) (h4 : EvPt td σ H s) (m : MtQ p q r s ps) (hl : ps.length ≤ 2) : EvTu (tCall spPM [] E (tCons ta (tCons tb (tCons tc (tCons td tNil))))) σ H ps := fun H1 e Q k =>
  h1 H1 e _ fun l1 H2 e2 x1 => h2 H2 (e.trans e2) _ fun l2 H3 e3 x2 => h3 H3 ((e.trans e2).trans e3) _ fun l3 H4 e4 x3 => h4 H4 (((e.trans e2).trans e3).trans e4) _ fun l4 H5 e5 x4 =>
    ⟨l1, l2, l3, l4, p, q, r, s, rfl, pt_mono ((e3.trans e4).trans e5) x1, pt_mono (e4.trans e5) x2, pt_mono e5 x3, x4, by rw [m.eq]; exact hl, m.pt, fun l as H6 e6 h6 pts => k l as H6 ((((e2.trans e3).trans e4).trans e5).trans e6) h6 (by rw [← m.eq]; exact pts)⟩
theorem q_told {tz : TS} (h1 : EvTu ta σ H ps) (h2 : EvTu tb σ H ps) (h3 : EvTu tc σ H ps) (k : ∀ (l : Addr) H1, Ex H H1 → Dp K H1 (.ref l) (.list [dPs ps, dPs ps, dPs ps]) → tz D (σ.set i (some (.ref l))) H1) :
    tSeq (tAsg (tLst (tCons ta (tCons tb (tCons tc tNil)))) (gName i)) tz D σ H :=
  h1 H (Ex.refl H) _ fun l1 a1 H2 e2 g1 p1 => h2 H2 e2 _ fun l2 a2 H3 e3 g2 p2 => h3 H3 (e2.trans e3) _ fun l3 a3 H4 e4 g3 p3 => ⟨(by show 3 ≤ sizeLine; decide), fun l hl => by
    have e5 := Ex.new (o := .lst [.ref l1, .ref l2, .ref l3]) hl
    exact k l _ (((e2.trans e3).trans e4).trans e5) (.lst (SqL.of upd_same) (.cons (.tup (SqT.of (e5 _ _ (e4 _ _ (e3 _ _ g1)))) (p1.mono ((e3.trans e4).trans e5)).dp) (.cons (.tup (SqT.of (e5 _ _ (e4 _ _ g2))) (p2.mono (e4.trans e5)).dp) (.cons (.tup (SqT.of (e5 _ _ g3)) (p3.mono e5).dp) .nil))))⟩
theorem el_rep3v {v : V} (h : Ev te σ H v) : EvL (tOp rRep (tLst (tCons te tNil)) (tC (.int 3))) σ H [v, v, v] := fun H1 e Q q =>
  (el_lst (ea_cons h ea_nil) (by show 1 ≤ 100000; decide)) H1 e _ fun p H2 _ e2 hp => ⟨p, 3, [v], rfl, rfl, hp, by decide, by decide, (by show 3 ≤ sizeLine; decide), fun l hl => q l _ (fresh_back e2 hl) (e2.trans (Ex.new hl)) upd_same⟩
end
abbrev sMR : Stmt := top 42
def spMR (K : PySem.W.Frag) : Sp := fun vs H Q _ => ∃ (a b c d u : Addr) (p q r s : P3) (ps : List P3), vs = [.ref a, .ref b, .ref c, .ref d, .ref u] ∧ PtA H a p ∧ PtA H b q ∧ PtA H c r ∧ PtA H d s ∧ Dp K H (.ref u) (dPs ps) ∧ ps.length ≤ 2 ∧
  MtQ p q r s ps ∧ MtQ q p r s ps ∧ MtQ r s q p ps ∧ MtQ s r p q ps ∧ ∀ H', Ex H H' → Q (.bl true) H'
mutual
theorem dp_mono {K : PySem.W.Frag} {H H' : Hp} (e : Ex H H') : ∀ {v : V} {d : PyData}, Dp K H v d → Dp K H' v d
  | _, _, .non => .non
  | _, _, .bl b => .bl b
  | _, _, .int i => .int i
  | _, _, .str x => .str x
  | _, _, .lst h t => .lst (ex_l e h) (dpl_mono e t)
  | _, _, .tup h t => .tup (ex_t e h) (dpl_mono e t)
theorem dpl_mono {K : PySem.W.Frag} {H H' : Hp} (e : Ex H H') : ∀ {vs : List V} {ds : List PyData}, DpAll K H vs ds → DpAll K H' vs ds
  | _, _, .nil => .nil
  | _, _, .cons h t => .cons (dp_mono e h) (dpl_mono e t)
end
section
variable {P : Program} {w : World} {K : PySem.W.Frag} {mg : Str → Option Value} {base : Heap}
theorem scMR : FnScope ["one", "two", "three", "four", "due", "told"] ["one", "two", "three", "four", "due"] (defScope sMR) := ⟨rfl, rfl, rfl, by decide +kernel, rfl, by decide +kernel, by decide +kernel⟩
theorem ok_mr {f : Addr} {fd : FuncData} (F : Fun K "_law_meets_right" "_law_meets_right" sMR f fd) (CM : Cl P w K mg base 5 "pieces_meet" spPM) : FnOk P w K mg base CX0 6 f fd ["one", "two", "three", "four", "due"] (spMR K) := by
  refine F.ok scMR (fun vs H Q E h => ?_) (fun cdv A outer s H vs Q E hr h => ?_)
  · obtain ⟨a, b, c, d, u, p, q, r, s, ps, rfl, _⟩ := h
    rfl
  · obtain ⟨a, b, c, d, u, p, q, r, s, ps, rfl, ha, hb, hc, hd, hu, hl, m1, m2, m3, m4, k⟩ := h
    have hun := hr.units
    refine ⟨_, (pss_cons (ps_set (i := 5) scMR.nd rfl (Or.inl rfl) (pe_lst (pa_cons (pe_cl CM hr (by decide) (by rfl) (pa_cons (pv 0) (pa_cons (pv 1) (pa_cons (pv 2) (pa_cons (pv 3) pa_nil))))) (pa_cons (pe_cl CM hr (by decide) (by rfl) (pa_cons (pv 1) (pa_cons (pv 0) (pa_cons (pv 2) (pa_cons (pv 3) pa_nil))))) (pa_cons (pe_cl CM hr (by decide) (by rfl) (pa_cons (pv 2) (pa_cons (pv 3) (pa_cons (pv 1) (pa_cons (pv 0) pa_nil))))) pa_nil)))))
      (pss_one (ps_ret (pe_and (pe_cmpR (op_eqD hun) (pv 5) (pe_op op_rep (pe_lst (pa_cons (pv 4) pa_nil)) pe_int) (nomark _)) (pe_one (pe_cmpR (op_eqD hun) (pe_cl CM hr (by decide) (by rfl) (pa_cons (pv 3) (pa_cons (pv 2) (pa_cons (pv 0) (pa_cons (pv 1) pa_nil))))) (pv 4) (nomark _))))))), ?_⟩
    refine q_told (K := K) (ps := ps) (etu_pm (ept_var rfl ha) (ept_var rfl hb) (ept_var rfl hc) (ept_var rfl hd) m1 hl) (etu_pm (ept_var rfl hb) (ept_var rfl ha) (ept_var rfl hc) (ept_var rfl hd) m2 hl) (etu_pm (ept_var rfl hc) (ept_var rfl hd) (ept_var rfl hb) (ept_var rfl ha) m3 hl) fun l H1 e1 d1 => ?_
    have ev1 : Ev (tOp (rEqD K) (tVar 5) (tOp rRep (tLst (tCons (tVar 4) tNil)) (tC (.int 3)))) [some (.ref a), some (.ref b), some (.ref c), some (.ref d), some (.ref u), some (.ref l)] H1 (.bl true) := fun H2 e2 Q2 q2 =>
      ⟨_, rfl, (el_rep3v (ev_var (i := 4) rfl)) H2 (Ex.refl _) _ fun l3 H3 _ e3 g3 => by
        have du := dp_mono ((e1.trans e2).trans e3) hu
        refine ⟨_, _, dp_mono (e2.trans e3) d1, .lst (SqL.of g3) (.cons du (.cons du (.cons du .nil))), shaped_3 ps hl, shaped_3 ps hl, ?_⟩
        have z : PyData.eqv (.list [dPs ps, dPs ps, dPs ps]) (.list [dPs ps, dPs ps, dPs ps]) = true := by
          simp [PyData.eqv, PyData.eqvAll, eqv_self ps hl]
        rw [z]
        exact q2 H3 e3⟩
    have ev2 : Ev (tOp (rEqD K) (tCall spPM [] E0 (tCons (tVar 3) (tCons (tVar 2) (tCons (tVar 0) (tCons (tVar 1) tNil))))) (tVar 4)) [some (.ref a), some (.ref b), some (.ref c), some (.ref d), some (.ref u), some (.ref l)] H1 (.bl true) := fun H2 e2 Q2 q2 =>
      (etu_pm (ept_var rfl (pt_mono (e1.trans e2) hd)) (ept_var rfl (pt_mono (e1.trans e2) hc)) (ept_var rfl (pt_mono (e1.trans e2) ha)) (ept_var rfl (pt_mono (e1.trans e2) hb)) m4 hl) H2 (Ex.refl _) _ fun l3 as H3 e3 g3 p3 => ⟨_, rfl, by
        refine ⟨dPs ps, _, .tup (SqT.of g3) p3.dp, dp_mono ((e1.trans e2).trans e3) hu, shaped_1 ps hl, shaped_1 ps hl, ?_⟩
        rw [eqv_self ps hl]
        exact q2 H3 e3⟩
    exact s_ret (ev_andV ev1 fun _ => ev2) fun H2 e2 => k H2 (e1.trans e2)
end
end Q
set_option Elab.async false
set_option linter.all false
set_option maxRecDepth 100000
set_option maxHeartbeats 4000000
namespace PM
theorem ruler0 {φ : Fr} (hw : 1 ≤ φ.W) (hk : φ.k ≠ 0) {a b x v : Int} (hv : 1 ≤ v) (h : a ≠ b) : dot (lineOf (spot φ a 0 v) (spot φ b 0 v)) (spot φ x 0 v) = 0 := by
  have r := sgn_ruler hw hk (a := a) (b := 0) (c := b) (d := 0) (e := x) (f := 0) hv (.inl h)
  rw [show (b - a) * (0 - 0) - (0 - 0) * (x - a) = 0 by grind] at r
  exact (zero_by (sense_1 φ) r).mpr rfl
theorem far_same {φ : Fr} (hw : 1 ≤ φ.W) (hk : φ.k ≠ 0) {a b c d s e v : Int} (hv : 1 ≤ v) (h : s ≠ e) (hab : a ≠ b) : sameS (dot (lineOf (spot φ a s v) (spot φ b s v)) (spot φ c e v)) (dot (lineOf (spot φ a s v) (spot φ b s v)) (spot φ d e v)) = true := by
  have r1 := sgn_ruler hw hk (a := a) (b := s) (c := b) (d := s) (e := c) (f := e) hv (.inl hab)
  have r2 := sgn_ruler hw hk (a := a) (b := s) (c := b) (d := s) (e := d) (f := e) hv (.inl hab)
  rw [show (b - a) * (e - s) - (s - s) * (c - a) = (b - a) * (e - s) by grind] at r1
  rw [show (b - a) * (e - s) - (s - s) * (d - a) = (b - a) * (e - s) by grind] at r2
  rw [sameS_by (sense_1 φ) r1 r2, decide_eq_true (sq_p (Int.mul_ne_zero (by omega) (by omega)))]
theorem mm0 (a b : Int) : a * b ≤ 0 ↔ min a b ≤ 0 ∧ 0 ≤ max a b := by
  have z := mm a b 0
  rw [Int.sub_zero, Int.sub_zero] at z
  exact z
end PM
namespace Q
open PySem L2 PySem.Spec PyProof.Rows PySem.Calls
open PM Evl
theorem swp_B {φ : Fr} (h : FrB φ) : FrB (swp φ) := ⟨h.X, h.Y, h.W, h.t0, h.t1, h.o0, h.o1, h.w, k_swp h.k⟩
theorem spot_B {φ : Fr} (h : FrB φ) : B3 1000 (spot φ 0 0 1) := (spot_of (H := fun _ => some (.tup (spot φ 0 0 1).vs)) (l := (0 : Nat)) h bd0 bd0 ⟨by decide⟩ (by decide) rfl).b
theorem mtq_cross {φ : Fr} (h : FrB φ) {a b c d v : Int} (hv : 1 ≤ v) {ps : List P3} (e : ps = if a * b ≤ 0 ∧ c * d ≤ 0 then [spot φ 0 0 1] else []) : MtQ (spot φ a 0 v) (spot φ b 0 v) (spot φ 0 c v) (spot φ 0 d v) ps :=
  ⟨by rw [e]; exact meet_cross h.w h.k hv, fun n1 n2 _ _ => by
    obtain ⟨w0, em⟩ := meet_spot h.w h.k hv (a := a) (b := b) (c := c) (d := d) (fun z => n1 (by rw [z])) (fun z => n2 (by rw [z]))
    refine ⟨w0, ?_, ?_⟩
    · rw [em]
      exact spot_Pt h.w 0 0 1 (by decide)
    · rw [em]
      exact spot_B h⟩
theorem mtq_crossT {φ : Fr} (h : FrB φ) {a b c d v : Int} (hv : 1 ≤ v) {ps : List P3} (e : ps = if a * b ≤ 0 ∧ c * d ≤ 0 then [spot φ 0 0 1] else []) : MtQ (spot φ 0 c v) (spot φ 0 d v) (spot φ a 0 v) (spot φ b 0 v) ps := by
  rw [spot_swp φ 0 c, spot_swp φ 0 d, spot_swp φ a 0, spot_swp φ b 0]
  refine mtq_cross (swp_B h) hv ?_
  rw [← spot_swp, e]
  by_cases z : a * b ≤ 0 ∧ c * d ≤ 0
  · rw [if_pos z, if_pos ⟨z.2, z.1⟩]
  · rw [if_neg z, if_neg fun y => z ⟨y.2, y.1⟩]
theorem mtq_same {φ : Fr} (h : FrB φ) {a b c d v : Int} (hv : 1 ≤ v) {ps : List P3} (e : ps = sort2 ((ends a b c d).map fun t => spot φ t 0 v)) : MtQ (spot φ a 0 v) (spot φ b 0 v) (spot φ c 0 v) (spot φ d 0 v) ps :=
  ⟨by rw [e]; exact meet_same4 h.w h.k hv, fun n1 n2 _ nz => absurd ⟨ruler0 h.w h.k hv (fun z => n1 (by rw [z])), ruler0 h.w h.k hv (fun z => n1 (by rw [z]))⟩ nz⟩
theorem mtq_far {φ : Fr} (h : FrB φ) {a b c d s e v : Int} (hv : 1 ≤ v) (hs : s ≠ e) : MtQ (spot φ a s v) (spot φ b s v) (spot φ c e v) (spot φ d e v) [] :=
  ⟨meet_far h.w h.k hv hs, fun n1 _ z _ => by
    rw [far_same h.w h.k hv hs (fun z => n1 (by rw [z]))] at z
    cases z⟩
theorem ends_len (a b c d : Int) : (ends a b c d).length ≤ 2 := by
  unfold ends
  split
  · split
    · exact (by decide : (1 : Nat) ≤ 2)
    · exact Nat.le_refl 2
  · exact Nat.zero_le 2
abbrev sCR : Stmt := top 43
abbrev sLR : Stmt := top 44
def spCR : Sp := fun vs H Q _ => ∃ (fr s o t x y : Addr) (φ : Fr) (a b c d v : Int), vs = [.ref fr, .ref x, .ref y, .int v] ∧ FrA H fr s o t φ ∧ H x = some (.lst [.int a, .int b]) ∧ H y = some (.lst [.int c, .int d]) ∧ Bd 80 a ∧ Bd 80 b ∧ Bd 80 c ∧ Bd 80 d ∧ Bd 10 v ∧ 1 ≤ v ∧ ∀ H', Ex H H' → Q (.bl true) H'
section
variable {K : PySem.W.Frag} {σ : L2.St} {H : Hp} {ta tb te : TE} {D : Ends} {u : TS} {j i1 i2 : Nat}
/-- a, b = [a point for x in two ints] -/
theorem st_two {x : Addr} {m n : Int} {p q : P3} {tl : TE} {vs : List Nat} (h : Ev tl σ H (.ref x)) (hx : H x = some (.lst [.int m, .int n])) (hw : ∀ z, wipe ((wipe σ vs).set j (some z)) vs = wipe σ vs)
    (h1 : ∀ H1, Ex H H1 → EvPt te ((wipe σ vs).set j (some (.int m))) H1 p) (h2 : ∀ H1, Ex H H1 → EvPt te ((wipe σ vs).set j (some (.int n))) H1 q)
    (k : ∀ (l1 l2 : Addr) H1, Ex H H1 → PtA H1 l1 p → PtA H1 l2 q → D.nx ((σ.set i1 (some (.ref l1))).set i2 (some (.ref l2))) H1) : tAsg (tLc (iList K tl) (gName j) tYes te vs) (gUnl K 2 (gCons (gName i1) (gCons (gName i2) gNil))) D σ H := by
  refine lc_pts (pts := [p, q]) h (SqL.of hx) rfl (by show 2 ≤ 1000; decide) hw (fun i z r H3 e3 hz hr => ?_) (fun Dl H3 ls e3 hls hlen hpt => ?_)
  · match i, hz, hr with
    | 0, hz, hr =>
      cases hz
      cases hr
      exact h1 H3 e3
    | 1, hz, hr =>
      cases hz
      cases hr
      exact h2 H3 e3
    | i + 2, hz, hr => cases hz
  · match ls, hlen with
    | [l1, l2], _ => exact ⟨Dl, _, rfl, SqL.of hls, rfl, _, _, rfl, _, _, rfl, rfl, k l1 l2 H3 e3 (hpt 0 _ _ rfl rfl) (hpt 1 _ _ rfl rfl)⟩
end
section
variable {P : Program} {w : World} {K : PySem.W.Frag} {mg : Str → Option Value} {base : Heap}
theorem scCR : FnScope ["frame", "along", "aside", "over", "one", "two", "three", "four", "reaches", "part"] ["frame", "along", "aside", "over"] (defScope sCR) := ⟨rfl, rfl, rfl, by decide +kernel, rfl, by decide +kernel, by decide +kernel⟩
theorem ok_cr {f : Addr} {fd : FuncData} (F : Fun K "_law_cross_right" "_law_cross_right" sCR f fd) (T : TL mg) (CS : Cl P w K mg base 3 "_law_spot" spSpot) (CM : Cl P w K mg base 6 "_law_meets_right" (spMR K)) : FnOk P w K mg base CX0 7 f fd ["frame", "along", "aside", "over"] spCR := by
  refine F.ok scCR (fun vs H Q E h => ?_) (fun cdv A outer s H vs Q E hr h => ?_)
  · obtain ⟨fr, s, o, t, x, y, φ, a, b, c, d, v, rfl, _⟩ := h
    rfl
  · obtain ⟨fr, s, o, t, x, y, φ, a, b, c, d, v, rfl, hf, hx, hy, ba, bb, bc, bd, bv, hv, k⟩ := h
    refine ⟨_, (Evl.pss_cut (ps_asg (pe_lc (own := [("part", 9)]) (g := gName 9) (by rfl) scCR.nd (pi_list (pv 1))
            (blkOk_by (own := [("part", 9)]) (N := ["frame", "along", "aside", "over", "one", "two", "three", "four", "reaches", "part"]) (sc := defScope sCR) (by decide +kernel))
            (fun _ _ _ _ _ => pg_name (i := 9) scCR.nd rfl (Or.inl rfl)) (fun _ _ _ _ _ => pts_nil)
            (te := tCall spSpot [] E0 (tCons (tVar 0) (tCons (tVar 9) (tCons (tC (.int 0)) (tCons (tVar 3) tNil)))))
            (fun _ _ _ _ _ => by exact (pe_cl CS hr (by decide) (by rfl) (by exact (pa_cons (pv 0) (pa_cons (pv 9) (pa_cons (pe_int) (pa_cons (pv 3) pa_nil))))))))
          (pg_unl (by rfl) (pgs_cons (pg_name (i := 4) scCR.nd rfl (.inl rfl)) (pgs_cons (pg_name (i := 5) scCR.nd rfl (.inl rfl)) pgs_nil))))
      (Evl.pss_cut (ps_asg (pe_lc (own := [("part", 9)]) (g := gName 9) (by rfl) scCR.nd (pi_list (pv 2))
            (blkOk_by (own := [("part", 9)]) (N := ["frame", "along", "aside", "over", "one", "two", "three", "four", "reaches", "part"]) (sc := defScope sCR) (by decide +kernel))
            (fun _ _ _ _ _ => pg_name (i := 9) scCR.nd rfl (Or.inl rfl)) (fun _ _ _ _ _ => pts_nil)
            (te := tCall spSpot [] E0 (tCons (tVar 0) (tCons (tC (.int 0)) (tCons (tVar 9) (tCons (tVar 3) tNil)))))
            (fun _ _ _ _ _ => by exact (pe_cl CS hr (by decide) (by rfl) (by exact (pa_cons (pv 0) (pa_cons (pe_int) (pa_cons (pv 9) (pa_cons (pv 3) pa_nil))))))))
          (pg_unl (by rfl) (pgs_cons (pg_name (i := 6) scCR.nd rfl (.inl rfl)) (pgs_cons (pg_name (i := 7) scCR.nd rfl (.inl rfl)) pgs_nil))))
      (pss_cons (ps_set (i := 8) scCR.nd rfl (Or.inl rfl) (pe_and (pe_chain op_le op_le (pe_callB (cr_min rfl) (by rfl) T.min (by decide +kernel) (pa_cons (pv 1) pa_nil)) pe_int (pe_callB (cr_max rfl) (by rfl) T.max (by decide +kernel) (pa_cons (pv 1) pa_nil)))
          (pe_one (pe_chain op_le op_le (pe_callB (cr_min rfl) (by rfl) T.min (by decide +kernel) (pa_cons (pv 2) pa_nil)) pe_int (pe_callB (cr_max rfl) (by rfl) T.max (by decide +kernel) (pa_cons (pv 2) pa_nil))))))
      (pss_one (ps_ret (pe_cl CM hr (by decide) (by rfl) (pa_cons (pv 4) (pa_cons (pv 5) (pa_cons (pv 6) (pa_cons (pv 7) (pa_cons (pe_ifExp (pt_val (pv 8)) (pe_tup (pa_cons (pe_cl CS hr (by decide) (by rfl) (pa_cons (pv 0) (pa_cons (pe_int) (pa_cons (pe_int) (pa_cons (pe_int) pa_nil))))) pa_nil)) (pe_tup pa_nil)) pa_nil))))))))))), ?_⟩
    refine q_cut (M := fun σ' H' => Ex H H' ∧ ∃ l1 l2 : Addr, σ' = [some (.ref fr), some (.ref x), some (.ref y), some (.int v), some (.ref l1), some (.ref l2), none, none, none, none] ∧ PtA H' l1 (spot φ a 0 v) ∧ PtA H' l2 (spot φ b 0 v)) ?_ ?_
    · exact st_two (p := spot φ a 0 v) (q := spot φ b 0 v) (ev_var rfl) hx (fun _ => rfl) (fun H1 e1 => ept_spot (ev_var rfl) (ev_var rfl) ev_c (ev_var rfl) (fr_mono e1 hf) ba bd0 bv hv) (fun H1 e1 => ept_spot (ev_var rfl) (ev_var rfl) ev_c (ev_var rfl) (fr_mono e1 hf) bb bd0 bv hv) fun l1 l2 H1 e1 x1 x2 => ⟨e1, l1, l2, rfl, x1, x2⟩
    rintro σ1 H1 ⟨e1, l1, l2, rfl, x1, x2⟩
    refine q_cut (M := fun σ' H' => Ex H1 H' ∧ ∃ l3 l4 : Addr, σ' = [some (.ref fr), some (.ref x), some (.ref y), some (.int v), some (.ref l1), some (.ref l2), some (.ref l3), some (.ref l4), none, none] ∧ PtA H' l3 (spot φ 0 c v) ∧ PtA H' l4 (spot φ 0 d v)) ?_ ?_
    · exact st_two (p := spot φ 0 c v) (q := spot φ 0 d v) (ev_var rfl) (e1 _ _ hy) (fun _ => rfl) (fun H2 e2 => ept_spot (ev_var rfl) ev_c (ev_var rfl) (ev_var rfl) (fr_mono (e1.trans e2) hf) bd0 bc bv hv) (fun H2 e2 => ept_spot (ev_var rfl) ev_c (ev_var rfl) (ev_var rfl) (fr_mono (e1.trans e2) hf) bd0 bd bv hv) fun l3 l4 H2 e2 x3 x4 => ⟨e2, l3, l4, rfl, x3, x4⟩
    rintro σ2 H2 ⟨e2, l3, l4, rfl, x3, x4⟩
    have e12 := Ex.trans e1 e2
    have hz : (min a b ≤ 0 ∧ 0 ≤ max a b) ∧ (min c d ≤ 0 ∧ 0 ≤ max c d) ↔ a * b ≤ 0 ∧ c * d ≤ 0 := by rw [mm0, mm0]
    refine q_asg (ev_is (ev_andV (ev_chain (ev_minL (ev_var rfl) (e12 _ _ hx)) ev_c (ev_maxL (ev_var rfl) (e12 _ _ hx))) fun _ => ev_chain (ev_minL (ev_var rfl) (e12 _ _ hy)) ev_c (ev_maxL (ev_var rfl) (e12 _ _ hy))) (w := .bl (decide (a * b ≤ 0 ∧ c * d ≤ 0))) (by
      congr 1
      rw [show decide (a * b ≤ 0 ∧ c * d ≤ 0) = decide ((min a b ≤ 0 ∧ 0 ≤ max a b) ∧ (min c d ≤ 0 ∧ 0 ≤ max c d)) from decide_eq_decide.mpr hz.symm]
      by_cases z1 : min a b ≤ 0 ∧ 0 ≤ max a b <;> by_cases z2 : min c d ≤ 0 ∧ 0 ≤ max c d <;> simp [z1, z2])) fun H3 e3 => ?_
    have e13 := e12.trans e3
    have hm := mtq_cross hf.b (a := a) (b := b) (c := c) (d := d) hv rfl
    have hm2 := mtq_cross hf.b (a := b) (b := a) (c := c) (d := d) hv (ps := if a * b ≤ 0 ∧ c * d ≤ 0 then [spot φ 0 0 1] else []) (by rw [Int.mul_comm b a])
    have hm3 := mtq_crossT hf.b (a := b) (b := a) (c := c) (d := d) hv (ps := if a * b ≤ 0 ∧ c * d ≤ 0 then [spot φ 0 0 1] else []) (by rw [Int.mul_comm b a])
    have hm4 := mtq_crossT hf.b (a := a) (b := b) (c := d) (d := c) hv (ps := if a * b ≤ 0 ∧ c * d ≤ 0 then [spot φ 0 0 1] else []) (by rw [Int.mul_comm d c])
    have fin : ∀ (l : Addr) (ps : List P3) (H4 : Hp), ps = (if a * b ≤ 0 ∧ c * d ≤ 0 then [spot φ 0 0 1] else []) → Ex H3 H4 → Dp K H4 (.ref l) (dPs ps) → spMR K ([V.ref l1, .ref l2, .ref l3, .ref l4, .ref l] ++ []) H4 Q E0 := fun l ps H4 ep e4 hd => by
      have e24 := Ex.trans e3 e4
      rw [← ep] at hm hm2 hm3 hm4
      refine ⟨l1, l2, l3, l4, l, _, _, _, _, ps, rfl, pt_mono (e2.trans e24) x1, pt_mono (e2.trans e24) x2, pt_mono e24 x3, pt_mono e24 x4, hd, ?_, hm, hm2, hm3, hm4, fun H5 e5 => k H5 ((e13.trans e4).trans e5)⟩
      rw [ep]
      split
      · exact (by decide : (1 : Nat) ≤ 2)
      · exact Nat.zero_le 2
    by_cases z : a * b ≤ 0 ∧ c * d ≤ 0
    · refine ⟨_, rfl, _, rfl, _, rfl, _, rfl, _, rfl, true, ?_, ?_⟩
      · rw [decide_eq_true z]
      refine ⟨_, rfl, fr, s, o, t, φ, 0, 0, 1, rfl, fr_mono e13 hf, bd0, bd0, ⟨by decide⟩, by decide, fun l H4 h1 e4 h4 => ⟨(by show 1 ≤ sizeLine; decide), fun l5 h5 => ?_⟩⟩
      have e5 := Ex.new (o := .tup [.ref l]) h5
      exact fin l5 [spot φ 0 0 1] _ (if_pos z).symm (Ex.trans e4 e5) (.tup (SqT.of upd_same) (.cons (dp_of (e5 _ _ h4.h)) .nil))
    · refine ⟨_, rfl, _, rfl, _, rfl, _, rfl, _, rfl, false, ?_, ?_⟩
      · rw [decide_eq_false z]
      refine ⟨(by show 0 ≤ sizeLine; decide), fun l5 h5 => ?_⟩
      have e5 := Ex.new (o := .tup []) h5
      exact fin l5 [] _ (if_neg z).symm e5 (.tup (SqT.of upd_same) .nil)
end
end Q
set_option Elab.async false
set_option linter.all false
set_option maxRecDepth 100000
set_option maxHeartbeats 4000000
namespace Q
open PySem L2 PySem.Spec PyProof.Rows PySem.Calls
open PM Evl
def spLR : Sp := fun vs H Q _ => ∃ (fr s o t x y : Addr) (φ : Fr) (a b c d e v : Int), vs = [.ref fr, .ref x, .ref y, .int e, .int v] ∧ FrA H fr s o t φ ∧ H x = some (.lst [.int a, .int b]) ∧ H y = some (.lst [.int c, .int d]) ∧ Bd 80 a ∧ Bd 80 b ∧ Bd 80 c ∧ Bd 80 d ∧ Bd 80 e ∧ Bd 10 v ∧ 1 ≤ v ∧ ∀ H', Ex H H' → Q (.bl true) H'
section
variable {K : PySem.W.Frag} {σ : L2.St} {H : Hp} {ta tb te : TE} {D : Ends} {tz : TS} {i : Nat} {p q : P3} {xs : List V} {Q : VK} {b : Bool} {t : TT} {QT : Bool → Hp → Prop}
theorem go_U (h : EvU te σ H xs) (k : ∀ l H1, H l = none → Ex H H1 → H1 l = some (.tup xs) → Q (.ref l) H1) : te σ H Q := h H (Ex.refl H) _ k
theorem go_T (h : EvT t σ H b) (k : ∀ H1, Ex H H1 → QT b H1) : t σ H QT := h H (Ex.refl H) _ k
theorem q_lst2P (h1 : EvPt ta σ H p) (h2 : EvPt tb σ H q) (k : ∀ (l l1 l2 : Addr) H1, Ex H H1 → H1 l = some (.lst [.ref l1, .ref l2]) → PtA H1 l1 p → PtA H1 l2 q → tz D (σ.set i (some (.ref l))) H1) : tSeq (tAsg (tLst (tCons ta (tCons tb tNil))) (gName i)) tz D σ H :=
  h1 H (Ex.refl H) _ fun l1 H2 e2 x1 => h2 H2 e2 _ fun l2 H3 e3 x2 => ⟨(by show 2 ≤ sizeLine; decide), fun l hl => by
    have e4 := Ex.new (o := .lst [.ref l1, .ref l2]) hl
    exact k l l1 l2 _ ((e2.trans e3).trans e4) upd_same (pt_mono (e3.trans e4) x1) (pt_mono e4 x2)⟩
end
theorem mono80 {b : Int} (h : Bd 80 b) : Bd 80 b := h
theorem bd_min {k : Nat} {a b : Int} (h : Bd k a) (g : Bd k b) : Bd k (min a b) := by
  rcases Int.le_total a b with c | c
  · rw [Int.min_eq_left c]; exact h
  · rw [Int.min_eq_right c]; exact g
theorem bd_max {k : Nat} {a b : Int} (h : Bd k a) (g : Bd k b) : Bd k (max a b) := by
  rcases Int.le_total a b with c | c
  · rw [Int.max_eq_right c]; exact g
  · rw [Int.max_eq_left c]; exact h
section
variable {P : Program} {w : World} {K : PySem.W.Frag} {mg : Str → Option Value} {base : Heap}
theorem scLR : FnScope ["frame", "one_span", "other_span", "side", "over", "low", "high", "due", "ends", "one", "two", "three", "four", "part"] ["frame", "one_span", "other_span", "side", "over"] (defScope sLR) := ⟨rfl, rfl, rfl, by decide +kernel, rfl, by decide +kernel, by decide +kernel⟩
theorem ok_lr {f : Addr} {fd : FuncData} (F : Fun K "_law_line_right" "_law_line_right" sLR f fd) (T : TL mg) (CS : Cl P w K mg base 3 "_law_spot" spSpot) (CM : Cl P w K mg base 6 "_law_meets_right" (spMR K)) : FnOk P w K mg base CX0 7 f fd ["frame", "one_span", "other_span", "side", "over"] spLR := by
  refine F.ok scLR (fun vs H Q E h => ?_) (fun cdv A outer s H vs Q E hr h => ?_)
  · obtain ⟨fr, s, o, t, x, y, φ, a, b, c, d, e, v, rfl, _⟩ := h
    rfl
  · obtain ⟨fr, s, o, t, x, y, φ, a, b, c, d, e, v, rfl, hf, hx, hy, ba, bb, bc, bd, be, bv, hv, k⟩ := h
    have hun := hr.units
    refine ⟨_, (pss_cons (ps_par (i := 5) (j := 6) (by rfl) scLR.nd rfl rfl (by decide) rfl rfl (pa_cons (pe_callB (call_max2 rfl) (by rfl) T.max (by decide +kernel) (pa_cons (pe_callB (cr_min rfl) (by rfl) T.min (by decide +kernel) (pa_cons (pv 1) pa_nil)) (pa_cons (pe_callB (cr_min rfl) (by rfl) T.min (by decide +kernel) (pa_cons (pv 2) pa_nil)) pa_nil))) (pa_cons (pe_callB (call_min2 rfl) (by rfl) T.min (by decide +kernel) (pa_cons (pe_callB (cr_max rfl) (by rfl) T.max (by decide +kernel) (pa_cons (pv 1) pa_nil)) (pa_cons (pe_callB (cr_max rfl) (by rfl) T.max (by decide +kernel) (pa_cons (pv 2) pa_nil)) pa_nil))) pa_nil)) (by rfl))
      (pss_cons (ps_set (i := 7) scLR.nd rfl (Or.inl rfl) (pe_tup pa_nil))
      (Evl.pss_cut (ps_if (pw_and (pt_cmpR op_eq (pv 3) pe_int (nomark _)) (pw_and1 (pt_cmpR op_le (pv 5) (pv 6) (nomark _)))).pt
          (pss_cons (ps_set (i := 8) scLR.nd rfl (Or.inl rfl) (pe_lst (pa_cons (pe_cl CS hr (by decide) (by rfl) (pa_cons (pv 0) (pa_cons (pv 5) (pa_cons (pe_int) (pa_cons (pv 4) pa_nil))))) (pa_cons (pe_cl CS hr (by decide) (by rfl) (pa_cons (pv 0) (pa_cons (pv 6) (pa_cons (pe_int) (pa_cons (pv 4) pa_nil))))) pa_nil))))
          (pss_one (ps_set (i := 7) scLR.nd rfl (Or.inl rfl) (pe_ifExp (pt_cmpR op_eq (pv 5) (pv 6) (nomark _)) (pe_tup (pa_cons ((pe_ix ix_list (pv 8) pe_int (fun _ _ => rfl))) pa_nil)) (pe_tup (pa_cons (pe_callB (cr_minLP rfl hun) (by rfl) T.min (by decide +kernel) (pa_cons (pv 8) pa_nil)) (pa_cons (pe_callB (cr_maxLP rfl hun) (by rfl) T.max (by decide +kernel) (pa_cons (pv 8) pa_nil)) pa_nil))))))) pss_nil)
      (Evl.pss_cut (ps_asg (pe_lc (own := [("part", 13)]) (g := gName 13) (by rfl) scLR.nd (pi_list (pv 1))
            (blkOk_by (own := [("part", 13)]) (N := ["frame", "one_span", "other_span", "side", "over", "low", "high", "due", "ends", "one", "two", "three", "four", "part"]) (sc := defScope sLR) (by decide +kernel))
            (fun _ _ _ _ _ => pg_name (i := 13) scLR.nd rfl (Or.inl rfl)) (fun _ _ _ _ _ => pts_nil)
            (te := tCall spSpot [] E0 (tCons (tVar 0) (tCons (tVar 13) (tCons (tC (.int 0)) (tCons (tVar 4) tNil)))))
            (fun _ _ _ _ _ => by exact (pe_cl CS hr (by decide) (by rfl) (by exact (pa_cons (pv 0) (pa_cons (pv 13) (pa_cons (pe_int) (pa_cons (pv 4) pa_nil))))))))
          (pg_unl (by rfl) (pgs_cons (pg_name (i := 9) scLR.nd rfl (.inl rfl)) (pgs_cons (pg_name (i := 10) scLR.nd rfl (.inl rfl)) pgs_nil))))
      (Evl.pss_cut (ps_asg (pe_lc (own := [("part", 13)]) (g := gName 13) (by rfl) scLR.nd (pi_list (pv 2))
            (blkOk_by (own := [("part", 13)]) (N := ["frame", "one_span", "other_span", "side", "over", "low", "high", "due", "ends", "one", "two", "three", "four", "part"]) (sc := defScope sLR) (by decide +kernel))
            (fun _ _ _ _ _ => pg_name (i := 13) scLR.nd rfl (Or.inl rfl)) (fun _ _ _ _ _ => pts_nil)
            (te := tCall spSpot [] E0 (tCons (tVar 0) (tCons (tVar 13) (tCons (tVar 3) (tCons (tVar 4) tNil)))))
            (fun _ _ _ _ _ => by exact (pe_cl CS hr (by decide) (by rfl) (by exact (pa_cons (pv 0) (pa_cons (pv 13) (pa_cons (pv 3) (pa_cons (pv 4) pa_nil))))))))
          (pg_unl (by rfl) (pgs_cons (pg_name (i := 11) scLR.nd rfl (.inl rfl)) (pgs_cons (pg_name (i := 12) scLR.nd rfl (.inl rfl)) pgs_nil))))
      (pss_one (ps_ret (pe_cl CM hr (by decide) (by rfl) (pa_cons (pv 9) (pa_cons (pv 10) (pa_cons (pv 11) (pa_cons (pv 12) (pa_cons (pv 7) pa_nil))))))))))))), ?_⟩
    refine q_par (ev_max2' (ev_minL (ev_var rfl) hx) (ev_minL (ev_var rfl) hy)) (ev_min2 (ev_maxL (ev_var rfl) hx) (ev_maxL (ev_var rfl) hy)) fun H1 e1 => ?_
    refine q_asgU (eu_tup ea_nil (by decide)) fun l0 H2 _ e2 h2 => ?_
    have e12 := Ex.trans e1 e2
    have hf2 := fr_mono e12 hf
    have bL : Bd 80 (max (min a b) (min c d)) := bd_max (bd_min ba bb) (bd_min bc bd)
    have bH : Bd 80 (min (max a b) (max c d)) := bd_min (bd_max ba bb) (bd_max bc bd)
    refine q_cut (M := fun σ' H' => Ex H2 H' ∧ ∃ (l : Addr) (z8 : Option V), σ' = [some (.ref fr), some (.ref x), some (.ref y), some (.int e), some (.int v), some (.int (max (min a b) (min c d))), some (.int (min (max a b) (max c d))), some (.ref l), z8, none, none, none, none, none] ∧
      Dp K H' (.ref l) (dPs (if e = 0 then sort2 ((ends a b c d).map fun t => spot φ t 0 v) else []))) ?_ ?_
    · have st0 : ∀ m : Int, (V.int m = V.int 0) ↔ m = 0 := fun m => ⟨fun h => by injection h, fun h => by rw [h]⟩
      have st1 : ∀ m n : Int, (V.int m = V.int n) ↔ m = n := fun m n => ⟨fun h => by injection h, fun h => by rw [h]⟩
      refine s_when (et_and (et_test (ev_op (ev_var rfl) ev_c (rv_eq rfl))) fun _ => et_test (ev_op (ev_var rfl) (ev_var rfl) rv_I0)) (fun hz H3 e3 => ?_) (fun hz H3 e3 => ?_)
      · obtain ⟨z1, z2⟩ := Bool.and_eq_true_iff.mp hz
        have z1 := (st0 _).mp (of_decide_eq_true z1)
        have z2 : max (min a b) (min c d) ≤ min (max a b) (max c d) := of_decide_eq_true z2
        have hf3 := fr_mono e3 hf2
        rw [if_pos z1]
        refine q_lst2P (p := spot φ (max (min a b) (min c d)) 0 v) (q := spot φ (min (max a b) (max c d)) 0 v) (ept_spot (ev_var rfl) (ev_var rfl) ev_c (ev_var rfl) hf3 bL bd0 bv hv) (ept_spot (ev_var rfl) (ev_var rfl) ev_c (ev_var rfl) hf3 bH bd0 bv hv) fun l8 l1 l2 H4 e4 h8 x1 x2 => ?_
        refine go_T (et_test (ev_op (ev_var rfl) (ev_var rfl) (rv_eq rfl))) fun H5 e5 => ?_
        have h8 := e5 _ _ h8
        have x1 := pt_mono e5 x1
        have x2 := pt_mono e5 x2
        have e35 := (Ex.trans e3 e4).trans e5
        refine ite2 (fun z => ?_) (fun z => ?_)
        · have z := (st1 _ _).mp (of_decide_eq_true z)
          refine go_U (eu_tup (ea_cons (ev_ixL (ev_var rfl) h8 rfl) ea_nil) (by show 1 ≤ 100000; decide)) fun l6 H6 _ e6 h6 => ⟨e35.trans e6, l6, _, rfl, ?_⟩
          rw [ends1 z]
          exact .tup (SqT.of h6) (.cons (dp_of (pt_mono e6 x1).h) .nil)
        · have z : max (min a b) (min c d) ≠ min (max a b) (max c d) := fun y => z (decide_eq_true ((st1 _ _).mpr y))
          rw [ends2 (by omega)]
          refine ⟨_, rfl, l8, l1, l2, _, _, rfl, h8, x1.h, x2.h, _, rfl, l8, l1, l2, _, _, rfl, h8, x1.h, x2.h, (by show 2 ≤ sizeLine; decide), fun l6 hl6 => ?_⟩
          have e6 := Ex.new (o := .tup [V.ref (if ltT (spot φ (min (max a b) (max c d)) 0 v) (spot φ (max (min a b) (min c d)) 0 v) = true then l2 else l1), V.ref (if ltT (spot φ (max (min a b) (min c d)) 0 v) (spot φ (min (max a b) (max c d)) 0 v) = true then l2 else l1)]) hl6
          refine ⟨e35.trans e6, l6, _, rfl, .tup (SqT.of upd_same) ?_⟩
          have x1 := pt_mono e6 x1
          have x2 := pt_mono e6 x2
          generalize upd H5 l6 _ = H6 at x1 x2
          show DpAll K H6 _ ((if ltT (spot φ (min (max a b) (max c d)) 0 v) (spot φ (max (min a b) (min c d)) 0 v) = true then [spot φ (min (max a b) (max c d)) 0 v, spot φ (max (min a b) (min c d)) 0 v] else [spot φ (max (min a b) (min c d)) 0 v, spot φ (min (max a b) (max c d)) 0 v]).map dP)
          generalize spot φ (max (min a b) (min c d)) 0 v = p at x1
          generalize spot φ (min (max a b) (max c d)) 0 v = q at x2
          by_cases c1 : ltT q p = true
          · have c2 : ¬ ltT p q = true := fun y => by
              rw [ltT_iff] at c1 y
              omega
            rw [if_pos c1, if_pos c1, if_neg c2]
            exact .cons (dp_of x2.h) (.cons (dp_of x1.h) .nil)
          · rw [if_neg c1, if_neg c1]
            by_cases c2 : ltT p q = true
            · rw [if_pos c2]
              exact .cons (dp_of x1.h) (.cons (dp_of x2.h) .nil)
            · rw [if_neg c2]
              have ee := ltT_tot (Bool.eq_false_iff.mpr c1) (Bool.eq_false_iff.mpr c2)
              subst ee
              exact .cons (dp_of x1.h) (.cons (dp_of x1.h) .nil)
      · refine ⟨e3, l0, _, rfl, ?_⟩
        have ee : (if e = 0 then sort2 ((ends a b c d).map fun t => spot φ t 0 v) else []) = [] := by
          by_cases z1 : e = 0
          · rw [if_pos z1, ends0]
            · rfl
            · by_cases z2 : max (min a b) (min c d) ≤ min (max a b) (max c d)
              · rw [decide_eq_true ((st0 e).mpr z1)] at hz
                have hz : decide (max (min a b) (min c d) ≤ min (max a b) (max c d)) = false := hz
                rw [decide_eq_true z2] at hz
                cases hz
              · omega
          · rw [if_neg z1]
        rw [ee]
        exact .tup (SqT.of (e3 _ _ h2)) .nil
    rintro σ3 H3 ⟨e3, l7, z8, rfl, hd⟩
    have e13 := Ex.trans e12 e3
    refine q_cut (M := fun σ' H' => Ex H3 H' ∧ ∃ l1 l2 : Addr, σ' = [some (.ref fr), some (.ref x), some (.ref y), some (.int e), some (.int v), some (.int (max (min a b) (min c d))), some (.int (min (max a b) (max c d))), some (.ref l7), z8, some (.ref l1), some (.ref l2), none, none, none] ∧ PtA H' l1 (spot φ a 0 v) ∧ PtA H' l2 (spot φ b 0 v)) ?_ ?_
    · exact st_two (p := spot φ a 0 v) (q := spot φ b 0 v) (ev_var rfl) (e13 _ _ hx) (fun _ => rfl) (fun H1 e1 => ept_spot (ev_var rfl) (ev_var rfl) ev_c (ev_var rfl) (fr_mono (e13.trans e1) hf) ba bd0 bv hv) (fun H1 e1 => ept_spot (ev_var rfl) (ev_var rfl) ev_c (ev_var rfl) (fr_mono (e13.trans e1) hf) bb bd0 bv hv) fun l1 l2 H1 e1 x1 x2 => ⟨e1, l1, l2, rfl, x1, x2⟩
    rintro σ4 H4 ⟨e4, l1, l2, rfl, x1, x2⟩
    have e14 := Ex.trans e13 e4
    refine q_cut (M := fun σ' H' => Ex H4 H' ∧ ∃ l3 l4 : Addr, σ' = [some (.ref fr), some (.ref x), some (.ref y), some (.int e), some (.int v), some (.int (max (min a b) (min c d))), some (.int (min (max a b) (max c d))), some (.ref l7), z8, some (.ref l1), some (.ref l2), some (.ref l3), some (.ref l4), none] ∧ PtA H' l3 (spot φ c e v) ∧ PtA H' l4 (spot φ d e v)) ?_ ?_
    · exact st_two (p := spot φ c e v) (q := spot φ d e v) (ev_var rfl) (e14 _ _ hy) (fun _ => rfl) (fun H1 e1 => ept_spot (ev_var rfl) (ev_var rfl) (ev_var rfl) (ev_var rfl) (fr_mono (e14.trans e1) hf) bc be bv hv) (fun H1 e1 => ept_spot (ev_var rfl) (ev_var rfl) (ev_var rfl) (ev_var rfl) (fr_mono (e14.trans e1) hf) bd be bv hv) fun l1 l2 H1 e1 x1 x2 => ⟨e1, l1, l2, rfl, x1, x2⟩
    rintro σ5 H5 ⟨e5, l3, l4, rfl, x3, x4⟩
    refine ⟨_, rfl, _, rfl, _, rfl, _, rfl, _, rfl, l1, l2, l3, l4, l7, _, _, _, _, _, rfl, pt_mono e5 x1, pt_mono e5 x2, x3, x4, dp_mono (e4.trans e5) hd, ?_, ?_, ?_, ?_, ?_, fun H6 e6 => k H6 ((e14.trans e5).trans e6)⟩
    · split
      · rw [sort2_len, List.length_map]
        exact ends_len a b c d
      · exact Nat.zero_le 2
    · by_cases z : e = 0
      · subst z
        exact mtq_same hf.b hv (if_pos rfl)
      · rw [if_neg z]
        exact mtq_far hf.b hv (fun y => z y.symm)
    · by_cases z : e = 0
      · subst z
        exact mtq_same hf.b hv (by rw [if_pos rfl, ends_swap])
      · rw [if_neg z]
        exact mtq_far hf.b hv (fun y => z y.symm)
    · by_cases z : e = 0
      · subst z
        exact mtq_same hf.b hv (by rw [if_pos rfl, ends_turn b a c d, ends_swap a b c d])
      · rw [if_neg z]
        exact mtq_far hf.b hv z
    · by_cases z : e = 0
      · subst z
        exact mtq_same hf.b hv (by rw [if_pos rfl, ends_swap c d a b, ends_turn a b c d])
      · rw [if_neg z]
        exact mtq_far hf.b hv z
end
end Q
set_option Elab.async false
set_option linter.all false
set_option maxRecDepth 100000
set_option maxHeartbeats 4000000
namespace Q
open PySem L2 PySem.Spec PyProof.Rows PySem.Calls
open PM Evl
theorem reads_ints {h : Heap} {vs : List Value} {ns : List Int} (x : IntsAre vs ns) : ReadsAll h vs (ns.map PyData.int) [] := by
  induction x with
  | nil => exact .nil
  | cons n t _ ih => exact .cons (as := []) (bs := []) (.int ..) ih
def maxOf (d : Int) : List Int → Int
  | [] => d
  | n :: ns => ns.foldl max n
/-- max(xs, default=d) of ints -/
def rMaxDf (K : PySem.W.Frag) : List V → List V → Hp → VK → Prop := fun vs zs H Q => ∃ (a : Addr) (ns : List Int) (d : Int), vs = [V.ref a] ∧ zs = [.int d] ∧ SqL K H a (ns.map V.int) ∧ Q (.int (maxOf d ns)) H
section
variable {X : Cx}
theorem cr_maxDf (hc : X.calm = true) (hu : X.A.units + 64 < cLine) : CallRK X (.builtin "max") [Str.ofString "default"] (rMaxDf X.K) := by
  intro pins s σ H vs zs us ws Q I r rz h
  obtain ⟨a, ns, d, rfl, rfl, hs, q⟩ := h
  obtain ⟨its, rv, hl, hz⟩ := I.list hs
  rw [Vals.ref1 r]
  obtain ⟨w1, rfl, t1, rfl⟩ := vals1 rz
  have hi := rv.ints
  have dep : ∀ ms : List Int, PyData.depthAll (ms.map PyData.int) ≤ 5 := fun ms => by
    induction ms with
    | nil => exact Nat.zero_le _
    | cons m ms ih => exact Nat.max_le.mpr ⟨(by simp [PyData.depth]), ih⟩
  refine PySem.W.max_list_default (I.ok.hd hc) hl.isList (reads_ints (h := s.heap) hi) ⟨fun x hx y hy => ?_, fun x hx => ?_⟩ (by have := dep ns; omega) (fun e h' tk keep => ?_) fun y ys i v h' tk bs e hv hr keep => ?_
  · obtain ⟨m, _, rfl⟩ := List.mem_map.mp hx
    obtain ⟨n, _, rfl⟩ := List.mem_map.mp hy
    rfl
  · obtain ⟨m, _, rfl⟩ := List.mem_map.mp hx
    exact fun z => nomatch z
  · have e : ns = [] := List.map_eq_nil_iff.mp e
    subst e
    exact ⟨.int d, H, I.kept (t' := tk) keep, ⟨_, rfl⟩, q⟩
  · match ns, e with
    | n :: ns, e =>
      simp only [List.map_cons, List.cons.injEq] at e
      obtain ⟨e1, e2⟩ := e
      subst e1 e2
      rw [PySem.W.maxD_ints] at hr
      cases hr
      exact ⟨.int _, H, I.kept (t' := tk) keep, ⟨_, rfl⟩, q⟩
end
theorem maxOf_in {d B : Int} (hd : 0 ≤ d ∧ d ≤ B) : ∀ ns : List Int, (∀ n ∈ ns, 0 ≤ n ∧ n ≤ B) → 0 ≤ maxOf d ns ∧ maxOf d ns ≤ B
  | [], _ => hd
  | n :: ns, h => by
    have aux : ∀ (l : List Int) (a : Int), 0 ≤ a ∧ a ≤ B → (∀ m ∈ l, 0 ≤ m ∧ m ≤ B) → 0 ≤ l.foldl max a ∧ l.foldl max a ≤ B := fun l => by
      induction l with
      | nil => exact fun a ha _ => ha
      | cons m l ih => exact fun a ha hl => ih (max a m) (by have := hl m List.mem_cons_self; omega) fun x hx => hl x (List.mem_cons_of_mem _ hx)
    exact aux ns n (h n List.mem_cons_self) fun x hx => h x (List.mem_cons_of_mem _ hx)
theorem maxOf_ge (d : Int) : ∀ ns : List Int, ∀ n ∈ ns, n ≤ maxOf d ns
  | m :: ns, n, h => by
    have aux : ∀ (l : List Int) (a : Int), a ≤ l.foldl max a ∧ ∀ x ∈ l, x ≤ l.foldl max a := fun l => by
      induction l with
      | nil => exact fun a => ⟨Int.le_refl _, fun x hx => absurd hx (by simp)⟩
      | cons y l ih =>
        intro a
        have h1 := (ih (max a y)).1
        have h2 := (ih (max a y)).2
        refine ⟨(by show a ≤ l.foldl max (max a y); omega), fun x hx => ?_⟩
        show x ≤ l.foldl max (max a y)
        rcases List.mem_cons.mp hx with rfl | hx
        · omega
        · exact h2 x hx
    obtain ⟨h1, h2⟩ := aux ns m
    rcases List.mem_cons.mp h with rfl | h
    · exact h1
    · exact h2 n h
def bitsI (n : Int) : Int := (Builtin.Int.intBits n : Int)
def fineB (ns : List Int) : Int := 2 * maxOf 0 (ns.map bitsI)
theorem bits_le {k : Nat} {n : Int} (h : Bd k n) (hk : k ≤ 100000) : 0 ≤ bitsI n ∧ bitsI n ≤ (k : Int) := by
  refine ⟨Int.natCast_nonneg _, ?_⟩
  unfold bitsI Builtin.Int.intBits
  split
  · exact Int.natCast_nonneg _
  · rename_i hz
    have hn : n.natAbs ≠ 0 := by
      intro z
      apply hz
      rw [Int.natAbs_eq_zero.mp z]
      rfl
    have := (Nat.log2_lt hn).mpr h.lt
    omega
abbrev sFB : Stmt := top 22
abbrev sFS : Stmt := top 23
section
variable {K : PySem.W.Frag} {σ : L2.St} {H : Hp} {te tl : TE}
theorem et_yes : EvT tYes σ H true := fun H1 _ Q q => q H1 (Ex.refl _)
theorem given_map {α : Type} (xs : List α) (g : α → V) (d : α) : given xs.length (fun _ => true) (fun i => g (xs.getD i d)) = xs.map g := by
  unfold given
  rw [List.filter_eq_self.mpr (fun _ _ => rfl)]
  refine List.ext_getElem (by simp) fun i h1 h2 => ?_
  simp at h1
  simp [h1]
theorem ev_bits {n : Int} (h : Ev te σ H (.int n)) : Ev (tBits te) σ H (.int (bitsI n)) := fun H1 e Q q => h H1 e _ fun H2 e2 => ⟨n, rfl, q H2 e2⟩
theorem ev_maxDf {ns : List Int} {d : Int} (h : EvL te σ H (ns.map V.int)) : Ev (tCKw (rMaxDf K) (tCons te tNil) (tCons (tC (.int d)) tNil)) σ H (.int (maxOf d ns)) := fun H1 e Q q => h H1 e _ fun p H2 _ e2 hp => ⟨p, ns, d, rfl, rfl, SqL.of hp, q H2 e2⟩
/-- over a list of pairs of ints, each taken apart -/
theorem el_lcP {a : Addr} {ts : List Addr} {ms : List (Int × Int)} {i j : Nat} {vs : List Nat} (v : Nat → V) (h : Ev tl σ H (.ref a)) (hx : SqL K H a (ts.map V.ref)) (hp : ∀ (k : Nat) t m, ts[k]? = some t → ms[k]? = some m → H t = some (.tup [.int m.1, .int m.2])) (hl : ts.length = ms.length) (hz : ts.length ≤ 40000)
    (hw : ∀ x y, wipe (((wipe σ vs).set i (some x)).set j (some y)) vs = wipe σ vs)
    (he : ∀ (k : Nat) m H1, Ex H H1 → ms[k]? = some m → Ev te (((wipe σ vs).set i (some (.int m.1))).set j (some (.int m.2))) H1 (v k)) :
    EvL (tLc (iList K tl) (gTup K 2 (gCons (gName i) (gCons (gName j) gNil))) tYes te vs) σ H (given ts.length (fun _ => true) v) := fun H0 e Q q => h H0 e _ fun H1 e1 => ⟨a, rfl, ⟨_, ex_l (e.trans e1) hx⟩, fun Dl hD =>
  lc_list (xs := ts.map V.ref) (Cw H1 (fun _ => true) v Dl) ⟨hD, Ex.new hD, upd_same⟩ (fun i H' _ p => ex_l ((e.trans e1).trans p.2.1) hx) (fun k x H' hi p => by
    have hlt : k < (ts.map V.ref).length := (List.getElem?_eq_some_iff.mp hi).1
    rw [List.length_map] at hlt
    have ht : ts[k]? = some ts[k] := List.getElem?_eq_getElem hlt
    have hm : ms[k]? = some (ms[k]'(by omega)) := List.getElem?_eq_getElem (by omega)
    rw [List.getElem?_map, ht] at hi
    cases hi
    have hH := ((e.trans e1).trans p.2.1) _ _ (hp k _ _ ht hm)
    exact ⟨_, _, rfl, SqT.of hH, rfl, _, _, rfl, _, _, rfl, rfl, hw _ _, cw_turn p (by omega) et_yes fun _ => he k _ H1 (e.trans e1) hm⟩)
    (fun H' p => by
      rw [List.length_map] at p
      exact q Dl H' (fresh_back e1 p.1) (e1.trans p.2.1) p.2.2)⟩
end
def spFB (K : PySem.W.Frag) : Sp := fun vs H Q _ => ∃ (a : Addr) (ns : List Int), vs = [.ref a] ∧ SqL K H a (ns.map V.int) ∧ ns.length ≤ 1000 ∧ (∀ n ∈ ns, Bd 6000 n) ∧ ∀ H', Ex H H' → Q (.int (fineB ns)) H'
def steps (ms : List (Int × Int)) : List Int := ms.map fun m => (m.1 * 2 ^ (fineB (ms.map (·.2))).toNat).fdiv m.2
def spFS (K : PySem.W.Frag) : Sp := fun vs H Q _ => ∃ (a : Addr) (ts : List Addr) (ms : List (Int × Int)), vs = [.ref a] ∧ SqL K H a (ts.map V.ref) ∧ (∀ (k : Nat) t m, ts[k]? = some t → ms[k]? = some m → H t = some (.tup [.int m.1, .int m.2])) ∧ ts.length = ms.length ∧ ts.length ≤ 1000 ∧
  (∀ m ∈ ms, Bd 6000 m.1 ∧ Bd 6000 m.2 ∧ m.2 ≠ 0) ∧ ∀ l H', H l = none → Ex H H' → H' l = some (.lst ((steps ms).map V.int)) → Q (.ref l) H'
section
variable {P : Program} {w : World} {K : PySem.W.Frag} {mg : Str → Option Value} {base : Heap}
theorem scFB : FnScope ["bottoms", "bottom"] ["bottoms"] (defScope sFB) := ⟨rfl, rfl, rfl, by decide +kernel, rfl, by decide +kernel, by decide +kernel⟩
theorem ok_fb {f : Addr} {fd : FuncData} (F : Fun K "fine_bits" "fine_bits" sFB f fd) (T : TB mg) : FnOk P w K mg base CX0 1 f fd ["bottoms"] (spFB K) := by
  refine F.ok scFB (fun vs H Q E h => ?_) (fun cdv A outer s H vs Q E hr h => ?_)
  · obtain ⟨a, ns, rfl, _⟩ := h
    rfl
  · obtain ⟨a, ns, rfl, ha, hl, hb, k⟩ := h
    have hun := hr.units
    refine ⟨_, pss_one (ps_ret (pe_op op_mulW pe_int (pe_callBK (cr_maxDf rfl hun) (by rfl) T.max (by decide +kernel) (pa_cons (pe_lc (own := [("bottom", 1)]) (g := gName 1) (by rfl) scFB.nd (pi_list (pv 0))
            (blkOk_by (own := [("bottom", 1)]) (N := ["bottoms", "bottom"]) (sc := defScope sFB) (by decide +kernel))
            (fun _ _ _ _ _ => pg_name (i := 1) scFB.nd rfl (Or.inl rfl)) (fun _ _ _ _ _ => pts_nil)
            (te := tBits (tVar 1)) (fun _ _ _ _ _ => by exact (pe_bits (pv 1)))) pa_nil) (pk_cons pe_int pk_nil)))), ?_⟩
    have hL : EvL (tLc (iList K (tVar 0)) (gName 1) tYes (tBits (tVar 1)) [1]) (L2.start ["bottoms", "bottom"] [.ref a]) H ((ns.map bitsI).map V.int) := by
      have z := el_lcL (K := K) (σ := L2.start ["bottoms", "bottom"] [.ref a]) (H := H) (t := tYes) (te := tBits (tVar 1)) (tl := tVar 0) (j := 1) (vs := [1]) (fun _ => true) (fun i => V.int (bitsI (ns.getD i 0))) (ev_var rfl) ha (by rw [List.length_map]; omega) (fun _ => rfl) (fun i x H1 e hx => et_yes) (fun i x H1 e hx _ => by
        rw [List.getElem?_map] at hx
        cases hn : ns[i]? with
        | none =>
          rw [hn] at hx
          cases hx
        | some n =>
          rw [hn] at hx
          cases hx
          rw [List.getD_eq_getElem?_getD, hn]
          exact ev_bits (ev_var rfl))
      rw [List.length_map, given_map ns (fun n => V.int (bitsI n)) 0] at z
      rw [List.map_map]
      exact z
    have z := maxOf_in (d := 0) (B := 6000) (by omega) (ns.map bitsI) (fun n hn => by
      obtain ⟨m, hm, rfl⟩ := List.mem_map.mp hn
      exact bits_le (hb m hm) (by decide))
    exact s_ret (ev_op ev_c (ev_maxDf hL) (rv_I (bd2.mw (⟨Nat.lt_of_le_of_lt (show _ ≤ 6000 by omega) (by decide)⟩ : Bd 20 _) (by decide)))) fun H1 e1 => k H1 e1
theorem ev_fb {σ : L2.St} {H : Hp} {te : TE} {E : XK} {ns : List Int} (h : EvL te σ H (ns.map V.int)) (hl : ns.length ≤ 1000) (hb : ∀ n ∈ ns, Bd 6000 n) : Ev (tCall (spFB K) [] E (tCons te tNil)) σ H (.int (fineB ns)) := fun H1 e Q q => h H1 e _ fun p H2 _ e2 hp => ⟨p, ns, rfl, SqL.of hp, hl, hb, fun H3 e3 => q H3 (e2.trans e3)⟩
theorem getD_at {α : Type} {l : List α} {k : Nat} {m d : α} (h : l[k]? = some m) : l.getD k d = m := by
  rw [List.getD_eq_getElem?_getD, h]
  rfl
theorem scFS : FnScope ["fractions", "bits", "top", "bottom"] ["fractions"] (defScope sFS) := ⟨rfl, rfl, rfl, by decide +kernel, rfl, by decide +kernel, by decide +kernel⟩
theorem ok_fs {f : Addr} {fd : FuncData} (F : Fun K "fraction_steps" "fraction_steps" sFS f fd) (CB : Cl P w K mg base 1 "fine_bits" (spFB K)) : FnOk P w K mg base CX0 2 f fd ["fractions"] (spFS K) := by
  refine F.ok scFS (fun vs H Q E h => ?_) (fun cdv A outer s H vs Q E hr h => ?_)
  · obtain ⟨a, ts, ms, rfl, _⟩ := h
    rfl
  · obtain ⟨a, ts, ms, rfl, ha, hp, hl, hz, hb, k⟩ := h
    refine ⟨_, (pss_cons (ps_set (i := 1) scFS.nd rfl (Or.inr rfl) (pe_cl CB hr (by decide) (by rfl) (pa_cons (pe_lc (own := [("top", 2), ("bottom", 3)]) (g := gTup K 2 (gCons (gName 2) (gCons (gName 3) gNil))) (by rfl) scFS.nd (pi_list (pv 0))
            (blkOk_by (own := [("top", 2), ("bottom", 3)]) (N := ["fractions", "bits", "top", "bottom"]) (sc := defScope sFS) (by decide +kernel))
            (fun _ _ _ _ _ => by exact (pg_tup (by rfl) (pgs_cons (pg_name (i := 2) scFS.nd rfl (Or.inl rfl)) (pgs_cons (pg_name (i := 3) scFS.nd rfl (Or.inl rfl)) pgs_nil)))) (fun _ _ _ _ _ => pts_nil)
            (te := tVar 3) (fun _ _ _ _ _ => by exact (pv 3))) pa_nil)))
      (pss_one (ps_ret (pe_lc (own := [("top", 2), ("bottom", 3)]) (g := gTup K 2 (gCons (gName 2) (gCons (gName 3) gNil))) (by rfl) scFS.nd (pi_list (pv 0))
            (blkOk_by (own := [("top", 2), ("bottom", 3)]) (N := ["fractions", "bits", "top", "bottom"]) (sc := defScope sFS) (by decide +kernel))
            (fun _ _ _ _ _ => by exact (pg_tup (by rfl) (pgs_cons (pg_name (i := 2) scFS.nd rfl (Or.inl rfl)) (pgs_cons (pg_name (i := 3) scFS.nd rfl (Or.inl rfl)) pgs_nil)))) (fun _ _ _ _ _ => pts_nil)
            (te := tOp (rI CDv fun i j => .int (i.fdiv j)) (tOp (rI CShl fun i j => .int (i * 2 ^ j.toNat)) (tVar 2) (tVar 1)) (tVar 3)) (fun _ _ _ _ _ => by exact (pe_op op_dv (pe_op op_shlW (pv 2) (pv 1)) (pv 3))))))), ?_⟩
    have hb2 : ∀ n ∈ ms.map (·.2), Bd 6000 n := fun n hn => by
      obtain ⟨m, hm, rfl⟩ := List.mem_map.mp hn
      exact (hb m hm).2.1
    have hB : 0 ≤ fineB (ms.map (·.2)) ∧ fineB (ms.map (·.2)) ≤ 12000 := by
      have z := maxOf_in (d := 0) (B := 6000) (by omega) ((ms.map (·.2)).map bitsI) (fun n hn => by
        obtain ⟨m, hm, rfl⟩ := List.mem_map.mp hn
        exact bits_le (hb2 m hm) (by decide))
      unfold fineB
      omega
    have z1 := el_lcP (K := K) (σ := L2.start ["fractions", "bits", "top", "bottom"] [.ref a]) (H := H) (te := tVar 3) (tl := tVar 0) (i := 2) (j := 3) (vs := [2, 3]) (fun k => V.int (ms.getD k (0, 0)).2) (ev_var rfl) ha hp hl (by omega) (fun _ _ => rfl) (fun k m H1 e hm => by
      rw [getD_at hm]
      exact ev_var rfl)
    rw [hl, given_map ms (fun m => V.int m.2) (0, 0)] at z1
    refine q_asg (ev_fb (K := K) (ns := ms.map (·.2)) (by rw [List.map_map]; exact z1) (by rw [List.length_map]; omega) hb2) fun H1 e1 => ?_
    have ha1 := ex_l e1 ha
    generalize hbit : fineB (ms.map (·.2)) = B at hB
    have z2 := el_lcP (K := K) (σ := [some (.ref a), some (.int B), none, none]) (H := H1) (te := tOp (rI CDv fun i j => .int (i.fdiv j)) (tOp (rI CShl fun i j => .int (i * 2 ^ j.toNat)) (tVar 2) (tVar 1)) (tVar 3)) (tl := tVar 0) (i := 2) (j := 3) (vs := [2, 3]) (fun k => V.int (((ms.getD k (0, 0)).1 * 2 ^ B.toNat).fdiv (ms.getD k (0, 0)).2)) (ev_var rfl) ha1 (fun k t m h1 h2 => e1 _ _ (hp k t m h1 h2)) hl (by omega) (fun _ _ => rfl) (fun k m H2 e hm => by
      rw [getD_at hm]
      obtain ⟨b1, b2, n0⟩ := hb m (List.mem_of_getElem? hm)
      have c1 := bits_le b1 (by decide)
      exact ev_op (ev_op (ev_var rfl) (ev_var rfl) (rv_I ⟨hB.1, by
        have e2 : (2 : Int) ^ 27 = 134217728 := by decide
        rw [e2]
        show bitsI m.1 + B ≤ 134217728
        omega⟩)) (ev_var rfl) (rv_I ⟨n0, b2.log (by decide)⟩))
    rw [hl, given_map ms (fun m => V.int ((m.1 * 2 ^ B.toNat).fdiv m.2)) (0, 0)] at z2
    refine s_retL z2 fun l H2 hl2 e2 h2 => k l H2 (fresh_back e1 hl2) (e1.trans e2) ?_
    unfold steps
    rw [hbit, List.map_map]
    exact h2
end
end Q
set_option Elab.async false
set_option linter.all false
set_option maxRecDepth 100000
set_option maxHeartbeats 4000000
namespace PM
/-- a direction, turned back by quarters into the first one: how often, and what it is there -/
def quart (x y : Int) : Int × Int × Int :=
  if 0 < x ∧ 0 ≤ y then (0, x, y) else if x ≤ 0 ∧ 0 < y then (1, y, -x) else if x < 0 ∧ y ≤ 0 then (2, -x, -y) else (3, -y, x)
theorem quart_0 {x y : Int} (h : 0 < x ∧ 0 ≤ y) : quart x y = (0, x, y) := if_pos h
theorem quart_s {x y : Int} (h : ¬ (0 < x ∧ 0 ≤ y)) (n : x ≠ 0 ∨ y ≠ 0) : (quart y (-x)).1 + 1 = (quart x y).1 ∧ (quart y (-x)).2 = (quart x y).2 ∧ 0 < (quart x y).1 := by
  unfold quart
  rw [if_neg h]
  by_cases h1 : x ≤ 0 ∧ 0 < y
  · rw [if_pos h1, if_pos (by omega)]
    exact ⟨rfl, rfl, by show (0 : Int) < 1; decide⟩
  · rw [if_neg h1]
    by_cases h2 : x < 0 ∧ y ≤ 0
    · rw [if_pos h2, if_neg (by omega), if_pos (by omega)]
      exact ⟨rfl, rfl, by show (0 : Int) < 2; decide⟩
    · rw [if_neg h2, if_neg (by omega), if_neg (by omega), if_pos (by omega)]
      exact ⟨rfl, by show (-y, - -x) = (-y, x); rw [Int.neg_neg], by show (0 : Int) < 3; decide⟩
theorem quart_in {x y : Int} (n : x ≠ 0 ∨ y ≠ 0) : 0 ≤ (quart x y).1 ∧ (quart x y).1 ≤ 3 ∧ 0 < (quart x y).2.1 ∧ 0 ≤ (quart x y).2.2 := by
  unfold quart
  split
  · exact ⟨by show (0 : Int) ≤ 0; omega, by show (0 : Int) ≤ 3; omega, by show 0 < x; omega, by show 0 ≤ y; omega⟩
  · split
    · exact ⟨by show (0 : Int) ≤ 1; omega, by show (1 : Int) ≤ 3; omega, by show 0 < y; omega, by show 0 ≤ -x; omega⟩
    · split
      · exact ⟨by show (0 : Int) ≤ 2; omega, by show (2 : Int) ≤ 3; omega, by show 0 < -x; omega, by show 0 ≤ -y; omega⟩
      · exact ⟨by show (0 : Int) ≤ 3; omega, by show (3 : Int) ≤ 3; omega, by show 0 < -y; omega, by show 0 ≤ x; omega⟩
/-- a positive factor changes no quarter -/
theorem quart_mul {g x y : Int} (hg : 0 < g) : quart (g * x) (g * y) = ((quart x y).1, g * (quart x y).2.1, g * (quart x y).2.2) := by
  have p : ∀ n : Int, 0 < g * n ↔ 0 < n := fun n => ⟨fun h => pos_of hg h, fun h => Int.mul_pos hg h⟩
  have z : ∀ n : Int, g * n ≤ 0 ↔ n ≤ 0 := fun n => by have := p n; omega
  have q : ∀ n : Int, 0 ≤ g * n ↔ 0 ≤ n := fun n => by
    have := p (-n)
    rw [Int.mul_neg] at this
    omega
  have r : ∀ n : Int, g * n < 0 ↔ n < 0 := fun n => by have := q n; omega
  unfold quart
  simp only [p, z, q, r]
  split
  · rfl
  · split
    · simp only [Int.mul_neg]
    · split
      · simp only [Int.mul_neg]
      · simp only [Int.mul_neg]
end PM
namespace Q
open PySem L2 PySem.Spec PyProof.Rows PySem.Calls
open PM Evl
abbrev sQT : Stmt := top 30
def spQT : Sp := fun vs H Q _ => ∃ (a b : Addr) (p q : P3), vs = [.ref a, .ref b] ∧ H a = some (.tup p.vs) ∧ H b = some (.tup q.vs) ∧ B3 1000 p ∧ B3 1000 q ∧ (dx p q ≠ 0 ∨ dy p q ≠ 0) ∧
  ∀ l H', H l = none → Ex H H' → H' l = some (.tup [.int (quart (dx p q) (dy p q)).1, .int (quart (dx p q) (dy p q)).2.1, .int (quart (dx p q) (dy p q)).2.2]) → Q (.ref l) H'
section
variable {P : Program} {w : World} {K : PySem.W.Frag} {mg : Str → Option Value} {base : Heap}
theorem scQT : FnScope ["centre", "point", "dx", "dy", "quarter"] ["centre", "point"] (defScope sQT) := ⟨rfl, rfl, rfl, by decide +kernel, rfl, by decide +kernel, by decide +kernel⟩
theorem ok_qt {f : Addr} {fd : FuncData} (F : Fun K "_quarter_turned" "_quarter_turned" sQT f fd) (CW : Cl P w K mg base 1 "way" spWay) : FnOk P w K mg base CX0 2 f fd ["centre", "point"] spQT := by
  refine F.ok scQT (fun vs H Q E h => ?_) (fun cdv A outer s H vs Q E hr h => ?_)
  · obtain ⟨a, b, p, q, rfl, _⟩ := h
    rfl
  · obtain ⟨a, b, p, q, rfl, ha, hb, bp, bq, hn, k⟩ := h
    refine ⟨_, (pss_cons (ps_asg (pe_cl CW hr (by decide) (by rfl) (pa_cons (pv 0) (pa_cons (pv 1) pa_nil))) (pg_tup (by rfl) (pgs_cons (pg_name (i := 2) scQT.nd rfl (.inl rfl)) (pgs_cons (pg_name (i := 3) scQT.nd rfl (.inl rfl)) pgs_nil))))
      (pss_cons (ps_set (i := 4) scQT.nd rfl (Or.inl rfl) pe_int)
      (pss_cons (ps_while PassesOwn.never (pw_or (pt_cmpR op_le (pv 2) pe_int (nomark _)) (pw_or1 (pt_cmpR op_lt (pv 3) pe_int (nomark _)))).pt
          (pss_cons (ps_par (i := 2) (j := 3) (by rfl) scQT.nd rfl rfl (by decide) rfl rfl (pa_cons (pv 3) (pa_cons (pe_un un_neg (pv 2)) pa_nil)) (by rfl))
          (pss_one (ps_aug (i := 4) scQT.nd rfl (.inl rfl) pe_int ip_add))))
      (pss_one (ps_ret (pe_tup (pa_cons (pv 4) (pa_cons (pv 2) (pa_cons (pv 3) pa_nil))))))))), ?_⟩
    refine st_seq (st_unp2 (vh_call (val_pair (val_var rfl) (val_var rfl)) fun Q q' => ⟨_, _, _, _, rfl, ha, hb, bp, bq, fun l H' _ h2 h3 => q' _ _ ⟨l, rfl, h2, h3⟩⟩) fun H1 e1 => ?_)
    generalize dx p q = x at hn k ⊢
    generalize dy p q = y at hn k ⊢
    refine q_asg ev_c fun H2 e2 => ?_
    have e12 : Ex H H2 := Ex.trans e1 e2
    refine q_while (fun m σ' H' => ∃ u v q : Int, m = (quart u v).1.toNat ∧ σ' = [some (.ref a), some (.ref b), some (.int u), some (.int v), some (.int q)] ∧ Ex H H' ∧ (u ≠ 0 ∨ v ≠ 0) ∧ q + (quart u v).1 = (quart x y).1 ∧ (quart u v).2 = (quart x y).2) (quart x y).1.toNat ⟨x, y, 0, rfl, rfl, e12, hn, by omega, rfl⟩ ?_
    rintro m σ' H' ⟨u, v, q, rfl, rfl, eh, hn, h1, h2⟩
    refine ⟨(decide (u ≤ 0) || decide (v < 0)), et_or (et_test (ev_op (ev_var rfl) ev_c rv_I0)) fun _ => et_test (ev_op (ev_var rfl) ev_c rv_I0), fun hb1 H3 e3 => ?_, fun hb1 H3 e3 => ?_⟩
    · have hq : ¬ (0 < u ∧ 0 ≤ v) := fun z => by
        rw [decide_eq_false (by omega : ¬ u ≤ 0), decide_eq_false (by omega : ¬ v < 0)] at hb1
        cases hb1
      obtain ⟨s1, s2, s3⟩ := quart_s hq hn
      refine ⟨fun σ2 H2 => ∃ u' v' q' : Int, σ2 = [some (.ref a), some (.ref b), some (.int u'), some (.int v'), some (.int q')] ∧ u' = v ∧ v' = -u ∧ q' = q + 1 ∧ Ex H H2, ?_, ?_⟩
      · rintro σ2 H2 ⟨u', v', q', rfl, rfl, rfl, rfl, e4⟩
        exact ⟨_, by omega, _, _, _, rfl, rfl, e4, by omega, by omega, by rw [s2, h2]⟩
      · exact q_par (ev_var rfl) (ev_un (ev_var rfl) ru_neg) fun H4 e4 => s_aug (a := q) (b := 1) rfl ev_c fun H5 e5 => ⟨_, _, _, rfl, rfl, rfl, rfl, ((eh.trans e3).trans e4).trans e5⟩
    · have hq : 0 < u ∧ 0 ≤ v := by
        obtain ⟨z1, z2⟩ := Bool.or_eq_false_iff.mp hb1
        have z1 := of_decide_eq_false z1
        have z2 := of_decide_eq_false z2
        omega
      rw [quart_0 hq] at h1 h2
      refine s_retU (eu_tup (ea_cons (ev_var (i := 4) rfl) (ea_cons (ev_var (i := 2) rfl) (ea_cons (ev_var (i := 3) rfl) ea_nil))) (by show 3 ≤ 100000; decide)) fun l H4 hl4 e4 h4 => k l H4 (fresh_back (eh.trans e3) hl4) ((eh.trans e3).trans e4) ?_
      rw [← h2, ← h1]
      show H4 l = some (.tup [.int (q + 0), .int u, .int v])
      rw [Int.add_zero]
      exact h4
end
end Q
set_option Elab.async false
set_option linter.all false
set_option maxRecDepth 100000
set_option maxHeartbeats 4000000
namespace PM
def crs (d e : Int × Int) : Int := d.1 * e.2 - d.2 * e.1
def dts (d e : Int × Int) : Int := d.1 * e.1 + d.2 * e.2
def qd (d : Int × Int) : Int × Int × Int := quart d.1 d.2
/-- d comes before e on the way round -/
def dlt (d e : Int × Int) : Prop := (qd d).1 < (qd e).1 ∨ ((qd d).1 = (qd e).1 ∧ (qd d).2.2 * (qd e).2.1 < (qd e).2.2 * (qd d).2.1)
def nzD (d : Int × Int) : Prop := d.1 ≠ 0 ∨ d.2 ≠ 0
/-- the four quarters -/
inductive Qu (a b : Int) : Int → Int → Int → Prop where
  | q0 (h : 0 < a) (k : 0 ≤ b) : Qu a b 0 a b
  | q1 (h : a ≤ 0) (k : 0 < b) : Qu a b 1 b (-a)
  | q2 (h : a < 0) (k : b ≤ 0) : Qu a b 2 (-a) (-b)
  | q3 (h : 0 ≤ a) (k : b < 0) : Qu a b 3 (-b) a
theorem qu_of {a b : Int} (h : a ≠ 0 ∨ b ≠ 0) : Qu a b (quart a b).1 (quart a b).2.1 (quart a b).2.2 := by
  unfold quart
  by_cases d0 : 0 < a ∧ 0 ≤ b
  · rw [if_pos d0]
    exact .q0 d0.1 d0.2
  · rw [if_neg d0]
    by_cases d1 : a ≤ 0 ∧ 0 < b
    · rw [if_pos d1]
      exact .q1 d1.1 d1.2
    · rw [if_neg d1]
      by_cases d2 : a < 0 ∧ b ≤ 0
      · rw [if_pos d2]
        exact .q2 d2.1 d2.2
      · rw [if_neg d2]
        exact .q3 (by omega) (by omega)
/-- by at most a quarter further -/
theorem near' {a b u v q1 a1 b1 q2 a2 b2 : Int} (hd : Qu a b q1 a1 b1) (he : Qu u v q2 a2 b2) (c : 0 < a * v - b * u) (t : 0 ≤ a * u + b * v) : (q1 < q2 ∨ (q1 = q2 ∧ b1 * a2 < b2 * a1)) ∨ (q1 = 3 ∧ q2 = 0) := by
  cases hd with
  | q0 h k =>
    cases he with
    | q0 h' k' =>
      refine .inl (.inr ⟨rfl, ?_⟩)
      rw [Int.mul_comm v a]
      omega
    | q1 h' k' => exact .inl (.inl (by decide))
    | q2 h' k' =>
      have x1 := Int.mul_neg_of_pos_of_neg h h'
      have x2 := Int.mul_nonpos_of_nonneg_of_nonpos k k'
      omega
    | q3 h' k' =>
      have x1 := Int.mul_neg_of_pos_of_neg h k'
      have x2 := Int.mul_nonneg k h'
      omega
  | q1 h k =>
    cases he with
    | q0 h' k' =>
      have x1 := Int.mul_nonpos_of_nonpos_of_nonneg h k'
      have x2 := Int.mul_pos k h'
      omega
    | q1 h' k' =>
      refine .inl (.inr ⟨rfl, ?_⟩)
      rw [Int.neg_mul, Int.neg_mul, Int.mul_comm u b]
      omega
    | q2 h' k' => exact .inl (.inl (by decide))
    | q3 h' k' =>
      have x1 := Int.mul_nonpos_of_nonpos_of_nonneg h h'
      have x2 := Int.mul_neg_of_pos_of_neg k k'
      omega
  | q2 h k =>
    cases he with
    | q0 h' k' =>
      have x1 := Int.mul_neg_of_neg_of_pos h h'
      have x2 := Int.mul_nonpos_of_nonpos_of_nonneg k k'
      omega
    | q1 h' k' =>
      have x1 := Int.mul_neg_of_neg_of_pos h k'
      have x2 := Int.mul_nonneg_of_nonpos_of_nonpos k h'
      omega
    | q2 h' k' =>
      refine .inl (.inr ⟨rfl, ?_⟩)
      rw [Int.neg_mul_neg, Int.neg_mul_neg, Int.mul_comm v a]
      omega
    | q3 h' k' => exact .inl (.inl (by decide))
  | q3 h k =>
    cases he with
    | q0 h' k' => exact .inr ⟨rfl, rfl⟩
    | q1 h' k' =>
      have x1 := Int.mul_nonpos_of_nonneg_of_nonpos h h'
      have x2 := Int.mul_neg_of_neg_of_pos k k'
      omega
    | q2 h' k' =>
      have x1 := Int.mul_nonpos_of_nonneg_of_nonpos h k'
      have x2 := Int.mul_pos_of_neg_of_neg k h'
      omega
    | q3 h' k' =>
      refine .inl (.inr ⟨rfl, ?_⟩)
      rw [Int.mul_neg, Int.mul_neg, Int.mul_comm u b]
      omega
theorem near {d e : Int × Int} (hd : nzD d) (he : nzD e) (c : 0 < crs d e) (t : 0 ≤ dts d e) : dlt d e ∨ ((qd d).1 = 3 ∧ (qd e).1 = 0) := near' (qu_of hd) (qu_of he) c t
theorem dlt_trans {d e f : Int × Int} (hd : nzD d) (he : nzD e) (hf : nzD f) (h : dlt d e) (k : dlt e f) : dlt d f := by
  have pd := quart_in hd
  have pe := quart_in he
  have pf := quart_in hf
  unfold dlt at *
  unfold qd at *
  generalize quart d.1 d.2 = D at *
  generalize quart e.1 e.2 = E at *
  generalize quart f.1 f.2 = F at *
  obtain ⟨q1, a1, b1⟩ := D
  obtain ⟨q2, a2, b2⟩ := E
  obtain ⟨q3, a3, b3⟩ := F
  simp only at *
  rcases h with h | ⟨h1, h2⟩
  · rcases k with k | ⟨k1, k2⟩ <;> (left; omega)
  · rcases k with k | ⟨k1, k2⟩
    · left; omega
    · right
      refine ⟨h1.trans k1, ?_⟩
      have x1 : b1 * a2 * a3 < b2 * a1 * a3 := Int.mul_lt_mul_of_pos_right h2 (by omega)
      have x2 : b2 * a3 * a1 < b3 * a2 * a1 := Int.mul_lt_mul_of_pos_right k2 (by omega)
      have x3 : b1 * a3 * a2 < b3 * a1 * a2 := by
        have e1 : b1 * a3 * a2 = b1 * a2 * a3 := by grind
        have e2 : b2 * a1 * a3 = b2 * a3 * a1 := by grind
        have e3 : b3 * a1 * a2 = b3 * a2 * a1 := by grind
        omega
      exact Int.lt_of_mul_lt_mul_right x3 (by omega)
end PM
set_option Elab.async false
set_option linter.all false
set_option maxRecDepth 100000
set_option maxHeartbeats 1000000
namespace PM
def addD (d e : Int × Int) : Int × Int := (d.1 + e.1, d.2 + e.2)
theorem crs_l (d e : Int × Int) : crs d (addD d e) = crs d e := by simp only [crs, addD]; grind
theorem crs_r (d e : Int × Int) : crs (addD d e) e = crs d e := by simp only [crs, addD]; grind
theorem dts_l (d e : Int × Int) : dts d (addD d e) = dts d d + dts d e := by simp only [dts, addD]; grind
theorem dts_r (d e : Int × Int) : dts (addD d e) e = dts d e + dts e e := by simp only [dts, addD]; grind
theorem dts_nn (d : Int × Int) : 0 ≤ dts d d := by
  have := sq_nn d.1
  have := sq_nn d.2
  unfold dts
  omega
theorem crs_nz {d e : Int × Int} (h : 0 < crs d e) : nzD d ∧ nzD e := by
  obtain ⟨a, b⟩ := d
  obtain ⟨u, v⟩ := e
  unfold crs at h
  simp only at h
  unfold nzD
  simp only
  constructor
  · by_cases c : a = 0
    · right
      rintro rfl
      subst c
      simp at h
    · exact .inl c
  · by_cases c : u = 0
    · right
      rintro rfl
      subst c
      simp at h
    · exact .inl c
/-- neighbours on the way round -/
structure Nb (d e : Int × Int) : Prop where
  c : 0 < crs d e
  t : 0 ≤ dts d e
theorem Nb.l {d e : Int × Int} (h : Nb d e) : Nb d (addD d e) := ⟨by rw [crs_l]; exact h.c, by rw [dts_l]; have := dts_nn d; have := h.t; omega⟩
theorem Nb.r {d e : Int × Int} (h : Nb d e) : Nb (addD d e) e := ⟨by rw [crs_r]; exact h.c, by rw [dts_r]; have := dts_nn e; have := h.t; omega⟩
theorem quart_add {d e : Int × Int} (h : (qd d).1 = (qd e).1) (hd : nzD d) (he : nzD e) : (qd (addD d e)).1 = (qd d).1 := by
  obtain ⟨a, b⟩ := d
  obtain ⟨u, v⟩ := e
  have x := qu_of hd
  have y := qu_of he
  unfold qd addD at *
  simp only at h x y ⊢
  rw [← h] at y
  generalize (quart a b).1 = q at x y ⊢
  generalize (quart a b).2.1 = x1 at x
  generalize (quart a b).2.2 = x2 at x
  generalize (quart u v).2.1 = y1 at y
  generalize (quart u v).2.2 = y2 at y
  cases x with
  | q0 h k =>
    cases y with
    | q0 h' k' =>
      unfold quart
      rw [if_pos (by omega)]
  | q1 h k =>
    cases y with
    | q1 h' k' =>
      unfold quart
      rw [if_neg (by omega), if_pos (by omega)]
  | q2 h k =>
    cases y with
    | q2 h' k' =>
      unfold quart
      rw [if_neg (by omega), if_neg (by omega), if_pos (by omega)]
  | q3 h k =>
    cases y with
    | q3 h' k' =>
      unfold quart
      rw [if_neg (by omega), if_neg (by omega), if_neg (by omega)]
/-- what may follow d, round to the first one -/
def good : Int × Int → List (Int × Int) → Prop
  | d, [] => (qd d).1 = 3 ∧ Nb d (1, 0)
  | d, e :: r => Nb d e ∧ dlt d e ∧ good e r
def insD : Int × Int → List (Int × Int) → Nat → List (Int × Int)
  | d, [], _ => [addD d (1, 0)]
  | d, e :: r, 0 => addD d e :: e :: r
  | _, e :: r, k + 1 => e :: insD e r k
theorem q_le {d : Int × Int} (h : nzD d) : 0 ≤ (qd d).1 ∧ (qd d).1 ≤ 3 := ⟨(quart_in h).1, (quart_in h).2.1⟩
theorem dlt_q {d e : Int × Int} (h : dlt d e) : (qd d).1 ≤ (qd e).1 := by
  rcases h with h | ⟨h, _⟩ <;> omega
theorem good_ins : ∀ (d : Int × Int) (r : List (Int × Int)) (k : Nat), good d r → good d (insD d r k)
  | d, [], _, ⟨h3, n⟩ => by
    obtain ⟨hd, _⟩ := crs_nz n.c
    have hs : nzD (addD d (1, 0)) := (crs_nz n.l.c).2
    have q3 : (qd (addD d (1, 0))).1 = 3 := by
      rcases near hd hs n.l.c n.l.t with h | ⟨_, h⟩
      · have := dlt_q h
        have := (q_le hs).2
        omega
      · exfalso
        obtain ⟨a, b⟩ := d
        have x := qu_of hd
        unfold qd at h3 h
        unfold addD at h
        simp only at h3 h x
        rw [h3] at x
        generalize (quart a b).2.1 = y1 at x
        generalize (quart a b).2.2 = y2 at x
        cases x with
        | q3 h1 k1 =>
          unfold quart at h
          rw [if_neg (by omega), if_neg (by omega), if_neg (by omega)] at h
          simp at h
    have l1 : dlt d (addD d (1, 0)) := by
      rcases near hd hs n.l.c n.l.t with h | ⟨_, h⟩
      · exact h
      · omega
    exact ⟨n.l, l1, q3, n.r⟩
  | d, e :: r, 0, ⟨n, l, g⟩ => by
    obtain ⟨hd, he⟩ := crs_nz n.c
    have hs : nzD (addD d e) := (crs_nz n.l.c).2
    have le := dlt_q l
    have bd := q_le hd
    have be := q_le he
    have l1 : dlt d (addD d e) := by
      rcases near hd hs n.l.c n.l.t with h | ⟨h1, h2⟩
      · exact h
      · have := quart_add (d := d) (e := e) (by omega) hd he
        omega
    have l2 : dlt (addD d e) e := by
      rcases near hs he n.r.c n.r.t with h | ⟨h1, h2⟩
      · exact h
      · have := quart_add (d := d) (e := e) (by omega) hd he
        omega
    exact ⟨n.l, l1, n.r, l2, g⟩
  | d, e :: r, k + 1, ⟨n, l, g⟩ => ⟨n, l, good_ins e r k g⟩
theorem good_nz : ∀ {d : Int × Int} {r : List (Int × Int)}, good d r → ∀ e ∈ d :: r, nzD e
  | d, [], ⟨_, n⟩, e, he => by
    rw [List.mem_singleton.mp he]
    exact (crs_nz n.c).1
  | d, e :: r, ⟨n, _, g⟩, x, hx => by
    rcases List.mem_cons.mp hx with rfl | hx
    · exact (crs_nz n.c).1
    · exact good_nz g x hx
theorem good_pw : ∀ {d : Int × Int} {r : List (Int × Int)}, good d r → (d :: r).Pairwise dlt
  | d, [], _ => List.pairwise_singleton _ _
  | d, e :: r, ⟨n, l, g⟩ => by
    have ih := good_pw g
    have nz := good_nz g
    have hd := (crs_nz n.c).1
    refine List.pairwise_cons.mpr ⟨fun x hx => ?_, ih⟩
    rcases List.mem_cons.mp hx with rfl | hx
    · exact l
    · exact dlt_trans hd (nz e List.mem_cons_self) (nz x (List.mem_cons_of_mem _ hx)) l ((List.pairwise_cons.mp ih).1 x hx)
theorem good0 : good (1, 0) [(0, 1), (-1, 0), (0, -1)] := by
  refine ⟨⟨by decide, by decide⟩, .inl (by decide), ⟨by decide, by decide⟩, .inl (by decide), ⟨by decide, by decide⟩, .inl (by decide), by decide, by decide, by decide⟩
theorem insD_eq : ∀ (d : Int × Int) (r : List (Int × Int)) (k : Nat), k ≤ r.length → d :: insD d r k = (d :: r).take (k + 1) ++ [addD ((d :: r).getD k (0, 0)) (if k = r.length then (1, 0) else (d :: r).getD (k + 1) (0, 0))] ++ (d :: r).drop (k + 1)
  | d, [], 0, _ => rfl
  | d, e :: r, 0, _ => by
    rw [if_neg (by simp)]
    rfl
  | d, e :: r, k + 1, h => by
    have ih := insD_eq e r k (by simpa using h)
    show d :: e :: insD e r k = _
    rw [ih]
    have c : (k + 1 = (e :: r).length) ↔ (k = r.length) := by simp
    by_cases z : k = r.length
    · rw [if_pos z, if_pos (c.mpr z)]
      rfl
    · rw [if_neg z, if_neg (fun y => z (c.mp y))]
      rfl
end PM
set_option Elab.async false
set_option linter.all false
set_option maxRecDepth 100000
set_option maxHeartbeats 1000000
namespace PM
theorem perm_sorted {α : Type} {R : α → α → Prop} : ∀ {l m : List α}, l.Perm m → m.Pairwise R → l.Pairwise (fun x y => ¬ R y x) → l = m
  | [], m, h, _, _ => (List.Perm.eq_nil h.symm).symm
  | x :: l, [], h, _, _ => absurd h.length_eq (by simp)
  | x :: l, d :: m, h, hm, hl => by
    have e : x = d := by
      rcases List.mem_cons.mp (h.mem_iff.mp (List.mem_cons_self (a := x) (l := l))) with e | hx
      · exact e
      · rcases List.mem_cons.mp (h.mem_iff.mpr (List.mem_cons_self (a := d) (l := m))) with e | hd
        · exact e.symm
        · exact absurd ((List.pairwise_cons.mp hm).1 x hx) ((List.pairwise_cons.mp hl).1 d hd)
    subst e
    rw [perm_sorted h.cons_inv (List.pairwise_cons.mp hm).2 (List.pairwise_cons.mp hl).2]
def stp (B : Nat) (m : Int × Int) : Int := (m.1 * 2 ^ B).fdiv m.2
theorem stp_in {B : Nat} {m : Int × Int} (h : 0 < m.2) : stp B m * m.2 ≤ m.1 * 2 ^ B ∧ m.1 * 2 ^ B < stp B m * m.2 + m.2 := by
  unfold stp
  rw [Int.fdiv_eq_ediv_of_nonneg _ (Int.le_of_lt h)]
  have h1 := Int.ediv_mul_le (m.1 * 2 ^ B) (show m.2 ≠ 0 by omega)
  have h2 := Int.lt_ediv_add_one_mul_self (m.1 * 2 ^ B) h
  rw [Int.add_mul, Int.one_mul] at h2
  exact ⟨h1, h2⟩
theorem stp_lt {B : Nat} {m n : Int × Int} (hm : 0 < m.2) (hn : 0 < n.2) (hb : m.2 * n.2 < 2 ^ B) (h : m.1 * n.2 < n.1 * m.2) : stp B m < stp B n := by
  obtain ⟨a1, a2⟩ := stp_in (B := B) hm
  obtain ⟨b1, b2⟩ := stp_in (B := B) hn
  generalize stp B m = f at *
  generalize stp B n = g at *
  generalize hX : (2 : Int) ^ B = X at *
  by_cases c : f < g
  · exact c
  · exfalso
    have x0 : 0 < X := by rw [← hX]; exact Int.pow_pos (by decide)
    have c1 : g * (n.2 * m.2) ≤ f * (n.2 * m.2) := Int.mul_le_mul_of_nonneg_right (by omega) (Int.le_of_lt (Int.mul_pos hn hm))
    have c2 : n.1 * X * m.2 < (g * n.2 + n.2) * m.2 := Int.mul_lt_mul_of_pos_right b2 hm
    have c3 : f * m.2 * n.2 ≤ m.1 * X * n.2 := Int.mul_le_mul_of_nonneg_right a1 (Int.le_of_lt hn)
    have c4 : (m.1 * n.2 + 1) * X ≤ n.1 * m.2 * X := Int.mul_le_mul_of_nonneg_right (by omega) (Int.le_of_lt x0)
    have e1 : (g * n.2 + n.2) * m.2 = g * (n.2 * m.2) + m.2 * n.2 := by grind
    have e2 : f * (n.2 * m.2) = f * m.2 * n.2 := by grind
    have e3 : (m.1 * n.2 + 1) * X = m.1 * X * n.2 + X := by grind
    have e4 : n.1 * m.2 * X = n.1 * X * m.2 := by grind
    omega
theorem stp_le {B : Nat} {m n : Int × Int} (hm : 0 < m.2) (hn : 0 < n.2) (h : m.1 * n.2 = n.1 * m.2) : stp B n ≤ stp B m := by
  obtain ⟨a1, a2⟩ := stp_in (B := B) hm
  obtain ⟨b1, b2⟩ := stp_in (B := B) hn
  generalize stp B m = f at *
  generalize stp B n = g at *
  generalize (2 : Int) ^ B = X at *
  by_cases c : g ≤ f
  · exact c
  · exfalso
    have c1 : (f + 1) * (m.2 * n.2) ≤ g * (m.2 * n.2) := Int.mul_le_mul_of_nonneg_right (by omega) (Int.le_of_lt (Int.mul_pos hm hn))
    have c2 : m.1 * X * n.2 < (f * m.2 + m.2) * n.2 := Int.mul_lt_mul_of_pos_right a2 hn
    have c3 : g * n.2 * m.2 ≤ n.1 * X * m.2 := Int.mul_le_mul_of_nonneg_right b1 (Int.le_of_lt hm)
    have e1 : (f * m.2 + m.2) * n.2 = (f + 1) * (m.2 * n.2) := by grind
    have e2 : g * (m.2 * n.2) = g * n.2 * m.2 := by grind
    have e3 : m.1 * X * n.2 = m.1 * n.2 * X := by grind
    have e4 : n.1 * X * m.2 = n.1 * m.2 * X := by grind
    rw [h] at e3
    omega
theorem stp_eq {B : Nat} {m n : Int × Int} (hm : 0 < m.2) (hn : 0 < n.2) (h : m.1 * n.2 = n.1 * m.2) : stp B m = stp B n :=
  Int.le_antisymm (stp_le hn hm h.symm) (stp_le hm hn h)
end PM
namespace Q
open PySem L2
open PM
theorem fine_lt {bs : List Int} {a b : Int} (ha : a ∈ bs) (hb : b ∈ bs) (pa : 0 < a) (pb : 0 < b) : a * b < 2 ^ (fineB bs).toNat := by
  have one : ∀ n ∈ bs, 0 < n → n < 2 ^ (maxOf 0 (bs.map bitsI)).toNat := fun n hn p => by
    have h := maxOf_ge 0 (bs.map bitsI) (bitsI n) (List.mem_map.mpr ⟨n, hn, rfl⟩)
    have h2 : n.natAbs < 2 ^ (n.natAbs.log2 + 1) := Nat.lt_log2_self
    have h3 : bitsI n = ((n.natAbs.log2 + 1 : Nat) : Int) := by
      unfold bitsI Builtin.Int.intBits
      rw [if_neg (by simp; omega)]
    have h4 : n.natAbs.log2 + 1 ≤ (maxOf 0 (bs.map bitsI)).toNat := by omega
    have h5 : n.natAbs < 2 ^ (maxOf 0 (bs.map bitsI)).toNat := Nat.lt_of_lt_of_le h2 (Nat.pow_le_pow_right (by decide) h4)
    have h6 : ((n.natAbs : Nat) : Int) < ((2 ^ (maxOf 0 (bs.map bitsI)).toNat : Nat) : Int) := Int.ofNat_lt.mpr h5
    rw [Int.natCast_pow] at h6
    have h7 : ((n.natAbs : Nat) : Int) = n := by omega
    rw [h7] at h6
    exact h6
  have x := one a ha pa
  have y := one b hb pb
  have m0 : 0 ≤ maxOf 0 (bs.map bitsI) := Int.le_trans (Int.natCast_nonneg _) (maxOf_ge 0 (bs.map bitsI) (bitsI a) (List.mem_map.mpr ⟨a, ha, rfl⟩))
  have e : (fineB bs).toNat = (maxOf 0 (bs.map bitsI)).toNat + (maxOf 0 (bs.map bitsI)).toNat := by
    unfold fineB
    omega
  rw [e, Int.pow_add]
  generalize (2 : Int) ^ (maxOf 0 (bs.map bitsI)).toNat = X at x y
  have z1 : a * b < X * b := Int.mul_lt_mul_of_pos_right x pb
  have z2 : X * b < X * X := Int.mul_lt_mul_of_pos_left y (by omega)
  omega
theorem steps_stp (ms : List (Int × Int)) : steps ms = ms.map (stp (fineB (ms.map (·.2))).toNat) := rfl
end Q
set_option Elab.async false
set_option linter.all false
set_option maxRecDepth 100000
set_option maxHeartbeats 1000000
namespace PM
/-- a point in the direction d from s, by so many times -/
def farP (s : P3) (d f : Int × Int) : P3 := low (s.x * f.2 + f.1 * d.1 * s.w) (s.y * f.2 + f.1 * d.2 * s.w) (s.w * f.2)
def cen (s : P3) : P3 := low s.x s.y s.w
theorem far_Of {s : P3} (hs : 1 ≤ s.w) (d : Int × Int) {f : Int × Int} (hf : 1 ≤ f.2) : Of (farP s d f) (s.x * f.2 + f.1 * d.1 * s.w) (s.y * f.2 + f.1 * d.2 * s.w) (s.w * f.2) ∧ Pt (farP s d f) := by
  have p : 0 < s.w * f.2 := Int.mul_pos (by omega) (by omega)
  exact ⟨low_of (by omega), low_pt p⟩
theorem cen_Of {s : P3} (hs : 1 ≤ s.w) : Of (cen s) s.x s.y s.w ∧ Pt (cen s) := ⟨low_of (by omega), low_pt (by omega)⟩
theorem far_way {s : P3} (hs : 1 ≤ s.w) (d : Int × Int) {f : Int × Int} (hf1 : 1 ≤ f.1) (hf : 1 ≤ f.2) : ∃ g K : Int, 0 < g ∧ 0 < K ∧ g * dx (cen s) (farP s d f) = K * d.1 ∧ g * dy (cen s) (farP s d f) = K * d.2 := by
  obtain ⟨g, g0, e1, e2, e3⟩ := dxy_of (cen_Of hs).1 (far_Of hs d hf).1
  refine ⟨g, f.1 * (s.w * s.w), g0, Int.mul_pos (by omega) (Int.mul_pos (by omega) (by omega)), ?_, ?_⟩
  · rw [← e1]
    simp only [dx]
    grind
  · rw [← e2]
    simp only [dy]
    grind
theorem far_sq {s : P3} (hs : 1 ≤ s.w) (d : Int × Int) {f : Int × Int} (hf1 : 1 ≤ f.1) (hf : 1 ≤ f.2) :
    lowp (dx (cen s) (farP s d f) * dx (cen s) (farP s d f) + dy (cen s) (farP s d f) * dy (cen s) (farP s d f)) (((cen s).w * (farP s d f).w) ^ 2) = lowp (f.1 * f.1 * (d.1 * d.1 + d.2 * d.2)) (f.2 * f.2) := by
  obtain ⟨g, g0, e1, e2, e3⟩ := dxy_of (cen_Of hs).1 (far_Of hs d hf).1
  have w1 := (cen_Of hs).2.w
  have w2 := (far_Of hs d hf).2.w
  have f1 : dx ⟨s.x, s.y, s.w⟩ ⟨s.x * f.2 + f.1 * d.1 * s.w, s.y * f.2 + f.1 * d.2 * s.w, s.w * f.2⟩ = f.1 * (s.w * s.w) * d.1 := by simp only [dx]; grind
  have f2 : dy ⟨s.x, s.y, s.w⟩ ⟨s.x * f.2 + f.1 * d.1 * s.w, s.y * f.2 + f.1 * d.2 * s.w, s.w * f.2⟩ = f.1 * (s.w * s.w) * d.2 := by simp only [dy]; grind
  rw [f1] at e1
  rw [f2] at e2
  generalize dx (cen s) (farP s d f) = X at e1 ⊢
  generalize dy (cen s) (farP s d f) = Y at e2 ⊢
  have pw : ((cen s).w * (farP s d f).w) ^ 2 = ((cen s).w * (farP s d f).w) * ((cen s).w * (farP s d f).w) := by grind
  rw [pw]
  have pp : 0 < (cen s).w * (farP s d f).w := Int.mul_pos (by omega) (by omega)
  generalize (cen s).w * (farP s d f).w = Z at e3 pp ⊢
  refine lowp_eq (Int.mul_pos pp pp) (Int.mul_pos (by omega) (by omega)) ?_
  have gg : g * g ≠ 0 := Int.mul_ne_zero (by omega) (by omega)
  apply Int.eq_of_mul_eq_mul_left gg
  have h1 : g * g * ((X * X + Y * Y) * (f.2 * f.2)) = ((g * X) * (g * X) + (g * Y) * (g * Y)) * (f.2 * f.2) := by grind
  have h2 : g * g * (f.1 * f.1 * (d.1 * d.1 + d.2 * d.2) * (Z * Z)) = f.1 * f.1 * (d.1 * d.1 + d.2 * d.2) * ((g * Z) * (g * Z)) := by grind
  rw [h1, h2, ← e1, ← e2, ← e3]
  grind
theorem lowp_pos {t b : Int} (h : 0 < b) : 0 < (lowp t b).2 ∧ (lowp t b).1 * b = t * (lowp t b).2 := by
  have g := g2_pos (t := t) h
  have d1 : ((Nat.gcd t.natAbs b.natAbs : Nat) : Int) ∣ t := Int.natAbs_dvd_natAbs.mp (by rw [Int.natAbs_natCast]; exact Nat.gcd_dvd_left _ _)
  have d2 : ((Nat.gcd t.natAbs b.natAbs : Nat) : Int) ∣ b := Int.natAbs_dvd_natAbs.mp (by rw [Int.natAbs_natCast]; exact Nat.gcd_dvd_right _ _)
  unfold lowp
  simp only
  generalize ((Nat.gcd t.natAbs b.natAbs : Nat) : Int) = k at *
  obtain ⟨x, rfl⟩ := d1
  obtain ⟨y, rfl⟩ := d2
  rw [Int.mul_ediv_cancel_left _ (by omega), Int.mul_ediv_cancel_left _ (by omega)]
  exact ⟨pos_of g h, by grind⟩
theorem lowp_lt {t b t' b' : Int} (h : 0 < b) (h' : 0 < b') (k : t * b' < t' * b) : (lowp t b).1 * (lowp t' b').2 < (lowp t' b').1 * (lowp t b).2 := by
  obtain ⟨p1, e1⟩ := lowp_pos (t := t) h
  obtain ⟨p2, e2⟩ := lowp_pos (t := t') h'
  generalize lowp t b = m at *
  generalize lowp t' b' = n at *
  have bb : 0 < b * b' := Int.mul_pos h h'
  refine Int.lt_of_mul_lt_mul_right (a := b * b') ?_ (Int.le_of_lt bb)
  have x1 : m.1 * n.2 * (b * b') = (m.1 * b) * (n.2 * b') := by grind
  have x2 : n.1 * m.2 * (b * b') = (n.1 * b') * (m.2 * b) := by grind
  rw [x1, x2, e1, e2]
  have x3 : t * m.2 * (n.2 * b') = t * b' * (m.2 * n.2) := by grind
  have x4 : t' * n.2 * (m.2 * b) = t' * b * (m.2 * n.2) := by grind
  rw [x3, x4]
  exact Int.mul_lt_mul_of_pos_right k (Int.mul_pos p1 p2)
def sqp (c p : P3) : Int × Int := lowp (dx c p * dx c p + dy c p * dy c p) ((c.w * p.w) ^ 2)
def kq (c p : P3) : Int × Int × Int := quart (dx c p) (dy c p)
/-- p comes before q on the way round c, or nearer -/
def before (c p q : P3) : Prop := (kq c p).1 < (kq c q).1 ∨ ((kq c p).1 = (kq c q).1 ∧ ((kq c p).2.2 * (kq c q).2.1 < (kq c q).2.2 * (kq c p).2.1 ∨ ((kq c p).2.2 * (kq c q).2.1 = (kq c q).2.2 * (kq c p).2.1 ∧ (sqp c p).1 * (sqp c q).2 < (sqp c q).1 * (sqp c p).2)))
theorem far_kq {s : P3} (hs : 1 ≤ s.w) (d : Int × Int) {f : Int × Int} (hf1 : 1 ≤ f.1) (hf : 1 ≤ f.2) : ∃ g K : Int, 0 < g ∧ 0 < K ∧ (kq (cen s) (farP s d f)).1 = (qd d).1 ∧ g * (kq (cen s) (farP s d f)).2.1 = K * (qd d).2.1 ∧ g * (kq (cen s) (farP s d f)).2.2 = K * (qd d).2.2 := by
  obtain ⟨g, K, g0, K0, e1, e2⟩ := far_way hs d hf1 hf
  have x1 := quart_mul (x := dx (cen s) (farP s d f)) (y := dy (cen s) (farP s d f)) g0
  have x2 := quart_mul (x := d.1) (y := d.2) K0
  rw [e1, e2, x2] at x1
  refine ⟨g, K, g0, K0, ?_, ?_, ?_⟩
  · exact (congrArg (fun z => z.1) x1).symm
  · exact (congrArg (fun z => z.2.1) x1).symm
  · exact (congrArg (fun z => z.2.2) x1).symm
theorem before_dir {s : P3} (hs : 1 ≤ s.w) {d e f f' : Int × Int} (h1 : 1 ≤ f.1) (h2 : 1 ≤ f.2) (h3 : 1 ≤ f'.1) (h4 : 1 ≤ f'.2) (l : dlt d e) : before (cen s) (farP s d f) (farP s e f') := by
  obtain ⟨g, K, g0, K0, q1, a1, b1⟩ := far_kq hs d h1 h2
  obtain ⟨g', K', g0', K0', q2, a2, b2⟩ := far_kq hs e h3 h4
  unfold before
  rw [q1, q2]
  rcases l with l | ⟨l1, l2⟩
  · exact .inl l
  · refine .inr ⟨l1, .inl ?_⟩
    generalize (kq (cen s) (farP s d f)).2.1 = A at *
    generalize (kq (cen s) (farP s d f)).2.2 = B at *
    generalize (kq (cen s) (farP s e f')).2.1 = A' at *
    generalize (kq (cen s) (farP s e f')).2.2 = B' at *
    refine Int.lt_of_mul_lt_mul_right (a := g * g') ?_ (Int.le_of_lt (Int.mul_pos g0 g0'))
    have x1 : B * A' * (g * g') = (g * B) * (g' * A') := by grind
    have x2 : B' * A * (g * g') = (g' * B') * (g * A) := by grind
    rw [x1, x2, a1, a2, b1, b2]
    have x3 : K * (qd d).2.2 * (K' * (qd e).2.1) = (qd d).2.2 * (qd e).2.1 * (K * K') := by grind
    have x4 : K' * (qd e).2.2 * (K * (qd d).2.1) = (qd e).2.2 * (qd d).2.1 * (K * K') := by grind
    rw [x3, x4]
    exact Int.mul_lt_mul_of_pos_right l2 (Int.mul_pos K0 K0')
theorem before_far {s : P3} (hs : 1 ≤ s.w) {d f f' : Int × Int} (hd : nzD d) (h1 : 1 ≤ f.1) (h2 : 1 ≤ f.2) (h3 : f.1 < f'.1) (h4 : f'.2 = f.2) : before (cen s) (farP s d f) (farP s d f') := by
  obtain ⟨g, K, g0, K0, q1, a1, b1⟩ := far_kq hs d h1 h2
  obtain ⟨g', K', g0', K0', q2, a2, b2⟩ := far_kq hs d (f := f') (by omega) (by omega)
  unfold before
  refine .inr ⟨by rw [q1, q2], .inr ⟨?_, ?_⟩⟩
  · generalize (kq (cen s) (farP s d f)).2.1 = A at *
    generalize (kq (cen s) (farP s d f)).2.2 = B at *
    generalize (kq (cen s) (farP s d f')).2.1 = A' at *
    generalize (kq (cen s) (farP s d f')).2.2 = B' at *
    apply Int.eq_of_mul_eq_mul_right (a := g * g') (Int.mul_ne_zero (by omega) (by omega))
    have x1 : B * A' * (g * g') = (g * B) * (g' * A') := by grind
    have x2 : B' * A * (g * g') = (g' * B') * (g * A) := by grind
    rw [x1, x2, a1, a2, b1, b2]
    grind
  · unfold sqp
    rw [far_sq hs d h1 h2, far_sq hs d (f := f') (by omega) (by omega), h4]
    have p : 0 < f.2 * f.2 := Int.mul_pos (by omega) (by omega)
    refine lowp_lt p p (Int.mul_lt_mul_of_pos_right ?_ p)
    have n0 : 0 < d.1 * d.1 + d.2 * d.2 := by
      rcases hd with z | z
      · have := sq_p z
        have := sq_nn d.2
        omega
      · have := sq_p z
        have := sq_nn d.1
        omega
    refine Int.mul_lt_mul_of_pos_right ?_ n0
    have y1 : f.1 * f.1 < f.1 * f'.1 := Int.mul_lt_mul_of_pos_left h3 (by omega)
    have y2 : f.1 * f'.1 < f'.1 * f'.1 := Int.mul_lt_mul_of_pos_right h3 (by omega)
    omega
end PM
set_option Elab.async false
set_option linter.all false
set_option maxRecDepth 100000
set_option maxHeartbeats 4000000
/-! {x: True for x in t}, t a tuple of tuples of ints and texts -/
namespace Q
open PySem L2 PySem.Spec PyProof.Rows PySem.Calls
theorem dA {N C D b : Nat} (hC : N + 1 ≤ C) (hD : N + 1 ≤ D) (hne : D ≠ C) (hb : b < N ∨ b = C ∨ b = D) : ¬ (b = N) := by omega
theorem dB {b N C : Nat} (hb : b < N + 1) (hC : N + 1 ≤ C) : b ≠ C := by omega
theorem dC {N t : Nat} (h : t < N) : t < N + 1 := by omega
theorem dD {b N t : Nat} (h : t < N) (hb : b = N ∨ b = t) : b < N + 1 := by omega
/-- the dict made of these keys, told and as it lies -/
def kvT (ks : List (Addr × List Key)) : List (List Key × V) := ks.foldl (fun kvs p => putK kvs p.2 (.bl true)) []
def rawT (ks : List (Addr × List Key)) : List (List Key × Addr × Value) := ks.foldl (fun xs p => storedH xs p.2 p.1 (.bool true)) []
theorem kvT_snoc (ks : List (Addr × List Key)) (p : Addr × List Key) : kvT (ks ++ [p]) = putK (kvT ks) p.2 (.bl true) := by
  unfold kvT
  rw [List.foldl_append]
  rfl
theorem rawT_snoc (ks : List (Addr × List Key)) (p : Addr × List Key) : rawT (ks ++ [p]) = storedH (rawT ks) p.2 p.1 (.bool true) := by
  unfold rawT
  rw [List.foldl_append]
  rfl
theorem kt_of {H : Hp} : ∀ (n : Nat) (ks : List (Addr × List Key)), ks.length = n → (∀ p ∈ ks, H p.1 = some (.tup (p.2.map kV))) → KT H (kvT ks) (rawT ks) ∧ (kvT ks).length ≤ ks.length
  | 0, ks, hn, _ => by
    rw [List.eq_nil_of_length_eq_zero hn]
    exact ⟨.nil, Nat.le_refl _⟩
  | n + 1, ks, hn, h => by
    have hne : ks ≠ [] := by
      rintro rfl
      simp at hn
    have e := List.dropLast_concat_getLast hne
    generalize ks.dropLast = r at e
    generalize ks.getLast hne = p at e
    subst e
    rw [List.length_append] at hn
    obtain ⟨i1, i2⟩ := kt_of n r (by simpa using hn) fun q hq => h q (List.mem_append_left _ hq)
    rw [kvT_snoc, rawT_snoc, List.length_append]
    refine ⟨i1.put p.2 (h p (List.mem_append_right _ (List.mem_singleton.mpr rfl))) rfl, ?_⟩
    have := length_putK (kvT r) p.2 (.bl true)
    have e1 : [p].length = 1 := rfl
    omega
def tDcT (K : PySem.W.Frag) (ti : TE) : TE := fun σ H Q => ti σ H fun v H1 => ∃ (t : Addr) (ks : List (Addr × List Key)), v = .ref t ∧ SqT K H1 t (ks.map fun p => V.ref p.1) ∧ (∀ p ∈ ks, H1 p.1 = some (.tup (p.2.map kV))) ∧ ks.length ≤ 1000 ∧
  ∀ D, H1 D = none → Q (.ref D) (upd H1 D (.dT (kvT ks)))
theorem his_of {P : Program} {w : World} {H : Hp} {h h' : Heap} (ok : HOk P w H h) (keep : ∀ b o, h.get? b = some o → h'.get? b = some o) {kvs : List (List Key × V)} {xs : List (List Key × Addr × Value)} (r : KT H kvs xs) : ∀ y ∈ xs, (tupleKind (mixKind P w)).is h' y.1 y.2.1 := by
  induction r with
  | nil => exact fun y hy => nomatch hy
  | @cons p q ps qs hq t ih =>
    intro y hy
    rcases List.mem_cons.mp hy with e | hy
    · subst e
      obtain ⟨o, its, n, h1, h2, h3, h4⟩ := key_of ok (by rw [← hq.1]; exact hq.2.1 : H y.2.1 = some (.tup (y.1.map kV)))
      exact ⟨o, its, n, keep _ _ h1, h2, h3, h4⟩
    · exact ih y hy
section
variable {X : Cx} {x : Str} {it : Expr} {ti : TE} {scope : Scope} {pe pa cp pos : Pos}
theorem vals_refs' : ∀ {ks : List (Addr × List Key)} {us : List Value}, Vals (ks.map fun p => V.ref p.1) us → us = ks.map fun p => Value.ref p.1
  | [], _, .nil => rfl
  | p :: ks, _, .cons r t => by
    cases r
    rw [vals_refs' t]
    rfl
theorem pe_dcT (hc : X.calm = true) (hu : X.A.units + 64 < cLine) (hi : PE X it ti) (hcl : closureFor scope X.env = pure []) (hcell : ∀ y ∈ scope.names, y.2 ≠ .cell) (hkind : scope.kind = .function) (hnames : ∀ y ∈ scope.names, y.2 = .local → scope.names.lookup y.1 = some .local)
    (hx : scope.names.lookup x = some .local) (hdb : (x == ("__debug__" : Str)) = false) (hs : ∀ y, foldedSetIterable it X.env y = pure y) {jj : Nat} :
    PE X (.DictComp (.Name x pe) (.Constant (.bool true) jj cp) [⟨.Name x pa, it, [], 0⟩] scope pos) (tDcT X.K ti) := by
  refine ⟨fun pins s0 σ H0 Q I0 h => ?_⟩
  refine DictComp_goes hcl hcell hkind hnames (thn (hi.run pins s0 σ H0 _ I0 h) fun v s ⟨vv, H, I, rv, q⟩ => ?_) hs
  obtain ⟨t, ks, rfl, ht, hk, hz, q⟩ := q
  cases rv
  obtain ⟨its, rt, hT, _⟩ := I.tuple ht
  have eits := vals_refs' rt
  subst eits
  have hT : s.heap.IsTuple t (ks.map fun p => Value.ref p.1).toArray := hT
  have hlt : (t : Nat) < s.heap.objs.size := by obtain ⟨o, ho, _⟩ := hT; exact Heap.lt_size ho
  refine wpAny_pyIter_tuple hT ?_
  have kt := fun i => kt_of (H := H) (ks.take i).length (ks.take i) rfl fun p hp => hk p (List.mem_of_mem_take hp)
  have rl : ∀ i, (rawT (ks.take i)).length ≤ 1000 := fun i => by
    have e := Paired.length (kt i).1
    have l := (kt i).2
    rw [List.length_take] at l
    omega
  refine ⟨_, _, _, _, _, _, rfl, Goes.tuple (I.ok.hd hc) s.heap.objs.size t (Nat.ne_of_lt hlt) _, ⟨⟨_, Heap.get?_push_size _ rfl, rfl, rfl⟩, hT.push _⟩, fun D C s₃ hB hD0 => ?_⟩
  obtain ⟨⟨h₃, tk₃, rfl⟩, old, nD, nC, hDC, hnm⟩ := hB
  have nC' : (s.heap.objs.size + 1 : Nat) ≤ C := by
    have z : (s.heap.push { cls := .type "tuple_iterator", data := .fields #[.ref t, .int 0 0] }).objs.size ≤ C := nC
    rw [Heap.size_push] at z
    exact z
  have nD' : (s.heap.objs.size + 1 : Nat) ≤ D := by
    have z : (s.heap.push { cls := .type "tuple_iterator", data := .fields #[.ref t, .int 0 0] }).objs.size ≤ D := nD
    rw [Heap.size_push] at z
    exact z
  have hDC' : (D : Nat) ≠ C := hDC
  have kx : (compEnvC scope [] C X.env).kindOf x = some .local := lookup_relabel_local hx
  have hp : ((compEnvC scope [] C X.env).scope.kind == .class || ((compEnvC scope [] C X.env).scope.kind == .module && (compEnvC scope [] C X.env).locals != (compEnvC scope [] C X.env).globals)) = false := by
    show (scope.kind == .class || (scope.kind == .module && _)) = false
    rw [hkind]
    rfl
  have off : ∀ b : Addr, (b < s.heap.objs.size ∨ b = C ∨ b = D) → b ∉ [s.heap.objs.size] := fun b hb hm => dA nC' nD' hDC' hb (List.mem_singleton.mp hm)
  have offC : ∀ b : Addr, b < s.heap.objs.size + 1 → b ≠ C := fun b hb => dB hb nC'
  have offD : ∀ b : Addr, b < s.heap.objs.size + 1 → b ≠ D := fun b hb => dB hb nD'
  refine ⟨fun i s₁ => ∃ (h' : Heap) (tk : Nat) (m : Str → Option Value), s₁ = { s with heap := h', toks := tk } ∧ h'.Ns C m ∧ h'.DictOfH (tupleKind (mixKind X.prog X.w)) D (rawT (ks.take i)) ∧ ∀ b o, s.heap.get? b = some o → h'.get? b = some o,
    ⟨h₃, tk₃, _, rfl, hnm, (by
      show h₃.DictOfH (tupleKind (mixKind X.prog X.w)) D ([] : List (List Key × Addr × Value))
      exact ⟨_, #[], 0, hD0, ⟨rfl, rfl, rfl⟩, rfl, rfl, (fun y hy => absurd hy (by simp)), List.nodup_nil⟩), fun b o e => old b o (Heap.get?_push_of_some _ e)⟩, ?_, ?_, ?_⟩
  · rintro i s₁ h' tk ⟨h₄, tk₄, m, rfl, n₄, ⟨o, es, ep, d1, d2, d3, d4, _, d6⟩, k₄⟩ hk' _
    have kk : ∀ b o, s.heap.get? b = some o → h'.get? b = some o := fun b o e => hk' b o (off _ (.inl (Heap.lt_size e))) (k₄ b o e)
    exact ⟨h', tk, m, rfl, n₄.at' fun o e => hk' _ o (off _ (.inr (.inl rfl))) e, ⟨o, es, ep, hk' _ _ (off _ (.inr (.inr rfl))) d1, d2, d3, d4, his_of I.hok kk (kt i).1, d6⟩, kk⟩
  · rintro i v s₁ hi hv st ⟨h₄, tk₄, m, rfl, n₄, ⟨o, es, ep, d1, d2, d3, d4, _, d6⟩, k₄⟩
    have hv : (ks.map fun p => Value.ref p.1)[i]? = some v := by simpa using hv
    rw [List.getElem?_map] at hv
    cases hp2 : ks[i]? with
    | none =>
      rw [hp2] at hv
      cases hv
    | some p =>
      rw [hp2] at hv
      cases hv
      have hpm : p ∈ ks := List.mem_of_getElem? hp2
      refine wpAny_assign_Name (wpAny_storeName_local kx n₄ (fun h₅ n₅ s₅ => ?_) hp)
      refine wpAny_tests_nil ?_
      show wpAny _ _ _ _ _ _
      rw [eval_Name _ _ _ hdb]
      refine wpAny_bind (wpAny_standAt (wpAny_loadName_local hkind kx n₅ (v := .ref p.1) (if_pos rfl) ?_))
      refine Constant_bool ?_
      have k₅ : ∀ b o, s.heap.get? b = some o → h₅.get? b = some o := fun b o e => s₅.extBut b o (offC b (Nat.lt_succ_of_lt (Heap.lt_size e))) (k₄ b o e)
      obtain ⟨o1, its1, n1, g1, g2, g3, g4⟩ := key_of I.hok (hk p hpm)
      refine wpAny_dictSet_heap (knd := tupleKind (mixKind X.prog X.w)) (k := p.2) (xs := rawT (ks.take i)) (hsz := Nat.le_trans (rl i) (by decide)) (show X.A.units < cLine by omega) ⟨o1, its1, n1, k₅ _ _ g1, g2, g3, g4⟩ ⟨o, es, ep, s₅.extBut _ _ hDC d1, d2, d3, d4, his_of I.hok k₅ (kt i).1, d6⟩ fun h₆ dd sb => ?_
      have k₆ : ∀ b o, s.heap.get? b = some o → h₆.get? b = some o := fun b o e => sb.extBut b o (offD b (Nat.lt_succ_of_lt (Heap.lt_size e))) (k₅ b o e)
      refine ⟨⟨h₆, _, _, rfl, n₅.at' fun o e => sb.extBut _ o (Ne.symm hDC) e, ?_, k₆⟩, ⟨st.1.at fun o e => sb.extBut _ o (offD _ (Nat.lt_succ_self _)) (s₅.extBut _ o (offC _ (Nat.lt_succ_self _)) e), st.2.at fun o e => sb.extBut _ o (offD _ (dC hlt)) (s₅.extBut _ o (offC _ (dC hlt)) e)⟩⟩
      have et : ks.take (i + 1) = ks.take i ++ [p] := by rw [List.take_add_one, hp2]; rfl
      rw [et, rawT_snoc]
      exact dd
  · rintro s₁ ⟨h₄, tk₄, m, rfl, n₄, ⟨o, es, ep, d1, d2, d3, d4, _, d6⟩, k₄⟩
    have en : (ks.map fun p => Value.ref p.1).toArray.size = ks.length := by simp
    rw [en, List.take_length] at d4 d6
    have ktn := kt ks.length
    rw [List.take_length] at ktn
    refine ⟨m, n₄, fun h' hs' => ⟨.ref D, upd H D (.dT (kvT ks)), I.laid (t' := tk₄) (fun b o e => hs'.extBut b o (offC b (Nat.lt_succ_of_lt (Heap.lt_size e))) (k₄ b o e)) (Nat.le_trans (Nat.le_succ _) nD') ?_, rfl, q D (I.hok.fresh (Nat.le_trans (Nat.le_succ _) nD'))⟩⟩
    refine ⟨Nat.le_trans ktn.2 (Nat.le_trans hz (by decide)), beq_eq_false_iff_ne.mpr (Nat.ne_of_gt (Nat.lt_of_lt_of_le I.big (Nat.le_trans (Nat.le_succ _) nD'))), rawT ks, ktn.1.keeps fun b ys eb => ?_, o, es, ep, hs'.extBut _ _ hDC d1, d2, d3, d4, d6⟩
    rw [upd_ne (ne_of_none eb (I.hok.fresh (Nat.le_trans (Nat.le_succ _) nD')))]
    exact eb
end
end Q
set_option Elab.async false
set_option linter.all false
set_option maxRecDepth 100000
set_option maxHeartbeats 2000000
namespace Q
open PySem L2
abbrev sShuf : Stmt := top 35
abbrev sSpan : Stmt := top 41
theorem pick {α : Type} : ∀ (ws : List α) (r : Nat) (y : α), ws[r]? = some y → (y :: ws.eraseIdx r).Perm ws
  | [], r, y, h => by simp at h
  | a :: l, 0, y, h => by
    have e : a = y := Option.some.inj h
    subst e
    exact List.Perm.refl _
  | a :: l, r + 1, y, h => by
    have ih := pick l r y h
    exact (List.Perm.swap a y _).trans (List.Perm.cons a ih)
theorem yes_ite {σ : L2.St} {H : Hp} {A B : Hp → Prop} (h : A H) : tYes σ H (fun b H3 => if b = true then A H3 else B H3) := by
  show (if true = true then A H else B H)
  rw [if_pos rfl]
  exact h
theorem seqAt {r : Int} {n : Nat} (h0 : 0 ≤ r) (h : r < n) : seqIndex? r n = some r.toNat := PySem.seqIndex_of h0 h
theorem Bgd.old {p l : Addr} {H H1 : Hp} {o : HO} (x : Bgd p H H1) (hl : H l = none) (n : l ≠ p) : Bgd p H (upd H1 l o) := by
  obtain ⟨a, b, c, e⟩ := x.bag
  refine ⟨⟨a, b, c, by rw [upd_ne (Ne.symm n)]; exact e⟩, fun m u nm q => ?_⟩
  rw [upd_ne (ne_of_none q hl)]
  exact x.keep m u nm q
def rLn (K : PySem.W.Frag) : List V → Hp → VK → Prop := fun xs H Q => ∃ p ys, xs = [.ref p] ∧ (SqL K H p ys ∨ SqT K H p ys) ∧ Q (.int ys.length) H
section
variable {P : Program} {w : World} {K : PySem.W.Frag} {mg : Str → Option Value} {base : Heap}
theorem scShuf : FnScope ["bag", "items", "waits", "turn_v"] ["bag", "items"] (defScope sShuf) := ⟨rfl, rfl, rfl, by decide +kernel, rfl, by decide +kernel, by decide +kernel⟩
/-- what stands between two draws -/
structure Mid (p W D : Addr) (xs : List V) (H : Hp) (i : Nat) (H' : Hp) : Prop where
  bg : Bgd p H H'
  at_ : ∃ ws acc, H' W = some (.lst ws) ∧ H' D = some (.lst acc) ∧ (acc ++ ws).Perm xs ∧ acc.length = i
theorem ok_shuf {f fD : Addr} {fd fdD : FuncData} (F : Fun K "_law_shuffled" "_law_shuffled" sShuf f fd) (T : TB mg) (FD : FnOk P w K mg base CX0 1 fD fdD ["bag", "total"] spDraw) (bD : Binds K fdD ["bag", "total"] []) (gD : mg "_law_draw" = some (.ref fD)) (kD : PySem.W.keepIn K (.ref fD) = true) :
    FnOk P w K mg base CX0 2 f fd ["bag", "items"] spShuf := by
  refine F.ok scShuf (fun vs H Q E h => ?_) (fun cdv A outer s H vs Q E hr h => ?_)
  · obtain ⟨p, q, a, b, c, xs, rfl, _⟩ := h
    rfl
  · obtain ⟨p, q, a, b, c, xs, rfl, hp, hne, hq, h1, k⟩ := h
    have B0 : Bgd p H H := Bgd.rfl' hp
    refine ⟨_, pss_cons (ps_set (i := 2) scShuf.nd rfl (Or.inr rfl) (pe_callTy call_list_of (by rfl) T.list (by decide +kernel) (pa_cons (pv 1) pa_nil)))
      (pss_one (ps_ret (pe_lc (own := [("turn_v", 3)]) (g := gName 3) (by rfl) scShuf.nd
        (pi_range1 rfl T.range (pa_cons (pe_callB call_len_seq (by rfl) T.len PySem.boot_len (pa_cons (pv 1) pa_nil)) pa_nil))
        (blkOk_by (own := [("turn_v", 3)]) (N := ["bag", "items", "waits", "turn_v"]) (sc := defScope sShuf) (by decide +kernel))
        (fun _ _ _ _ _ => pg_name (i := 3) scShuf.nd rfl (Or.inl rfl)) (fun _ _ _ _ _ => pts_nil)
        (te := tBM K "list" rPopAt (tVar 2) (tCons (tCall spDraw [] E0 (tCons (tVar 0) (tCons (tCB (rLn K) (tCons (tVar 2) tNil)) tNil))) tNil))
        (fun _ _ _ _ _ => by exact (pe_bm PySem.F.plainAttrs_list PySem.F.slot_list_pop PySem.F.type_list_pop mt_popAt (pv 2)
          (pa_cons (pe_call FD hr (by rfl) gD kD bD .nil pass0 (pa_cons (pv 0) (pa_cons (pe_callB call_len_seq (by rfl) T.len PySem.boot_len (pa_cons (pv 2) pa_nil)) pa_nil))) pa_nil)))))), ?_⟩
    refine ⟨_, rfl, q, xs, rfl, .inl (SqL.of hq), fun W hW => ?_⟩
    have nWp : W ≠ p := ne_of_none hp hW |>.symm
    have nqW : q ≠ W := ne_of_none hq hW
    have B1 := B0.new (o := .lst xs) hW
    refine ⟨_, rfl, q, xs, rfl, .inl (SqL.of (by rw [upd_ne nqW]; exact hq)), _, rfl, (by omega), (by omega), fun D hD => ?_⟩
    have nDW : D ≠ W := fun z => by rw [z, upd_same] at hD; cases hD
    have hD0 : H D = none := by rw [upd_ne nDW] at hD; exact hD
    have nDp : D ≠ p := ne_of_none hp hD0 |>.symm
    refine lc_range (lo := 0) (n := xs.length) (Mid p W D xs H) ⟨B1.new hD, xs, [], ?_, upd_same, List.Perm.refl _, rfl⟩ ?_ ?_
    · rw [upd_ne nDW.symm]
      exact upd_same
    · rintro i H1 hi ⟨B, ws, acc, eW, eD, pm, la⟩
      have hl := pm.length_eq
      rw [List.length_append] at hl
      have hws : 0 < ws.length := by omega
      obtain ⟨b0, b1, b2, eb⟩ := B.bag
      refine ⟨rfl, yes_ite ?_⟩
      refine ⟨_, rfl, .inl ⟨rfl, _, SqL.of eW⟩, _, rfl, _, rfl, W, ws, rfl, .inl (SqL.of eW), p, b0, b1, b2, _, rfl, eb, by omega, log_len (by omega), ?_⟩
      intro r H2 r0 r1 B2
      have eW2 := B2.keep _ _ nWp eW
      have eD2 := B2.keep _ _ nDp eD
      obtain ⟨y, _, ey⟩ := atI_in r0 r1
      refine ⟨W, ws, r, r.toNat, y, rfl, rfl, eW2, by omega, by omega, seqAt r0 r1, ey, acc, ?_, ?_, ?_⟩
      · rw [upd_ne nDW]
        exact eD2
      · exact Nat.lt_of_le_of_lt (show acc.length ≤ 1000 by omega) (by decide)
      · refine ⟨((B.trans B2).old hW nWp).old hD0 nDp, ws.eraseIdx r.toNat, acc ++ [y], ?_, upd_same, ?_, ?_⟩
        · rw [upd_ne nDW.symm]
          exact upd_same
        · rw [List.append_assoc]
          exact ((List.Perm.append_left acc (pick ws _ y ey))).trans pm
        · rw [List.length_append, la]
          rfl
    · rintro H1 ⟨B, ws, acc, eW, eD, pm, la⟩
      have hl := pm.length_eq
      rw [List.length_append] at hl
      have ew : ws = [] := List.eq_nil_of_length_eq_zero (by omega)
      subst ew
      rw [List.append_nil] at pm
      exact k D acc H1 pm eD hD0 B
/-- two drawn numbers -/
def spSpan : Sp := fun vs H Q _ => ∃ (p : Addr) (r : Int), vs = [.ref p, .int r] ∧ (∃ a b c : Int, H p = some (.lst [.int a, .int b, .int c])) ∧ 1 ≤ r ∧ r ≤ 10 ^ 9 ∧
  ∀ (l : Addr) (m n : Int) H', InS r m → InS r n → Bgd p H H' → l ≠ p → H l = none → H' l = some (.lst [.int m, .int n]) → Q (.ref l) H'
theorem scSpan : FnScope ["bag", "reach", "one"] ["bag", "reach"] (defScope sSpan) := ⟨rfl, rfl, rfl, by decide +kernel, rfl, by decide +kernel, by decide +kernel⟩
theorem ok_span {f : Addr} {fd : FuncData} (F : Fun K "_law_span" "_law_span" sSpan f fd) (CD : Cl P w K mg base 1 "_law_draw" spDraw) : FnOk P w K mg base CX0 2 f fd ["bag", "reach"] spSpan := by
  refine F.ok scSpan (fun vs H Q E h => ?_) (fun cdv A outer s H vs Q E hr h => ?_)
  · obtain ⟨p, r, rfl, _⟩ := h
    rfl
  · obtain ⟨p, r, rfl, hb, h1, h2, k⟩ := h
    refine ⟨_, (pss_cons (ps_set (i := 2) scSpan.nd rfl (Or.inl rfl) (pe_op op_sub (pe_cl CD hr (by decide) (by rfl) (pa_cons (pv 0) (pa_cons (pe_op op_add (pe_op op_mulW pe_int (pv 1)) pe_int) pa_nil))) (pv 1)))
      (pss_one (ps_ret (pe_lst (pa_cons (pv 2) (pa_cons (pe_ifExp (pt_cmpR op_eq (pe_cl CD hr (by decide) (by rfl) (pa_cons (pv 0) (pa_cons (pe_int) pa_nil))) pe_int (nomark _)) (pv 2) (pe_op op_sub (pe_cl CD hr (by decide) (by rfl) (pa_cons (pv 0) (pa_cons (pe_op op_add (pe_op op_mulW pe_int (pv 1)) pe_int) pa_nil))) (pv 1))) pa_nil)))))), ?_⟩
    have dr : ∀ {σ : L2.St}, σ[0]? = some (some (.ref p)) → σ[1]? = some (some (.int r)) → EvB p (tOp (rI0 fun i j => .int (i - j)) (tCall spDraw [] E0 (tCons (tVar 0) (tCons (tOp (rI0 fun i j => .int (i + j)) (tOp (rI CMulW fun i j => .int (i * j)) (tC (.int 2)) (tVar 1)) (tC (.int 1))) tNil))) (tVar 1)) σ (InS r) := fun h0 h1' =>
      eb_op (g := fun i j => i - j) (S := fun n => n = r) (eb_draw (N := 2 * r + 1) h0 (eb_op (g := fun i j => i + j) (R := fun n => n = 2 * r) (S := fun n => n = 1) (eb_mul (R := fun n => n = 2) (S := fun n => n = r) (eb_c rfl) (eb_var h1' rfl) (fun m n hm hn => by
          subst hm hn
          exact bd2.mw (bd_of (n := n) (by omega)) (by decide)) (fun m n hm hn => by rw [hm, hn])) (eb_c rfl) (fun m n hm hn => by
          subst hm hn
          exact ⟨by omega, by omega, log_of (by omega)⟩))) (eb_var h1' rfl) (fun m n hm hn => by
        subst hn
        exact ⟨by omega, by omega⟩)
    refine q_asgB (dr rfl rfl) hb fun m H1 hm g1 => ?_
    have dr6 : EvB p (tCall spDraw [] E0 (tCons (tVar 0) (tCons (tC (.int 6)) tNil))) [some (.ref p), some (.int r), some (.int m)] (fun x => 0 ≤ x ∧ x < 6) := eb_draw (N := 6) rfl (eb_c ⟨by decide, by decide, log_of (by decide)⟩)
    have fin : ∀ (n : Int) (H2 : Hp), InS r n → Bgd p H1 H2 → [V.int m, V.int n].length ≤ sizeLine ∧ ∀ l, H2 l = none → Q (.ref l) (upd H2 l (.lst [.int m, .int n])) := fun n H2 hn g2 => ⟨(by show 2 ≤ sizeLine; decide), fun l hl => by
      have gg := g1.trans g2
      exact k l m n _ hm hn (gg.new hl) (ne_bag gg.bag hl) (gg.free hl) upd_same⟩
    refine ⟨_, rfl, dr6 H1 g1.bag _ fun x H2 hx g2 => ⟨rfl, _, rfl, ite2 (fun _ => ⟨_, rfl, ?_⟩) (fun _ => ?_)⟩⟩
    · exact fin m H2 hm g2
    · exact dr rfl rfl H2 g2.bag _ fun n H3 hn g3 => fin n H3 hn (g2.trans g3)
end
end Q
set_option Elab.async false
set_option linter.all false
set_option maxRecDepth 100000
set_option maxHeartbeats 4000000
namespace Q
open PySem L2 PySem.Spec PyProof.Rows PySem.Calls
open PM Evl
abbrev sDir : Stmt := top 45
/-- pairs of ints in their places -/
inductive PrA (H : Hp) : List Addr → List (Int × Int) → Prop where
  | nil : PrA H [] []
  | cons {a : Addr} {d : Int × Int} {as : List Addr} {ds : List (Int × Int)} (h : H a = some (.tup [.int d.1, .int d.2])) (t : PrA H as ds) : PrA H (a :: as) (d :: ds)
theorem PrA.by {H H' : Hp} {as : List Addr} {ds : List (Int × Int)} (h : PrA H as ds) (k : ∀ a xs, H a = some (.tup xs) → H' a = some (.tup xs)) : PrA H' as ds := by
  induction h with
  | nil => exact .nil
  | cons h _ ih => exact .cons (k _ _ h) ih
theorem PrA.len {H : Hp} {as : List Addr} {ds : List (Int × Int)} (h : PrA H as ds) : as.length = ds.length := by
  induction h with
  | nil => rfl
  | cons _ _ ih => rw [List.length_cons, List.length_cons, ih]
theorem PrA.at {H : Hp} {as : List Addr} {ds : List (Int × Int)} (h : PrA H as ds) : ∀ {k : Nat}, k < ds.length → ∃ a, as[k]? = some a ∧ H a = some (.tup [.int (ds.getD k (0, 0)).1, .int (ds.getD k (0, 0)).2]) := by
  induction h with
  | nil => intro k hk; simp at hk
  | @cons a d as ds h _ ih =>
    intro k hk
    match k, hk with
    | 0, _ => exact ⟨a, rfl, h⟩
    | k + 1, hk => exact ih (k := k) (by simpa using hk)
theorem PrA.app {H : Hp} {as bs : List Addr} {ds es : List (Int × Int)} (h : PrA H as ds) (k : PrA H bs es) : PrA H (as ++ bs) (ds ++ es) := by
  induction h with
  | nil => exact k
  | cons h _ ih => exact .cons h ih
theorem PrA.take {H : Hp} {as : List Addr} {ds : List (Int × Int)} (h : PrA H as ds) : ∀ n : Nat, PrA H (as.take n) (ds.take n) := by
  induction h with
  | nil => intro n; simp only [List.take_nil]; exact .nil
  | cons h _ ih =>
    intro n
    cases n with
    | zero => exact .nil
    | succ n => exact .cons h (ih n)
theorem PrA.drop {H : Hp} {as : List Addr} {ds : List (Int × Int)} (h : PrA H as ds) : ∀ n : Nat, PrA H (as.drop n) (ds.drop n) := by
  induction h with
  | nil => intro n; simp only [List.drop_nil]; exact .nil
  | cons h t ih =>
    intro n
    cases n with
    | zero => exact .cons h t
    | succ n => exact ih n
/-- a way round, with numbers of at most k bits -/
structure Way (k : Nat) (ds : List (Int × Int)) : Prop where
  g : ∃ r, ds = (1, 0) :: r ∧ good (1, 0) r
  b : ∀ d ∈ ds, Bd k d.1 ∧ Bd k d.2
def spDir : Sp := fun vs H Q _ => ∃ (p : Addr) (n : Int), vs = [.ref p, .int n] ∧ (∃ a b c : Int, H p = some (.lst [.int a, .int b, .int c])) ∧ 0 ≤ n ∧ n ≤ 8 ∧
  ∀ (l : Addr) (ts : List Addr) (ds : List (Int × Int)) H', Bgd p H H' → l ≠ p → H l = none → H' l = some (.lst (ts.map V.ref)) → PrA H' ts ds → Way 10 ds → ds.length ≤ 12 → Q (.ref l) H'
section
variable {K : PySem.W.Frag} {σ : L2.St} {H : Hp} {ta tb tc td te : TE} {D : Ends} {tz : TS} {i : Nat}
theorem q_lst4 {x1 x2 x3 x4 : List V} (h1 : EvU ta σ H x1) (h2 : EvU tb σ H x2) (h3 : EvU tc σ H x3) (h4 : EvU td σ H x4)
    (k : ∀ (l t1 t2 t3 t4 : Addr) H1, Ex H H1 → H l = none → H1 l = some (.lst [.ref t1, .ref t2, .ref t3, .ref t4]) → H1 t1 = some (.tup x1) → H1 t2 = some (.tup x2) → H1 t3 = some (.tup x3) → H1 t4 = some (.tup x4) → tz D (σ.set i (some (.ref l))) H1) :
    tSeq (tAsg (tLst (tCons ta (tCons tb (tCons tc (tCons td tNil))))) (gName i)) tz D σ H :=
  h1 H (Ex.refl H) _ fun t1 H6 _ e6 g6 => h2 H6 e6 _ fun t2 H7 _ e7 g7 => h3 H7 (e6.trans e7) _ fun t3 H8 _ e8 g8 => h4 H8 ((e6.trans e7).trans e8) _ fun t4 H9 _ e9 g9 => ⟨(by show 4 ≤ sizeLine; decide), fun l hl => by
    have eN := Ex.new (o := .lst [.ref t1, .ref t2, .ref t3, .ref t4]) hl
    exact k l t1 t2 t3 t4 _ ((((e6.trans e7).trans e8).trans e9).trans eN) (fresh_back (((e6.trans e7).trans e8).trans e9) hl) upd_same (eN _ _ (e9 _ _ (e8 _ _ (e7 _ _ g6)))) (eN _ _ (e9 _ _ (e8 _ _ g7))) (eN _ _ (e9 _ _ g8)) (eN _ _ g9)⟩
theorem ev_int1 {n : Int} (h : Ev te σ H (.int n)) : Ev (tCB (fun xs H Q => (∃ i, xs = [V.int i] ∧ Q (V.int i) H) ∨ ∃ k, xs = [V.bl k] ∧ Q (V.int (if k = true then 1 else 0)) H) (tCons te tNil)) σ H (.int n) := ev_cb (ea_cons h ea_nil) fun H1 e Q q => .inl ⟨_, rfl, q H1 (Ex.refl _)⟩
theorem s_ins {l : Addr} {xs us : List V} {j : Int} (hl : H l = some (.lst xs)) (ho : Ev ta σ H (.ref l)) (hi : Ev tb σ H (.int j)) (hu : EvU tc σ H us) (hz : xs.length < 100000) (h0 : 0 ≤ j) (h1 : j < 2 ^ 63)
    (k : ∀ t H1, Ex H H1 → H1 t = some (.tup us) → D.nx σ (upd H1 l (.lst (xs.take j.toNat ++ [.ref t] ++ xs.drop j.toNat)))) :
    tDrop (tBM K "list" (fun x vs H Q => ∃ (l : Addr) (xs : List V) (i : Int) (y : V), x = .ref l ∧ vs = [.int i, y] ∧ H l = some (.lst xs) ∧ xs.length < sizeLine ∧ 0 ≤ i ∧ i < 2 ^ 63 ∧ Q .non (upd H l (.lst (xs.take i.toNat ++ [y] ++ xs.drop i.toNat)))) ta (tCons tb (tCons tc tNil))) D σ H :=
  ho H (Ex.refl H) _ fun H2 e2 => ⟨.inl ⟨rfl, _, SqL.of (e2 _ _ hl)⟩, hi H2 e2 _ fun H3 e3 => hu H3 (e2.trans e3) _ fun t H4 _ e4 g4 => ⟨l, xs, j, _, rfl, rfl, e4 _ _ (e3 _ _ (e2 _ _ hl)), sz_lt hz, h0, h1, k t H4 ((e2.trans e3).trans e4) g4⟩⟩
end
theorem bd1 : Bd 1 1 ∧ Bd 1 0 ∧ Bd 1 (-1) := ⟨⟨by decide⟩, ⟨by decide⟩, ⟨by decide⟩⟩
theorem way0 : Way 1 [(1, 0), (0, 1), (-1, 0), (0, -1)] := ⟨⟨_, rfl, good0⟩, fun d hd => by
  simp only [List.mem_cons, List.not_mem_nil, or_false] at hd
  rcases hd with rfl | rfl | rfl | rfl
  · exact ⟨bd1.1, bd1.2.1⟩
  · exact ⟨bd1.2.1, bd1.1⟩
  · exact ⟨bd1.2.2, bd1.2.1⟩
  · exact ⟨bd1.2.1, bd1.2.2⟩⟩
theorem getD_mem {α : Type} {l : List α} {k : Nat} {d : α} (h : k < l.length) : l.getD k d ∈ l := by
  rw [List.getD_eq_getElem?_getD, List.getElem?_eq_getElem h]
  exact List.getElem_mem h
theorem Way.ins {k : Nat} {ds : List (Int × Int)} (w : Way k ds) {j : Nat} (hj : j < ds.length) : Way (k + 1) (ds.take (j + 1) ++ [addD (ds.getD j (0, 0)) (ds.getD ((j + 1) % ds.length) (0, 0))] ++ ds.drop (j + 1)) := by
  obtain ⟨⟨r, rfl, g⟩, b⟩ := w
  have hj2 : j ≤ r.length := by
    rw [List.length_cons] at hj
    omega
  have e := insD_eq (1, 0) r j hj2
  have e2 : (((1, 0) :: r : List (Int × Int)).getD ((j + 1) % ((1, 0) :: r : List (Int × Int)).length) (0, 0)) = (if j = r.length then (1, 0) else ((1, 0) :: r : List (Int × Int)).getD (j + 1) (0, 0)) := by
    by_cases c : j = r.length
    · rw [if_pos c, c, List.length_cons, Nat.mod_self]
      rfl
    · rw [if_neg c, List.length_cons, Nat.mod_eq_of_lt (by omega)]
  refine ⟨⟨insD (1, 0) r j, ?_, good_ins _ _ _ g⟩, fun d hd => ?_⟩
  · rw [e2, e]
  · have up : ∀ {d : Int × Int}, d ∈ ((1, 0) :: r : List (Int × Int)) → Bd (k + 1) d.1 ∧ Bd (k + 1) d.2 := fun h => ⟨(b _ h).1.le (Nat.le_succ _), (b _ h).2.le (Nat.le_succ _)⟩
    rcases List.mem_append.mp hd with hd | hd
    · rcases List.mem_append.mp hd with hd | hd
      · exact up (List.mem_of_mem_take hd)
      · rw [List.mem_singleton.mp hd]
        have m1 := b _ (getD_mem (d := (0, 0)) hj)
        have m2 := b _ (getD_mem (d := (0, 0)) (l := (1, 0) :: r) (k := (j + 1) % ((1, 0) :: r : List (Int × Int)).length) (Nat.mod_lt _ (by simp)))
        exact ⟨m1.1.add m2.1, m1.2.add m2.2⟩
    · exact up (List.mem_of_mem_drop hd)
section
variable {P : Program} {w : World} {K : PySem.W.Frag} {mg : Str → Option Value} {base : Heap}
theorem scDir : FnScope ["bag", "size", "found", "turn_v", "at", "one", "two"] ["bag", "size"] (defScope sDir) := ⟨rfl, rfl, rfl, by decide +kernel, rfl, by decide +kernel, by decide +kernel⟩
theorem ok_dir {f : Addr} {fd : FuncData} (F : Fun K "_law_directions" "_law_directions" sDir f fd) (T : TB mg) (CD : Cl P w K mg base 1 "_law_draw" spDraw) : FnOk P w K mg base CX0 2 f fd ["bag", "size"] spDir := by
  refine F.ok scDir (fun vs H Q E h => ?_) (fun cdv A outer s H vs Q E hr h => ?_)
  · obtain ⟨p, n, rfl, _⟩ := h
    rfl
  · obtain ⟨p, n, rfl, hb, n0, n8, k⟩ := h
    refine ⟨_, (pss_cons (ps_set (i := 2) scDir.nd rfl (Or.inl rfl) (pe_lst (pa_cons (pe_tup (pa_cons (pe_int) (pa_cons (pe_int) pa_nil))) (pa_cons (pe_tup (pa_cons (pe_int) (pa_cons (pe_int) pa_nil))) (pa_cons (pe_tup (pa_cons (pe_un un_neg pe_int) (pa_cons (pe_int) pa_nil))) (pa_cons (pe_tup (pa_cons (pe_int) (pa_cons (pe_un un_neg pe_int) pa_nil))) pa_nil))))))
      (pss_cons (ps_for PassesOwn.never rfl (pi_range1 rfl T.range (pa_cons (pv 1) pa_nil)) (pg_name (i := 3) scDir.nd rfl (Or.inl rfl))
        (pss_cons (ps_set (i := 4) scDir.nd rfl (Or.inl rfl) (pe_cl CD hr (by decide) (by rfl) (pa_cons (pv 0) (pa_cons (pe_callB call_len_seq (by rfl) T.len PySem.boot_len (pa_cons (pv 2) pa_nil)) pa_nil))))
        (pss_cons (ps_par (i := 5) (j := 6) (by rfl) scDir.nd rfl rfl (by decide) rfl rfl (pa_cons (pe_ix ix_list (pv 2) (pv 4) (fun _ _ => rfl)) (pa_cons (pe_ix ix_list (pv 2) (pe_op op_mod (pe_callTy call_int1 (by rfl) T.int (by decide +kernel) (pa_cons (pe_op op_add (pv 4) pe_int) pa_nil)) (pe_callB call_len_seq (by rfl) T.len PySem.boot_len (pa_cons (pv 2) pa_nil))) (fun _ _ => rfl)) pa_nil)) (by rfl))
        (pss_one (ps_expr (pe_bm PySem.F.plainAttrs_list PySem.F.slot_list_insert PySem.F.type_list_insert mt_insert (pv 2) (pa_cons (pe_op op_add (pv 4) pe_int) (pa_cons (pe_tup (pa_cons (pe_op op_add (pe_ix ix_tup (pv 5) pe_int (fun _ _ => rfl)) (pe_ix ix_tup (pv 6) pe_int (fun _ _ => rfl))) (pa_cons (pe_op op_add (pe_ix ix_tup (pv 5) pe_int (fun _ _ => rfl)) (pe_ix ix_tup (pv 6) pe_int (fun _ _ => rfl))) pa_nil))) pa_nil))))))))
      (pss_one (ps_ret (pv 2))))), ?_⟩
    have neg1 : ∀ {σ : L2.St} {H : Hp}, Ev (tUn (rU fun i => V.int (-i)) (tC (V.int 1))) σ H (.int (-1)) := ev_un ev_c ru_neg
    refine q_lst4 (eu_tup (ea_cons ev_c (ea_cons ev_c ea_nil)) (by show 2 ≤ 100000; decide)) (eu_tup (ea_cons ev_c (ea_cons ev_c ea_nil)) (by show 2 ≤ 100000; decide)) (eu_tup (ea_cons neg1 (ea_cons ev_c ea_nil)) (by show 2 ≤ 100000; decide)) (eu_tup (ea_cons ev_c (ea_cons neg1 ea_nil)) (by show 2 ≤ 100000; decide)) fun l t1 t2 t3 t4 H1 e1 hl0 hl g1 g2 g3 g4 => ?_
    have nl : l ≠ p := ne_bag hb hl0
    have b1 := bag_ex e1 hb
    refine ⟨_, rfl, _, rfl, by omega, by omega, for_range (lo := 0) (n := n.toNat) (fun i σ' H' => ∃ (ts : List Addr) (ds : List (Int × Int)) (r3 r4 r5 r6 : Option V), σ' = [some (.ref p), some (.int n), some (.ref l), r3, r4, r5, r6] ∧ Bgd p H H' ∧ H' l = some (.lst (ts.map V.ref)) ∧ PrA H' ts ds ∧ Way (1 + i) ds ∧ ds.length = 4 + i)
      ⟨[t1, t2, t3, t4], _, _, _, _, _, rfl, b1, hl, .cons (d := (1, 0)) g1 (.cons (d := (0, 1)) g2 (.cons (d := (-1, 0)) g3 (.cons (d := (0, -1)) g4 .nil))), way0, rfl⟩ ?_ ?_⟩
    · rintro i σ' H2 hi ⟨ts, ds, r3, r4, r5, r6, rfl, B, hl2, pr, wy, len⟩
      have i8 : i < 8 := by omega
      obtain ⟨c0, c1, c2, hbag⟩ := B.bag
      have hlen : (ts.map V.ref).length = ds.length := by rw [List.length_map, pr.len]
      refine ⟨_, rfl, _, rfl, l, ts.map V.ref, rfl, .inl (SqL.of hl2), p, c0, c1, c2, _, rfl, hbag, by omega, log_len (by omega), fun r H3 r0 r1 g => ?_⟩
      obtain ⟨j, rfl⟩ := Int.eq_ofNat_of_zero_le r0
      have hj : j < ds.length := by omega
      have hl3 := g.keep _ _ nl hl2
      have pr3 : PrA H3 ts ds := pr.by fun a xs ha => g.keep _ _ (ne_tup B.bag ha) ha
      obtain ⟨a1, k1, h1⟩ := pr3.at hj
      have hm : (j + 1) % ds.length < ds.length := Nat.mod_lt _ (by omega)
      obtain ⟨a2, k2, h2⟩ := pr3.at hm
      have at1 : atI (ts.map V.ref) (j : Int) = some (.ref a1) := atI_nat (by rw [List.getElem?_map, k1]; rfl)
      have at2 : atI (ts.map V.ref) (((j : Int) + 1) % (((ts.map V.ref).length : Nat) : Int)) = some (.ref a2) := by
        have e : ((j : Int) + 1) % (((ts.map V.ref).length : Nat) : Int) = (((j + 1) % ds.length : Nat) : Int) := by
          rw [hlen, Int.natCast_emod, Int.natCast_add]
          rfl
        rw [e]
        exact atI_nat (by rw [List.getElem?_map, k2]; rfl)
      refine q_par (ev_op (ev_var rfl) (ev_var rfl) (rv_ixL (SqL.of hl3) at1)) (ev_op (ev_var rfl) (ev_op (ev_int1 (ev_op (ev_var rfl) ev_c rv_I0)) (ev_len (ev_var rfl) (SqL.of hl3)) (rv_I (by show (0 : Int) < ((ts.map V.ref).length : Int); omega))) (rv_ixL (SqL.of hl3) at2)) fun H4 e4 => ?_
      have g4 := g.trans (bag_ex e4 g.bag)
      have hl4 := e4 _ _ hl3
      refine s_ins (us := [.int ((ds.getD j (0, 0)).1 + (ds.getD ((j + 1) % ds.length) (0, 0)).1), .int ((ds.getD j (0, 0)).2 + (ds.getD ((j + 1) % ds.length) (0, 0)).2)]) hl4 (ev_var rfl) (ev_op (ev_var rfl) ev_c rv_I0) (eu_tup (ea_cons (ev_op (ev_ixT (ev_var rfl) (e4 _ _ h1) rfl) (ev_ixT (ev_var rfl) (e4 _ _ h2) rfl) rv_I0) (ea_cons (ev_op (ev_ixT (ev_var rfl) (e4 _ _ h1) rfl) (ev_ixT (ev_var rfl) (e4 _ _ h2) rfl) rv_I0) ea_nil)) (by show 2 ≤ 100000; decide)) (by omega) (by omega) (by omega) fun t H5 e5 h5 => ?_
      have jn : ((j : Int) + 1).toNat = j + 1 := by omega
      have g5 := g4.trans (bag_ex e5 g4.bag)
      have kp : ∀ (a : Addr) (xs : List V), H5 a = some (.tup xs) → upd H5 l (.lst ((ts.map V.ref).take ((j : Int) + 1).toNat ++ [V.ref t] ++ (ts.map V.ref).drop ((j : Int) + 1).toNat)) a = some (.tup xs) := fun a xs ha => by
        have hl5 := e5 _ _ hl4
        have na : a ≠ l := by
          intro z
          rw [z, hl5] at ha
          cases ha
        rw [upd_ne na]
        exact ha
      have pr5 : PrA H5 ts ds := pr3.by fun a xs ha => e5 _ _ (e4 _ _ ha)
      refine ⟨ts.take (j + 1) ++ [t] ++ ts.drop (j + 1), _, _, _, _, _, rfl, (B.trans g5).old hl0 nl, ?_, (((pr5.take (j + 1)).app (.cons (d := addD (ds.getD j (0, 0)) (ds.getD ((j + 1) % ds.length) (0, 0))) h5 .nil)).app (pr5.drop (j + 1))).by kp, ?_, ?_⟩
      · rw [upd_same, jn, List.map_append, List.map_append, List.map_take, List.map_drop]
        rfl
      · have w2 := wy.ins hj
        rw [show 1 + (i + 1) = 1 + i + 1 from rfl]
        exact w2
      · rw [List.length_append, List.length_append, List.length_take, List.length_drop, List.length_singleton]
        omega
    · rintro σ' H2 ⟨ts, ds, r3, r4, r5, r6, rfl, B, hl2, pr, wy, len⟩
      exact ⟨_, rfl, k l ts ds H2 B nl hl0 hl2 pr ⟨wy.g, fun d hd => ⟨(wy.b d hd).1.le (by omega), (wy.b d hd).2.le (by omega)⟩⟩ (by omega)⟩
end
end Q
set_option Elab.async false
set_option linter.all false
set_option maxRecDepth 100000
set_option maxHeartbeats 4000000
namespace Q
open PySem L2 PySem.Spec PyProof.Rows PySem.Calls
open PM Evl
/-- an error's class as it is made and asked for -/
structure ErrE (nm : Str) (K : PySem.W.Frag) (mg : Str → Option Value) (C : Addr) : Prop where
  x : PySem.W.excIn K C veTail "ValueError.__new__" = true
  g : mg nm = some (.ref C)
  kC : PySem.W.keepIn K (.ref C) = true
  be : PySem.W.subIn K (.ref C) (.type "BaseException") = some true
  typ : PySem.W.typeIn K (.ref C) = some (.type "type")
  me : PySem.W.exmOne K (.ref C) (.ref C) = some true
/-- all are points, or the first that is none -/
def Chk (C : Addr) (vs : List V) (H : Hp) (Q : VK) (E : XK) : Prop :=
  ((∀ v ∈ vs, Pv H v true) ∧ ∀ H', Same H H' → Q .non H') ∨ ∃ pre bad post, vs = pre ++ bad :: post ∧ (∀ v ∈ pre, Pv H v true) ∧ Pv H bad false ∧ ∀ H', Same H H' → E (.ref C) none H'
def spChkX (C : Addr) : Sp := fun vs H Q E => vs.length ≤ 1000 ∧ Chk C vs H Q E
def spValsX (C : Addr) : Sp := fun vs H Q E => ∃ (p : Addr) (rest : List V), vs = [.ref p] ∧ H p = some (.tup rest) ∧
  (((∀ v ∈ rest, Pv H v true) ∧ Q .non H) ∨ ∃ pre bad post, rest = pre ++ bad :: post ∧ (∀ v ∈ pre, Pv H v true) ∧ Pv H bad false ∧ E (.ref C) none H)
structure ClRX (P : Program) (w : World) (K : PySem.W.Frag) (mg : Str → Option Value) (base : Heap) (k : Nat) (x : Str) (sp : Sp) : Prop where
  ex : ∃ f : Addr, FnR P w K mg base (L2.CX P w) k f sp ∧ mg x = some (.ref f) ∧ PySem.W.keepIn K (.ref f) = true
section
variable {P : Program} {w : World} {K : PySem.W.Frag} {mg : Str → Option Value} {base : Heap}
theorem gn {i : Nat} {x : V} {σ : L2.St} {H : Hp} {k : L2.St → Hp → Prop} (h : k (σ.set i (some x)) H) : gName i x σ H k := h
theorem ok_chkX {f C : Addr} {fd : FuncData} (F : Fun K "check_points" "check_points" sChk f fd) (T : ErrE "InvalidPoint" K mg C) (CP : Cl P w K mg base 2 "is_point" spIsPt) : FnR P w K mg base (L2.CX P w) 3 f (spChkX C) := by
  obtain ⟨oc, od, kV, doc, pm, an, cdv, ct, osl, rfl, lk, hcd⟩ := F.ex
  have z := StX.fn_star (P := P) (w := w) (mg := mg) (base := base) (CX := L2.CX P w) (k := 2) (N := ["values", "value"]) (ps := []) (pv := "values") (sp := spValsX C) lk hcd scChk StX.cxUp (fun us rest h => bind_star0 (B := fun us => bindArgs (PySem.W.fnOf "check_points" "check_points" (defArgs sChk) (defBody sChk) (defScope sChk) .none kV doc pm an cdv ct) ⟨us, []⟩) rfl (fun _ _ => rfl) us rest h) (fun A outer s H vs Q E hr h => ?_)
  · refine z.imp fun vs H Q E h => ?_
    obtain ⟨h1, h2⟩ := h
    refine ⟨[], vs, rfl, rfl, Nat.le_trans h1 (by decide), fun p hp => ⟨p, vs, rfl, upd_same, ?_⟩⟩
    rcases h2 with ⟨h2, h3⟩ | ⟨pre, bad, post, e, h2, h3, h4⟩
    · exact .inl ⟨fun v hv => (h2 v hv).mono (same_new hp), h3 _ (same_new hp)⟩
    · exact .inr ⟨pre, bad, post, e, fun v hv => (h2 v hv).mono (same_new hp), h3.mono (same_new hp), h4 _ (same_new hp)⟩
  · obtain ⟨p, rest, rfl, hp, k⟩ := h
    refine ⟨_, pss_one (ps_for (passes_of rfl) rfl (pi_tup (pv 0)) (pg_name (i := 1) scChk.nd rfl (Or.inl rfl)) (pss_one (ps_if (pt_not (pt_val (pe_cl CP hr (Nat.le_refl _) (by rfl) (pa_cons (pv 1) pa_nil))))
        (pss_one (ps_raise (W := fun cls d _ H => E cls d H) rfl (takes_of rfl rfl rfl rfl) (SkE.pmk_own1 PySem.F.excBase_ValueError T.x T.g T.kC (raises_own T.be T.typ) (by rfl) pe_str))) pss_nil))), ?_⟩
    refine ⟨_, rfl, p, rfl, ⟨_, SqT.of hp⟩, ?_⟩
    have vt : ∀ {x : V} {b : Bool}, Pv H x b → Ans (tNot (tB (tCall spIsPt [] E0 (tCons (tVar 1) tNil)))) [some (.ref p), some x] H (!b) := fun hv => ans_not (ans_val (val_call (va_cons (val_var rfl) va_nil) fun Q q => ⟨_, _, rfl, hv, q⟩))
    rcases k with ⟨k1, k2⟩ | ⟨pre, bad, post, e, k1, k2, k3⟩
    · refine for_tup (xs := rest) (fun i σ H' => H' = H ∧ ∃ u, σ = [some (.ref p), u]) ⟨rfl, _, rfl⟩ (fun i σ H' _ h => by obtain ⟨rfl, _⟩ := h; exact SqT.of hp) (fun i x σ H' hx h => ?_) (fun σ H' h => by obtain ⟨rfl, _⟩ := h; exact k2)
      obtain ⟨rfl, u, rfl⟩ := h
      refine gn ?_
      refine st_no (vt (k1 x (List.mem_of_getElem? hx))) ?_
      exact ⟨rfl, _, rfl⟩
    · refine for_tup (xs := rest) (fun i σ H' => H' = H ∧ i ≤ pre.length ∧ ∃ u, σ = [some (.ref p), u]) ⟨rfl, Nat.zero_le _, _, rfl⟩ (fun i σ H' _ h => by obtain ⟨rfl, _⟩ := h; exact SqT.of hp) (fun i x σ H' hx h => ?_) (fun σ H' h => ?_)
      · obtain ⟨rfl, hi, u, rfl⟩ := h
        rw [e] at hx
        by_cases c : i < pre.length
        · rw [List.getElem?_append_left c] at hx
          refine gn ?_
          refine st_no (vt (k1 x (List.mem_of_getElem? hx))) ?_
          exact ⟨rfl, c, _, rfl⟩
        · have c2 : i = pre.length := by omega
          subst c2
          rw [List.getElem?_append_right (Nat.le_refl _), Nat.sub_self] at hx
          cases hx
          refine gn ?_
          refine st_yes (vt k2) ?_
          exact k3
      · obtain ⟨rfl, hi, _⟩ := h
        rw [e, List.length_append, List.length_cons] at hi
        omega
end
end Q
set_option Elab.async false
set_option linter.all false
set_option maxRecDepth 100000
set_option maxHeartbeats 4000000
namespace Q
open PySem L2 PySem.Spec PyProof.Rows PySem.Calls
open PM Evl
abbrev sSR : Stmt := top 28
section
variable {X : Cx}
/-- x in t, t a tuple of data -/
def rInDT (K : PySem.W.Frag) : R2 := fun x y H Q => ∃ d ds, Dp K H x d ∧ Dp K H y (.tuple ds) ∧ PyData.canLayAll0 ds = true ∧ d.canLay0 = true ∧ PyData.depthAll ds ≤ 5 ∧ Q (.bl (ds.any fun z => PyData.eqv z d)) H
theorem op_inDT (hu : X.A.units + 65 < cLine) : OpR X (compareOp .In) (rInDT X.K) := by
  intro pins s σ H x y v u Q I rx ry h
  obtain ⟨d, ds, hd, he, sd, se, h5, q⟩ := h
  obtain ⟨as, r1⟩ := Dp.reads I d x v hd rx
  obtain ⟨bs, r2⟩ := Dp.reads I (.tuple ds) y u he ry
  exact SeqAt.in_tuple_reads r2 r1 sd se (by omega) ⟨.bl _, H, I, rfl, q⟩
end
theorem lay_dP (p : P3) : (dP p).canLay0 = true := rfl
theorem lay_all : ∀ ps : List P3, PyData.canLayAll0 (ps.map dP) = true
  | [] => rfl
  | p :: ps => by
    show ((dP p).canLay0 && PyData.canLayAll0 (ps.map dP)) = true
    rw [lay_all ps]
    rfl
theorem dep_all : ∀ ps : List P3, PyData.depthAll (ps.map dP) ≤ 5
  | [] => Nat.zero_le _
  | p :: ps => Nat.max_le.mpr ⟨(by simp [dP, PyData.depth, PyData.depthAll]), dep_all ps⟩
end Q
set_option Elab.async false
set_option linter.all false
set_option maxRecDepth 100000
set_option maxHeartbeats 4000000
/-! lists of new tuples -/
namespace Q
open PySem L2 PySem.Spec PyProof.Rows PySem.Calls
open PM Evl
/-- tuples with these in them, in their places -/
inductive TpA (H : Hp) : List Addr → List (List V) → Prop where
  | nil : TpA H [] []
  | cons {a : Addr} {xs : List V} {as : List Addr} {xss : List (List V)} (h : H a = some (.tup xs)) (t : TpA H as xss) : TpA H (a :: as) (xs :: xss)
theorem TpA.by {H H' : Hp} {as : List Addr} {xss : List (List V)} (h : TpA H as xss) (k : ∀ a xs, H a = some (.tup xs) → H' a = some (.tup xs)) : TpA H' as xss := by
  induction h with
  | nil => exact .nil
  | cons h _ ih => exact .cons (k _ _ h) ih
theorem TpA.mono {H H' : Hp} (e : Ex H H') {as : List Addr} {xss : List (List V)} (h : TpA H as xss) : TpA H' as xss := h.by fun _ _ q => e _ _ q
theorem TpA.len {H : Hp} {as : List Addr} {xss : List (List V)} (h : TpA H as xss) : as.length = xss.length := by
  induction h with
  | nil => rfl
  | cons _ _ ih => rw [List.length_cons, List.length_cons, ih]
theorem TpA.snoc {H : Hp} {as : List Addr} {xss : List (List V)} {a : Addr} {xs : List V} (h : TpA H as xss) (k : H a = some (.tup xs)) : TpA H (as ++ [a]) (xss ++ [xs]) := by
  induction h with
  | nil => exact .cons k .nil
  | cons h _ ih => exact .cons h ih
theorem TpA.at {H : Hp} {as : List Addr} {xss : List (List V)} (h : TpA H as xss) : ∀ {k : Nat} {xs : List V}, xss[k]? = some xs → ∃ a, as[k]? = some a ∧ H a = some (.tup xs) := by
  induction h with
  | nil => intro k xs hk; simp at hk
  | @cons a ys as xss h _ ih =>
    intro k xs hk
    match k, hk with
    | 0, hk =>
      cases hk
      exact ⟨a, rfl, h⟩
    | k + 1, hk => exact ih (k := k) (by simpa using hk)
theorem TpA.to {H : Hp} {as : List Addr} {xss : List (List V)} (h : TpA H as xss) {k : Nat} {a : Addr} {xs : List V} (h1 : as[k]? = some a) (h2 : xss[k]? = some xs) : H a = some (.tup xs) := by
  obtain ⟨b, e, q⟩ := h.at h2
  rw [h1] at e
  cases e
  exact q
theorem PtsA.at {H : Hp} {as : List Addr} {ps : List P3} (h : PtsA H as ps) : ∀ {k : Nat} {p : P3}, ps[k]? = some p → ∃ a, as[k]? = some a ∧ PtA H a p := by
  induction h with
  | nil => intro k p hk; simp at hk
  | @cons a q as ps h _ ih =>
    intro k p hk
    match k, hk with
    | 0, hk =>
      cases hk
      exact ⟨a, rfl, h⟩
    | k + 1, hk => exact ih (k := k) (by simpa using hk)
theorem PtsA.mem {H : Hp} {as : List Addr} {ps : List P3} (h : PtsA H as ps) : ∀ p ∈ ps, Pt p ∧ B3 1000 p := by
  induction h with
  | nil => exact fun p hp => nomatch hp
  | cons h _ ih =>
    intro p hp
    rcases List.mem_cons.mp hp with rfl | hp
    · exact ⟨h.pt, h.b⟩
    · exact ih p hp
theorem PtsA.pvs {H : Hp} {as : List Addr} {ps : List P3} (h : PtsA H as ps) : ∀ v ∈ as.map V.ref, Pv H v true := by
  induction h with
  | nil => exact fun v hv => nomatch hv
  | cons h _ ih =>
    intro v hv
    rcases List.mem_cons.mp hv with rfl | hv
    · exact Pv.pt h.h h.pt
    · exact ih v hv
def EvTs (te : TE) (σ : L2.St) (H : Hp) (xss : List (List V)) : Prop := ∀ H1, Ex H H1 → ∀ Q : VK, (∀ p ts H2, H1 p = none → Ex H1 H2 → H2 p = some (.lst (ts.map V.ref)) → TpA H2 ts xss → Q (.ref p) H2) → te σ H1 Q
def Ct (H : Hp) (f : Nat → List V) (Dl : Addr) (i : Nat) (H' : Hp) : Prop := H Dl = none ∧ Ex H H' ∧ ∃ ts : List Addr, H' Dl = some (.lst (ts.map V.ref)) ∧ TpA H' ts ((List.range i).map f)
section
variable {K : PySem.W.Frag} {σ : L2.St} {H H' : Hp} {te tl : TE} {f : Nat → List V} {Dl : Addr} {i : Nat} {D : Ends} {tz : TS} {E : XK}
theorem ct_turn {σ2 : L2.St} (p : Ct H f Dl i H') (hi : i < 50000) (he : EvU te σ2 H (f i)) :
    tYes σ2 H' fun b H3 => if b = true then te σ2 H3 fun y H4 => ∃ acc, H4 Dl = some (.lst acc) ∧ acc.length < sizeLine ∧ Ct H f Dl (i + 1) (upd H4 Dl (.lst (acc ++ [y]))) else Ct H f Dl (i + 1) H3 := by
  obtain ⟨p1, p2, ts, p3, p4⟩ := p
  refine yes_ite (he H' p2 _ fun t H4 _ e4 h4 => ⟨ts.map V.ref, e4 _ _ p3, sz_lt ?_, p1, Ex.mut (p2.trans e4) p1, ts ++ [t], ?_, ?_⟩)
  · rw [List.length_map, p4.len, List.length_map, List.length_range]
    omega
  · rw [upd_same, List.map_append]
    rfl
  · rw [List.range_succ, List.map_append]
    have kp : ∀ (a : Addr) (xs : List V), H4 a = some (.tup xs) → upd H4 Dl (.lst (ts.map V.ref ++ [V.ref t])) a = some (.tup xs) := fun a xs ha => by
      have na : a ≠ Dl := by
        intro z
        rw [z, e4 _ _ p3] at ha
        cases ha
      rw [upd_ne na]
      exact ha
    exact TpA.snoc ((p4.mono e4).by kp) (kp _ _ h4)
theorem ets_lc {a : Addr} {xs : List V} {g : TG} {vs : List Nat} (f : Nat → List V) (h : Ev tl σ H (.ref a)) (hx : SqL K H a xs) (hz : xs.length ≤ 40000)
    (hs : ∀ (i : Nat) x H1, Ex H H1 → xs[i]? = some x → ∃ σ2 : L2.St, wipe σ2 vs = wipe σ vs ∧ (∀ H2, Ex H1 H2 → ∀ k : L2.St → Hp → Prop, k σ2 H2 → g x (wipe σ vs) H2 k) ∧ EvU te σ2 H1 (f i)) :
    EvTs (tLc (iList K tl) g tYes te vs) σ H ((List.range xs.length).map f) := fun H0 e Q q => h H0 e _ fun H1 e1 => ⟨a, rfl, ⟨xs, ex_l (e.trans e1) hx⟩, fun Dl hD =>
  lc_list (xs := xs) (Ct H1 f Dl) ⟨hD, Ex.new hD, [], upd_same, .nil⟩ (fun i H' _ p => ex_l ((e.trans e1).trans p.2.1) hx) (fun i x H' hi p => by
      obtain ⟨σ2, hw, hg, hu⟩ := hs i x H1 (e.trans e1) hi
      have hlt := (List.getElem?_eq_some_iff.mp hi).1
      exact hg H' p.2.1 _ ⟨hw, ct_turn p (by omega) hu⟩)
    (fun H' p => by
      obtain ⟨p1, p2, ts, p3, p4⟩ := p
      exact q Dl ts H' (fresh_back e1 p1) (e1.trans p2) p3 p4)⟩
theorem ets_lcR {ta : TA} {j : Nat} {n : Int} {vs : List Nat} (f : Nat → List V) (h : EvA ta σ H [.int n]) (hn : 0 ≤ n ∧ n ≤ 40000) (hw : ∀ x, wipe ((wipe σ vs).set j (some x)) vs = wipe σ vs)
    (hs : ∀ (i : Nat) H1, Ex H H1 → (i : Int) < n → EvU te ((wipe σ vs).set j (some (.int (i : Int)))) H1 (f i)) :
    EvTs (tLc (iRng1 ta) (gName j) tYes te vs) σ H ((List.range n.toNat).map f) := fun H0 e Q q => h H0 e _ fun H1 e1 => ⟨n, rfl, by omega, by omega, fun Dl hD =>
  lc_range (lo := 0) (n := n.toNat) (Ct H1 f Dl) ⟨hD, Ex.new hD, [], upd_same, .nil⟩ (fun i H' hi p => by
    have e0 : (0 : Int) + (i : Int) = (i : Int) := Int.zero_add _
    show wipe ((wipe σ vs).set j (some (.int ((0 : Int) + (i : Int))))) vs = wipe σ vs ∧ tYes ((wipe σ vs).set j (some (.int ((0 : Int) + (i : Int))))) H' fun b H3 => if b = true then te ((wipe σ vs).set j (some (.int ((0 : Int) + (i : Int))))) H3 fun y H4 => ∃ acc, H4 Dl = some (.lst acc) ∧ acc.length < sizeLine ∧ Ct H1 f Dl (i + 1) (upd H4 Dl (.lst (acc ++ [y]))) else Ct H1 f Dl (i + 1) H3
    rw [e0]
    exact ⟨hw _, ct_turn p (by omega) (hs i H1 (e.trans e1) (by omega))⟩) (fun H' p => by
      obtain ⟨p1, p2, ts, p3, p4⟩ := p
      exact q Dl ts H' (fresh_back e1 p1) (e1.trans p2) p3 p4)⟩
theorem q_asgTs {xss : List (List V)} {i : Nat} (h : EvTs te σ H xss) (k : ∀ l ts H1, Ex H H1 → H1 l = some (.lst (ts.map V.ref)) → TpA H1 ts xss → tz D (σ.set i (some (.ref l))) H1) : tSeq (tAsg te (gName i)) tz D σ H :=
  h H (Ex.refl H) _ fun p ts H2 _ e hp ht => k p ts H2 e hp ht
theorem q_asgL {xs : List V} {i : Nat} (h : EvL te σ H xs) (k : ∀ l H1, Ex H H1 → H1 l = some (.lst xs) → tz D (σ.set i (some (.ref l))) H1) : tSeq (tAsg te (gName i)) tz D σ H :=
  h H (Ex.refl H) _ fun p H2 _ e hp => k p H2 e hp
/-- fraction_steps of a list made there -/
theorem el_fs {ms : List (Int × Int)} (h : EvTs te σ H (ms.map fun m => [.int m.1, .int m.2])) (hl : ms.length ≤ 1000) (hb : ∀ m ∈ ms, Bd 6000 m.1 ∧ Bd 6000 m.2 ∧ m.2 ≠ 0) : EvL (tCall (spFS K) [] E (tCons te tNil)) σ H ((steps ms).map V.int) := fun H1 e Q q =>
  h H1 e _ fun p ts H2 hn e2 hp tp => ⟨p, ts, ms, rfl, SqL.of hp, (fun k t m h1 h2 => tp.to h1 (by rw [List.getElem?_map, h2]; rfl)), (by rw [tp.len, List.length_map]), (by rw [tp.len, List.length_map]; omega), hb, fun l H3 hl3 e3 h3 => q l H3 (fresh_back e2 hl3) (e2.trans e3) h3⟩
/-- a call that makes a new tuple -/
theorem eu_qt {ta tb : TE} {p q : P3} {a b : Addr} (h1 : Ev ta σ H (.ref a)) (h2 : Ev tb σ H (.ref b)) (ha : PtA H a p) (hb : PtA H b q) (hn : dx p q ≠ 0 ∨ dy p q ≠ 0) :
    EvU (tCall spQT [] E (tCons ta (tCons tb tNil))) σ H [.int (quart (dx p q) (dy p q)).1, .int (quart (dx p q) (dy p q)).2.1, .int (quart (dx p q) (dy p q)).2.2] := fun H1 e Q k =>
  h1 H1 e _ fun H2 e2 => h2 H2 (e.trans e2) _ fun H3 e3 => ⟨a, b, p, q, rfl, (pt_mono ((e.trans e2).trans e3) ha).h, (pt_mono ((e.trans e2).trans e3) hb).h, ha.b, hb.b, hn, fun l H4 hl e4 h4 => k l H4 (fresh_back (e2.trans e3) hl) ((e2.trans e3).trans e4) h4⟩
theorem eu_square {ta tb : TE} {p q : P3} {a b : Addr} (h1 : Ev ta σ H (.ref a)) (h2 : Ev tb σ H (.ref b)) (ha : PtA H a p) (hb : PtA H b q) :
    EvU (tCall spSquare [] E (tCons ta (tCons tb tNil))) σ H [.int (sqp p q).1, .int (sqp p q).2] := fun H1 e Q k =>
  h1 H1 e _ fun H2 e2 => h2 H2 (e.trans e2) _ fun H3 e3 => ⟨a, b, p, q, rfl, (pt_mono ((e.trans e2).trans e3) ha).h, (pt_mono ((e.trans e2).trans e3) hb).h, ha.b, hb.b, ha.w0, hb.w0, fun l H4 hl e4 h4 => k l H4 (fresh_back (e2.trans e3) hl) ((e2.trans e3).trans e4) h4⟩
end
theorem map_range {α β : Type} (F : α → β) (ds : List α) (d : α) : (List.range ds.length).map (fun i => F (ds.getD i d)) = ds.map F := by
  refine List.ext_getElem (by simp) fun i h1 h2 => ?_
  simp at h1
  simp [h1]
section
variable {K : PySem.W.Frag} {σ : L2.St} {H H' : Hp} {te tl : TE} {xss tss : List (List V)} {vs : List Nat} {a : Addr} {xs : List V}
theorem ets_map {g : TG} (h : Ev tl σ H (.ref a)) (hx : SqL K H a xs) (hz : xs.length ≤ 40000) (hn : xs.length = xss.length)
    (hs : ∀ (i : Nat) x ys H1, Ex H H1 → xs[i]? = some x → xss[i]? = some ys → ∃ σ2 : L2.St, wipe σ2 vs = wipe σ vs ∧ (∀ H2, Ex H1 H2 → ∀ k : L2.St → Hp → Prop, k σ2 H2 → g x (wipe σ vs) H2 k) ∧ EvU te σ2 H1 ys) :
    EvTs (tLc (iList K tl) g tYes te vs) σ H xss := by
  have z := ets_lc (K := K) (g := g) (te := te) (vs := vs) (fun i => xss.getD i []) h hx hz (fun i x H1 e hi => hs i x _ H1 e hi (by
    have hlt := (List.getElem?_eq_some_iff.mp hi).1
    rw [List.getD_eq_getElem?_getD, List.getElem?_eq_getElem (by omega)]
    rfl))
  rw [hn, map_range (fun x => x) xss [], List.map_id'] at z
  exact z
theorem ets_nm {j : Nat} (h : Ev tl σ H (.ref a)) (hx : SqL K H a xs) (hz : xs.length ≤ 40000) (hn : xs.length = xss.length) (hw : ∀ x, wipe ((wipe σ vs).set j (some x)) vs = wipe σ vs)
    (hs : ∀ (i : Nat) x ys H1, Ex H H1 → xs[i]? = some x → xss[i]? = some ys → EvU te ((wipe σ vs).set j (some x)) H1 ys) :
    EvTs (tLc (iList K tl) (gName j) tYes te vs) σ H xss := ets_map h hx hz hn fun i x ys H1 e hi hy => ⟨(wipe σ vs).set j (some x), hw x, fun H2 _ k q => gn q, hs i x ys H1 e hi hy⟩
theorem ets_t3 {i1 i2 i3 : Nat} {ts : List Addr} (h : Ev tl σ H (.ref a)) (hx : SqL K H a (ts.map V.ref)) (ht : TpA H ts tss) (h3 : ∀ ys ∈ tss, ∃ u v w, ys = [u, v, w]) (hz : ts.length ≤ 40000) (hn : tss.length = xss.length)
    (hw : ∀ x y z, wipe ((((wipe σ vs).set i1 (some x)).set i2 (some y)).set i3 (some z)) vs = wipe σ vs)
    (hs : ∀ (i : Nat) u v w ys H1, Ex H H1 → tss[i]? = some [u, v, w] → xss[i]? = some ys → EvU te ((((wipe σ vs).set i1 (some u)).set i2 (some v)).set i3 (some w)) H1 ys) :
    EvTs (tLc (iList K tl) (gTup K 3 (gCons (gName i1) (gCons (gName i2) (gCons (gName i3) gNil)))) tYes te vs) σ H xss := ets_map h hx (by rw [List.length_map]; exact hz) (by rw [List.length_map, ht.len]; exact hn) fun i x ys H1 e hi hy => by
  rw [List.getElem?_map] at hi
  obtain ⟨t, hj, rfl⟩ := Option.map_eq_some_iff.mp hi
  have hlt := (List.getElem?_eq_some_iff.mp hj).1
  have hl2 : i < tss.length := by
    have := ht.len
    omega
  have e1 : tss[i]? = some tss[i] := List.getElem?_eq_getElem hl2
  obtain ⟨u, v, w, e2⟩ := h3 _ (List.getElem_mem hl2)
  rw [e2] at e1
  exact ⟨_, hw u v w, fun H2 e3 k q => ⟨t, _, rfl, SqT.of ((e.trans e3) _ _ (ht.to hj e1)), rfl, u, _, rfl, v, _, rfl, w, _, rfl, rfl, q⟩, hs i u v w ys H1 e e1 hy⟩
end
end Q
set_option Elab.async false
set_option linter.all false
set_option maxRecDepth 100000
set_option maxHeartbeats 2000000
/-! points as keys, each once; the order of the keys that are sorted -/
namespace PM
theorem perm_nodup {α : Type} : ∀ {l m : List α}, l.Nodup → m.Nodup → (∀ x, x ∈ l ↔ x ∈ m) → l.Perm m
  | [], m, _, _, h => by
    have e : m = [] := List.eq_nil_iff_forall_not_mem.mpr fun x hx => nomatch (h x).mpr hx
    rw [e]
  | a :: l, m, hl, hm, h => by
    obtain ⟨s, t, e⟩ := List.append_of_mem ((h a).mp List.mem_cons_self)
    subst e
    obtain ⟨na, nl⟩ := List.nodup_cons.mp hl
    have pm : (s ++ a :: t).Perm (a :: (s ++ t)) := List.perm_middle
    have nm : (a :: (s ++ t)).Nodup := pm.nodup_iff.mp hm
    obtain ⟨nb, nst⟩ := List.nodup_cons.mp nm
    refine (List.Perm.cons a (perm_nodup nl nst fun x => ?_)).trans pm.symm
    constructor
    · intro hx
      have y := pm.mem_iff.mp ((h x).mp (List.mem_cons_of_mem _ hx))
      rcases List.mem_cons.mp y with rfl | y
      · exact absurd hx na
      · exact y
    · intro hx
      have y := (h x).mpr (pm.mem_iff.mpr (List.mem_cons_of_mem _ hx))
      rcases List.mem_cons.mp y with rfl | y
      · exact absurd hx nb
      · exact y
theorem far_nz {p q : P3} (hp : Pt p) (hq : Pt q) (h : q ≠ p) : dx p q ≠ 0 ∨ dy p q ≠ 0 := by
  by_cases c : dx p q = 0
  · by_cases d : dy p q = 0
    · exfalso
      unfold dx at c
      unfold dy at d
      exact h (pt_eq hq hp (by omega) (by omega))
    · exact .inr d
  · exact .inl c
end PM
namespace Q
open PySem L2 PySem.Spec PyProof.Rows PySem.Calls
open PM Evl
def keyP (p : P3) : List Key := [.inl p.x, .inl p.y, .inl p.w]
theorem keyP_inj {p q : P3} (h : keyP p = keyP q) : p = q := by
  obtain ⟨a, b, c⟩ := p
  obtain ⟨d, e, f⟩ := q
  unfold keyP at h
  simp only [List.cons.injEq, Sum.inl.injEq, and_true] at h
  rw [h.1, h.2.1, h.2.2]
theorem keyP_vs (p : P3) : (keyP p).map kV = p.vs := rfl
theorem putK_keys (kvs : List (List Key × V)) (k : List Key) (v : V) : (putK kvs k v).map (·.1) = if (kvs.any fun kv => decide (kv.1 = k)) = true then kvs.map (·.1) else kvs.map (·.1) ++ [k] := by
  unfold putK
  split
  · rw [List.map_map]
    refine List.map_congr_left fun x _ => ?_
    show (if x.1 = k then (x.1, v) else x).1 = x.1
    split <;> rfl
  · rw [List.map_append]
    rfl
theorem kvF : ∀ (ks : List (Addr × List Key)) (ps : List P3) (kvs : List (List Key × V)) (d0 : List P3), ks.map (·.2) = ps.map keyP → kvs.map (·.1) = d0.map keyP → d0.Nodup →
    ∃ ds : List P3, (ks.foldl (fun kvs p => putK kvs p.2 (.bl true)) kvs).map (·.1) = ds.map keyP ∧ ds.Nodup ∧ (∀ p, p ∈ ds ↔ p ∈ d0 ∨ p ∈ ps) ∧ ds.length ≤ d0.length + ps.length
  | [], [], kvs, d0, _, h, n => ⟨d0, h, n, fun p => by simp, by simp⟩
  | [], _ :: _, _, _, h, _, _ => by simp at h
  | _ :: _, [], _, _, h, _, _ => by simp at h
  | k :: ks, p :: ps, kvs, d0, h, h0, n => by
    simp only [List.map_cons, List.cons.injEq] at h
    obtain ⟨hk, h⟩ := h
    have hm : (kvs.any fun kv => decide (kv.1 = k.2)) = true ↔ p ∈ d0 := by
      rw [List.any_eq_true]
      constructor
      · rintro ⟨kv, hkv, e⟩
        have e := of_decide_eq_true e
        have m : kv.1 ∈ kvs.map (·.1) := List.mem_map.mpr ⟨kv, hkv, rfl⟩
        rw [h0, e, hk] at m
        obtain ⟨q, hq, eq⟩ := List.mem_map.mp m
        rw [← keyP_inj eq]
        exact hq
      · intro hp
        have m : keyP p ∈ d0.map keyP := List.mem_map.mpr ⟨p, hp, rfl⟩
        rw [← h0] at m
        obtain ⟨kv, hkv, e⟩ := List.mem_map.mp m
        exact ⟨kv, hkv, decide_eq_true (e.trans hk.symm)⟩
    have e1 := putK_keys kvs k.2 (.bl true)
    by_cases c : p ∈ d0
    · rw [if_pos (hm.mpr c), h0] at e1
      obtain ⟨ds, a1, a2, a3, a4⟩ := kvF ks ps _ d0 h e1 n
      refine ⟨ds, a1, a2, fun q => ?_, by rw [List.length_cons]; omega⟩
      rw [a3 q, List.mem_cons]
      constructor
      · rintro (z | z)
        · exact .inl z
        · exact .inr (.inr z)
      · rintro (z | rfl | z)
        · exact .inl z
        · exact .inl c
        · exact .inr z
    · rw [if_neg (fun z => c (hm.mp z)), h0, hk] at e1
      have e2 : (putK kvs k.2 (.bl true)).map (·.1) = (d0 ++ [p]).map keyP := by
        rw [hk, e1, List.map_append]
        rfl
      have n2 : (d0 ++ [p]).Nodup := by
        rw [List.nodup_append]
        exact ⟨n, by simp, fun a ha b hb => by
          rw [List.mem_singleton.mp hb]
          rintro rfl
          exact c ha⟩
      obtain ⟨ds, a1, a2, a3, a4⟩ := kvF ks ps _ (d0 ++ [p]) h e2 n2
      refine ⟨ds, a1, a2, fun q => ?_, by rw [List.length_append, List.length_singleton] at a4; rw [List.length_cons]; omega⟩
      rw [a3 q, List.mem_append, List.mem_singleton, List.mem_cons]
      constructor
      · rintro ((z | z) | z)
        · exact .inl z
        · exact .inr (.inl z)
        · exact .inr (.inr z)
      · rintro (z | z | z)
        · exact .inl (.inl z)
        · exact .inl (.inr z)
        · exact .inr z
theorem PtsA.ks {H : Hp} {as : List Addr} {ps : List P3} (h : PtsA H as ps) : ∃ ks : List (Addr × List Key), as.map V.ref = ks.map (fun p => V.ref p.1) ∧ ks.map (·.2) = ps.map keyP ∧ (∀ p ∈ ks, H p.1 = some (.tup (p.2.map kV))) ∧ ks.length = ps.length := by
  induction h with
  | nil => exact ⟨[], rfl, rfl, (fun p hp => nomatch hp), rfl⟩
  | @cons a q as ps h _ ih =>
    obtain ⟨ks, h1, h2, h3, h4⟩ := ih
    refine ⟨(a, keyP q) :: ks, by rw [List.map_cons, List.map_cons, h1], by rw [List.map_cons, List.map_cons, h2], fun p hp => ?_, by rw [List.length_cons, List.length_cons, h4]⟩
    rcases List.mem_cons.mp hp with rfl | hp
    · exact h.h
    · exact h3 p hp
theorem keys_pts {H : Hp} : ∀ {kvs : List (List Key × V)} {bs : List Addr} {ds : List P3}, IsKeys H kvs bs → kvs.map (·.1) = ds.map keyP → (∀ p ∈ ds, Pt p ∧ B3 1000 p) → PtsA H bs ds
  | [], _, [], .nil, _, _ => .nil
  | [], _, _ :: _, _, h, _ => by simp at h
  | _ :: _, _, [], _, h, _ => by simp at h
  | kv :: kvs, _, d :: ds, .cons hb t, h, hd => by
    simp only [List.map_cons, List.cons.injEq] at h
    refine .cons ⟨?_, (hd d List.mem_cons_self).1, (hd d List.mem_cons_self).2⟩ (keys_pts t h.2 fun p hp => hd p (List.mem_cons_of_mem _ hp))
    rw [h.1] at hb
    exact hb
/-! ### the keys -/
def d0 : P3 := ⟨0, 0, 0⟩
def slL (c : P3) (ds : List P3) : List (Int × Int) := ds.map fun p => ((kq c p).2.2, (kq c p).2.1)
def sqL (c : P3) (ds : List P3) : List (Int × Int) := ds.map (sqp c)
def stpL (ms : List (Int × Int)) (m : Int × Int) : Int := stp (fineB (ms.map (·.2))).toNat m
def keyI (c : P3) (ds : List P3) (p : P3) (i : Nat) : List Int := [(kq c p).1, stpL (slL c ds) ((kq c p).2.2, (kq c p).2.1), stpL (sqL c ds) (sqp c p), (i : Int)]
theorem sqp_pos {c p : P3} (hc : Pt c) (hp : Pt p) : 0 < (sqp c p).2 := by
  have h1 := hc.w
  have h2 := hp.w
  have pp : 0 < (c.w * p.w) ^ 2 := by
    have e : (c.w * p.w) ^ 2 = (c.w * p.w) * (c.w * p.w) := by grind
    rw [e]
    have : 0 < c.w * p.w := Int.mul_pos (by omega) (by omega)
    exact Int.mul_pos this this
  exact (lowp_pos (t := dx c p * dx c p + dy c p * dy c p) pp).1
theorem kq_pos {c p : P3} (hc : Pt c) (hp : Pt p) (hn : p ≠ c) : 0 < (kq c p).2.1 := (quart_in (far_nz hc hp hn)).2.2.1
theorem lex_before {c : P3} {ds : List P3} (hc : Pt c) (hd : ∀ p ∈ ds, Pt p ∧ p ≠ c) {p q : P3} (hp : p ∈ ds) (hq : q ∈ ds) (i j : Nat) (h : before c p q) : Lx.lexL (keyI c ds p i) (keyI c ds q j) = true := by
  obtain ⟨pp, np⟩ := hd p hp
  obtain ⟨pq, nq⟩ := hd q hq
  have a1 := kq_pos hc pp np
  have a2 := kq_pos hc pq nq
  have s1 := sqp_pos hc pp
  have s2 := sqp_pos hc pq
  have m1 : (kq c p).2.1 ∈ (slL c ds).map (·.2) := List.mem_map.mpr ⟨_, List.mem_map.mpr ⟨p, hp, rfl⟩, rfl⟩
  have m2 : (kq c q).2.1 ∈ (slL c ds).map (·.2) := List.mem_map.mpr ⟨_, List.mem_map.mpr ⟨q, hq, rfl⟩, rfl⟩
  have n1 : (sqp c p).2 ∈ (sqL c ds).map (·.2) := List.mem_map.mpr ⟨_, List.mem_map.mpr ⟨p, hp, rfl⟩, rfl⟩
  have n2 : (sqp c q).2 ∈ (sqL c ds).map (·.2) := List.mem_map.mpr ⟨_, List.mem_map.mpr ⟨q, hq, rfl⟩, rfl⟩
  unfold keyI
  rcases h with h | ⟨e, h | ⟨e2, h⟩⟩
  · unfold Lx.lexL
    rw [if_neg (by omega)]
    exact decide_eq_true h
  · unfold Lx.lexL
    rw [if_pos e]
    have z : stpL (slL c ds) ((kq c p).2.2, (kq c p).2.1) < stpL (slL c ds) ((kq c q).2.2, (kq c q).2.1) := stp_lt a1 a2 (fine_lt m1 m2 a1 a2) h
    unfold Lx.lexL
    rw [if_neg (by omega)]
    exact decide_eq_true z
  · unfold Lx.lexL
    rw [if_pos e]
    have z : stpL (slL c ds) ((kq c p).2.2, (kq c p).2.1) = stpL (slL c ds) ((kq c q).2.2, (kq c q).2.1) := stp_eq a1 a2 e2
    unfold Lx.lexL
    rw [if_pos z]
    have y : stpL (sqL c ds) (sqp c p) < stpL (sqL c ds) (sqp c q) := stp_lt s1 s2 (fine_lt n1 n2 s1 s2) h
    unfold Lx.lexL
    rw [if_neg (by omega)]
    exact decide_eq_true y
/-- a value's ints -/
def kOf (H : Hp) : V → List Int
  | .ref a => match H a with
    | some (.tup xs) => xs.map fun v => match v with | .int i => i | _ => 0
    | _ => []
  | _ => []
def ixK (H : Hp) (v : V) : Nat := ((kOf H v).getD 3 0).toNat
def keyV (c : P3) (ds : List P3) (i : Nat) : List V := (keyI c ds (ds.getD i d0) i).map V.int
/-- what is sorted, told by the points -/
theorem sorted_keys {K : PySem.W.Frag} {H : Hp} {c : P3} {ds due : List P3} {ts bs : List Addr} (hc : Pt c) (hd : ∀ p ∈ ds, Pt p ∧ p ≠ c) (ht : TpA H ts ((List.range ds.length).map (keyV c ds))) (hb : PtsA H bs ds) (hp : ds.Perm due) (hw : due.Pairwise (before c)) :
    (∀ x ∈ ts.map V.ref, TupI K H x (kOf H x) ∧ (kOf H x).length = 4) ∧
    ∀ ys : List V, ys.Perm (ts.map V.ref) → ys.Pairwise (fun x y => Lx.lexL (kOf H y) (kOf H x) = false) → (∀ x ∈ ys, ∃ a b, x = .ref a ∧ H a = some (.tup (keyV c ds (ixK H x))) ∧ bs[ixK H x]? = some b ∧ bs.getD (ixK H x) 0 = b) ∧
      PtsA H (ys.map fun x => bs.getD (ixK H x) 0) due := by
  have one : ∀ x ∈ ts.map V.ref, ∃ (i : Nat) (a : Addr), i < ds.length ∧ ts[i]? = some a ∧ x = V.ref a ∧ H a = some (.tup (keyV c ds i)) ∧ kOf H x = keyI c ds (ds.getD i d0) i ∧ ixK H x = i := fun x hx => by
    obtain ⟨a, ha, rfl⟩ := List.mem_map.mp hx
    obtain ⟨i, hi⟩ := List.mem_iff_getElem?.mp ha
    have hlt : i < ds.length := by
      have := (List.getElem?_eq_some_iff.mp hi).1
      have e := ht.len
      rw [List.length_map, List.length_range] at e
      omega
    have hH : H a = some (.tup (keyV c ds i)) := ht.to hi (by rw [List.getElem?_map, List.getElem?_range hlt]; rfl)
    have ek : kOf H (V.ref a) = keyI c ds (ds.getD i d0) i := by
      unfold kOf
      simp only [hH]
      rfl
    refine ⟨i, a, hlt, hi, rfl, hH, ek, ?_⟩
    unfold ixK
    rw [ek]
    show ((i : Int)).toNat = i
    exact Int.toNat_natCast i
  refine ⟨fun x hx => ?_, fun ys py pw => ?_⟩
  · obtain ⟨i, a, hi, _, rfl, hH, ek, _⟩ := one x hx
    rw [ek]
    exact ⟨⟨a, rfl, SqT.of hH⟩, rfl⟩
  · have mem : ∀ x ∈ ys, x ∈ ts.map V.ref := fun x hx => py.mem_iff.mp hx
    have at_ : ∀ {i : Nat}, i < ds.length → ∃ b, bs[i]? = some b ∧ bs.getD i 0 = b ∧ PtA H b (ds.getD i d0) := fun {i} hi => by
      obtain ⟨b, hb1, hb2⟩ := hb.at (p := ds.getD i d0) (k := i) (by rw [List.getD_eq_getElem?_getD, List.getElem?_eq_getElem hi]; rfl)
      exact ⟨b, hb1, by rw [List.getD_eq_getElem?_getD, hb1]; rfl, hb2⟩
    refine ⟨fun x hx => ?_, ?_⟩
    · obtain ⟨i, a, hi, _, rfl, hH, _, ei⟩ := one x (mem x hx)
      obtain ⟨b, b1, b2, _⟩ := at_ hi
      exact ⟨a, b, rfl, by rw [ei]; exact hH, by rw [ei]; exact b1, by rw [ei]; exact b2⟩
    · have pts : ∀ zs : List V, (∀ x ∈ zs, x ∈ ts.map V.ref) → PtsA H (zs.map fun x => bs.getD (ixK H x) 0) (zs.map fun x => ds.getD (ixK H x) d0) := fun zs => by
        induction zs with
        | nil => exact fun _ => .nil
        | cons z zs ih =>
          intro hz
          obtain ⟨i, a, hi, _, _, _, _, ei⟩ := one z (hz z List.mem_cons_self)
          obtain ⟨b, b1, b2, b3⟩ := at_ hi
          refine .cons ?_ (ih fun x hx => hz x (List.mem_cons_of_mem _ hx))
          show PtA H (bs.getD (ixK H z) 0) (ds.getD (ixK H z) d0)
          rw [ei, b2]
          exact b3
      have e : (ys.map fun x => ds.getD (ixK H x) d0) = due := by
        refine perm_sorted (R := before c) ?_ hw ?_
        · refine List.Perm.trans ?_ hp
          have q1 : (ys.map fun x => ds.getD (ixK H x) d0).Perm ((ts.map V.ref).map fun x => ds.getD (ixK H x) d0) := py.map _
          have q2 : ((ts.map V.ref).map fun x => ds.getD (ixK H x) d0) = ds := by
            have el := ht.len
            rw [List.length_map, List.length_range] at el
            refine List.ext_getElem? fun i => ?_
            rw [List.map_map, List.getElem?_map]
            cases hi : ts[i]? with
            | none =>
              have := List.getElem?_eq_none_iff.mp hi
              rw [List.getElem?_eq_none (by omega)]
              rfl
            | some a =>
              have hlt := (List.getElem?_eq_some_iff.mp hi).1
              have hlt2 : i < ds.length := by omega
              have hH : H a = some (.tup (keyV c ds i)) := ht.to hi (by rw [List.getElem?_map, List.getElem?_range hlt2]; rfl)
              have ei : ixK H (V.ref a) = i := by
                unfold ixK kOf
                simp only [hH]
                show ((i : Int)).toNat = i
                exact Int.toNat_natCast i
              show some (ds.getD (ixK H (V.ref a)) d0) = ds[i]?
              rw [ei, List.getD_eq_getElem?_getD, List.getElem?_eq_getElem hlt2]
              rfl
          rw [q2] at q1
          exact q1
        · rw [List.pairwise_map]
          refine List.Pairwise.imp_of_mem (fun {x y} hx hy h => ?_) pw
          obtain ⟨i, a, hi, _, rfl, _, ek, ei⟩ := one x (mem x hx)
          obtain ⟨j, b, hj, _, rfl, _, fk, ej⟩ := one y (mem y hy)
          intro z
          rw [ei, ej] at z
          rw [ek, fk, lex_before hc hd (getD_mem hj) (getD_mem hi) j i z] at h
          cases h
      have y := pts ys mem
      rw [e] at y
      exact y
end Q
set_option Elab.async false
set_option linter.all false
set_option maxRecDepth 100000
set_option maxHeartbeats 4000000
/-! points come round a centre -/
namespace Q
open PySem L2 PySem.Spec PyProof.Rows PySem.Calls
open PM Evl
/-- what is asked of a centre and points -/
inductive SRa (CP CO : Addr) (H : Hp) (Q : VK) (E : XK) : V → V → Prop where
  | good {c t : Addr} {p0 : P3} {ts : List Addr} {ps due : List P3} (hc : PtA H c p0) (ht : H t = some (.tup (ts.map V.ref))) (hp : PtsA H ts ps) (hn : p0 ∉ ps) (hl : ps.length ≤ 1000) (nd : due.Nodup) (hm : ∀ p, p ∈ due ↔ p ∈ ps) (hw : due.Pairwise (before p0))
      (k : ∀ l ls H', H l = none → Ex H H' → H' l = some (.tup (ls.map V.ref)) → PtsA H' ls due → Q (.ref l) H') : SRa CP CO H Q E (.ref c) (.ref t)
  | oper {c t : Addr} {p0 : P3} {ts : List Addr} {ps : List P3} (hc : PtA H c p0) (ht : H t = some (.tup (ts.map V.ref))) (hp : PtsA H ts ps) (hn : p0 ∈ ps) (hl : ps.length ≤ 1000) (k : ∀ H', Ex H H' → E (.ref CO) none H') : SRa CP CO H Q E (.ref c) (.ref t)
  | cen {c : Addr} {t : V} (hc : Pv H (.ref c) false) (k : ∀ H', Ex H H' → E (.ref CP) none H') : SRa CP CO H Q E (.ref c) t
  | lst {c t : Addr} {p0 : P3} {xs : List V} (hc : PtA H c p0) (ht : H t = some (.lst xs)) (k : ∀ H', Ex H H' → E (.ref CP) none H') : SRa CP CO H Q E (.ref c) (.ref t)
  | bad {c t : Addr} {p0 : P3} {pre post : List V} {bad : V} (hc : PtA H c p0) (ht : H t = some (.tup (pre ++ bad :: post))) (h1 : ∀ v ∈ pre, Pv H v true) (h2 : Pv H bad false) (hl : (pre ++ bad :: post).length ≤ 1000) (k : ∀ H', Ex H H' → E (.ref CP) none H') : SRa CP CO H Q E (.ref c) (.ref t)
def spSR (CP CO : Addr) : Sp := fun vs H Q E => ∃ a b : V, vs = [a, b] ∧ SRa CP CO H Q E a b
theorem inB_mem (p : P3) : ∀ l : List P3, inB p l = true ↔ p ∈ l
  | [] => by
    constructor
    · intro h
      cases h
    · intro h
      cases h
  | q :: l => by
    show (eqB p q || inB p l) = true ↔ _
    rw [Bool.or_eq_true, inB_mem p l, List.mem_cons, eqB_iff]
theorem quart_bd {k : Nat} {x y : Int} (hx : Bd k x) (hy : Bd k y) : Bd k (quart x y).2.1 ∧ Bd k (quart x y).2.2 := by
  unfold quart
  split
  · exact ⟨hx, hy⟩
  · split
    · exact ⟨hy, hx.neg⟩
    · split
      · exact ⟨hx.neg, hy.neg⟩
      · exact ⟨hy.neg, hx⟩
theorem sqp_bd {c p : P3} (bc : B3 1000 c) (bp : B3 1000 p) : Bd 6000 (sqp c p).1 ∧ Bd 6000 (sqp c p).2 := by
  have h1 := ((bc.dx bp).mul (bc.dx bp)).add ((bc.dy bp).mul (bc.dy bp))
  have h2 := (bc.w.mul bp.w).sq
  exact ⟨(bd_div h1).le (by decide), (bd_div h2).le (by decide)⟩
def kqV (c p : P3) : List V := [.int (kq c p).1, .int (kq c p).2.1, .int (kq c p).2.2]
abbrev nSR : List Str := ["centre", "points", "different", "turned", "slopes", "squares", "keys", "point", "_", "dx", "dy", "k", "key"]
section
variable {K : PySem.W.Frag} {σ : L2.St} {H : Hp} {t : TA} {vs pre post : List V} {bad : V} {D : Ends} {u : TS} {E : XK} {C : Addr} {i : Nat} {a : Addr}
theorem q_chk_ok (ha : ValA t σ H vs) (hl : vs.length ≤ 1000) (hv : ∀ v ∈ vs, Pv H v true) (k : ∀ H', Same H H' → u D σ H') : tSeq (tDrop (fun σ H Q => t σ H fun vs H1 => spChkX C vs H1 Q E)) u D σ H :=
  ha _ ⟨hl, .inl ⟨hv, fun H' e => k H' e⟩⟩
theorem q_chk_no (ha : ValA t σ H (pre ++ bad :: post)) (hl : (pre ++ bad :: post).length ≤ 1000) (hv : ∀ v ∈ pre, Pv H v true) (hb : Pv H bad false) (k : ∀ H', Same H H' → E (.ref C) none H') : tSeq (tDrop (fun σ H Q => t σ H fun vs H1 => spChkX C vs H1 Q E)) u D σ H :=
  ha _ ⟨hl, .inr ⟨pre, bad, post, rfl, hv, hb, fun H' e => k H' e⟩⟩
theorem q_star_ok (h : σ[i]? = some (some (.ref a))) (hx : H a = some (.tup vs)) (hl : vs.length ≤ 1000) (hv : ∀ v ∈ vs, Pv H v true) (k : ∀ H', Same H H' → u D σ H') : tSeq (tDrop (fun σ H Q => tVar i σ H fun y H1 => ∃ a xs, y = V.ref a ∧ (SqT K H1 a xs ∨ SqL K H1 a xs) ∧ spChkX C xs H1 Q E)) u D σ H :=
  ⟨_, h, a, vs, rfl, .inl (SqT.of hx), hl, .inl ⟨hv, fun H' e => k H' e⟩⟩
theorem q_star_no (h : σ[i]? = some (some (.ref a))) (hx : H a = some (.tup (pre ++ bad :: post))) (hl : (pre ++ bad :: post).length ≤ 1000) (hv : ∀ v ∈ pre, Pv H v true) (hb : Pv H bad false) (k : ∀ H', Same H H' → E (.ref C) none H') : tSeq (tDrop (fun σ H Q => tVar i σ H fun y H1 => ∃ a xs, y = V.ref a ∧ (SqT K H1 a xs ∨ SqL K H1 a xs) ∧ spChkX C xs H1 Q E)) u D σ H :=
  ⟨_, h, a, _, rfl, .inl (SqT.of hx), hl, .inr ⟨pre, bad, post, rfl, hv, hb, fun H' e => k H' e⟩⟩
end
section
variable {K : PySem.W.Frag} {σ : L2.St} {H : Hp} {te : TE} {xss : List (List V)} {xs : List V} {D : Ends} {tz : TS} {i : Nat}
theorem q_asgSort (h : EvTs te σ H xss) (d : Nat) (hd : 1 ≤ d) (k : ∀ (ts : List Addr) H1, Ex H H1 → TpA H1 ts xss → ∃ kf : V → List Int, (∀ x ∈ ts.map V.ref, TupI K H1 x (kf x) ∧ (kf x).length = d) ∧
    ∀ ys r, ys.Perm (ts.map V.ref) → ys.Pairwise (fun x y => Lx.lexL (kf y) (kf x) = false) → H1 r = none → tz D (σ.set i (some (.ref r))) (upd H1 r (.lst ys))) : tSeq (tAsg (tCB (rSortLex K) (tCons te tNil)) (gName i)) tz D σ H :=
  h H (Ex.refl H) _ fun p ts H2 hn e hp tp => by
    obtain ⟨kf, h1, h2⟩ := k ts H2 e tp
    exact ⟨p, ts.map V.ref, kf, d, rfl, SqL.of hp, hd, h1, fun ys r a b c => h2 ys r a b c⟩
theorem eu_tupL (h : EvL te σ H xs) : EvU (tCB (fun xs H Q => ∃ p ys, xs = [.ref p] ∧ ((SqL K H p ys ∧ ∀ l, H l = none → Q (.ref l) (upd H l (.tup ys))) ∨ (SqT K H p ys ∧ Q (.ref p) H))) (tCons te tNil)) σ H xs := fun H0 e0 Q q =>
  h H0 e0 _ fun p H1 hn e hp => ⟨p, xs, rfl, .inl ⟨SqL.of hp, fun l hl => q l _ (fresh_back e hl) (e.trans (Ex.new hl)) upd_same⟩⟩
end
section
variable {P : Program} {w : World} {K : PySem.W.Frag} {mg : Str → Option Value} {base : Heap}
theorem scSR : FnScope ["centre", "points", "different", "turned", "slopes", "squares", "keys", "point", "_", "dx", "dy", "k", "key"] ["centre", "points"] (defScope sSR) := ⟨rfl, rfl, rfl, by decide +kernel, rfl, by decide +kernel, by decide +kernel⟩
theorem ok_sr {f CP CO : Addr} {fd : FuncData} (F : Fun K "sorted_round" "sorted_round" sSR f fd) (T : TI mg) (TB1 : TB mg) (T3 : TS3 mg) (TP : ErrE "InvalidPoint" K mg CP) (TO : ErrE "InvalidOperation" K mg CO) (CK : ClRX P w K mg base 3 "check_points" (spChkX CP)) (CQ : Cl P w K mg base 2 "_quarter_turned" spQT) (CF : Cl P w K mg base 2 "fraction_steps" (spFS K)) (CS : Cl P w K mg base 3 "_square" spSquare) :
    FnOk P w K mg base (L2.CX P w) 4 f fd ["centre", "points"] (spSR CP CO) := by
  obtain ⟨fK, FK, gK, kK⟩ := CK.ex
  refine F.okX scSR (fun vs H Q E h => ?_) (fun cdv A outer s H vs Q E hr h => ?_)
  · obtain ⟨a, b, rfl, _⟩ := h
    rfl
  · have hun := hr.units
    have hun5 := room65 hr
    refine ⟨_, (pss_cons (ps_expr (pe_callR FK hr kK (by rfl) gK (passes_call (E := E) (W := fun cls d _ H => E cls d H) (takes_of rfl rfl rfl rfl) (fun _ _ _ _ h => h)) (pa_cons (pv 0) pa_nil)))
      (pss_cons (ps_if (pt_not (pt_val (pe_callB call_isi (by rfl) T.isi PyProof.Rows.boot_isinstance (pa_cons (pv 1) (pa_cons (pe_bltn (v := .ty "tuple") (by rfl) T.tuple (by decide +kernel) rfl) pa_nil)))))
          (pss_one (ps_raise (W := fun cls d _ H => E cls d H) rfl (takes_of rfl rfl rfl rfl) (SkE.pmk_own1 PySem.F.excBase_ValueError TP.x TP.g TP.kC (raises_own TP.be TP.typ) (by rfl) pe_str))) pss_nil)
      (pss_cons (ps_expr (StX.pe_callS1 FK hr kK (by rfl) gK (passes_call (E := E) (W := fun cls d _ H => E cls d H) (takes_of rfl rfl rfl rfl) (fun _ _ _ _ h => h)) (pv 1)))
      (pss_cons (ps_if (pt_cmpR (op_inDT hun5) (pv 0) (pv 1) (by rfl))
          (pss_one (ps_raise (W := fun cls d _ H => E cls d H) rfl (takes_of rfl rfl rfl rfl) (SkE.pmk_own1 PySem.F.excBase_ValueError TO.x TO.g TO.kC (raises_own TO.be TO.typ) (by rfl) pe_str))) pss_nil)
      (pss_cons (ps_set (i := 2) scSR.nd rfl (Or.inr rfl) (pe_callTy (call_list_dT rfl) (by rfl) TB1.list (by decide +kernel) (pa_cons (pe_dcT rfl hun (pv 1) (by rfl) (by decide) (by rfl) (by decide) (by rfl) (by decide) (fun _ => rfl)) pa_nil)))
      (pss_cons (ps_set (i := 3) scSR.nd rfl (Or.inr rfl) (pe_lc (own := [("point", 7)]) (g := gName 7) (by rfl) scSR.nd (pi_list (pv 2))
            (blkOk_by (own := [("point", 7)]) (N := ["centre", "points", "different", "turned", "slopes", "squares", "keys", "point", "_", "dx", "dy", "k", "key"]) (sc := defScope sSR) (by decide +kernel))
            (fun _ _ _ _ _ => pg_name (i := 7) scSR.nd rfl (Or.inl rfl)) (fun _ _ _ _ _ => pts_nil)
            (te := tCall spQT [] E0 (tCons (tVar 0) (tCons (tVar 7) tNil))) (fun _ _ _ _ _ => by exact (pe_cl CQ hr (by decide) (by rfl) (by exact (pa_cons (pv 0) (pa_cons (pv 7) pa_nil)))))))
      (pss_cons (ps_set (i := 4) scSR.nd rfl (Or.inr rfl) (pe_cl CF hr (by decide) (by rfl) (pa_cons (pe_lc (own := [("_", 8), ("dx", 9), ("dy", 10)]) (g := gTup K 3 (gCons (gName 8) (gCons (gName 9) (gCons (gName 10) gNil)))) (by rfl) scSR.nd (pi_list (pv 3))
            (blkOk_by (own := [("_", 8), ("dx", 9), ("dy", 10)]) (N := ["centre", "points", "different", "turned", "slopes", "squares", "keys", "point", "_", "dx", "dy", "k", "key"]) (sc := defScope sSR) (by decide +kernel))
            (fun _ _ _ _ _ => by exact (pg_tup (by rfl) (pgs_cons (pg_name (i := 8) scSR.nd rfl (Or.inl rfl)) (pgs_cons (pg_name (i := 9) scSR.nd rfl (Or.inl rfl)) (pgs_cons (pg_name (i := 10) scSR.nd rfl (Or.inl rfl)) pgs_nil))))) (fun _ _ _ _ _ => pts_nil)
            (te := tTup (tCons (tVar 10) (tCons (tVar 9) tNil))) (fun _ _ _ _ _ => by exact (pe_tup (by exact (pa_cons (pv 10) (pa_cons (pv 9) pa_nil)))))) pa_nil)))
      (pss_cons (ps_set (i := 5) scSR.nd rfl (Or.inr rfl) (pe_cl CF hr (by decide) (by rfl) (pa_cons (pe_lc (own := [("point", 7)]) (g := gName 7) (by rfl) scSR.nd (pi_list (pv 2))
            (blkOk_by (own := [("point", 7)]) (N := ["centre", "points", "different", "turned", "slopes", "squares", "keys", "point", "_", "dx", "dy", "k", "key"]) (sc := defScope sSR) (by decide +kernel))
            (fun _ _ _ _ _ => pg_name (i := 7) scSR.nd rfl (Or.inl rfl)) (fun _ _ _ _ _ => pts_nil)
            (te := tCall spSquare [] E0 (tCons (tVar 0) (tCons (tVar 7) tNil))) (fun _ _ _ _ _ => by exact (pe_cl CS hr (by decide) (by rfl) (by exact (pa_cons (pv 0) (pa_cons (pv 7) pa_nil)))))) pa_nil)))
      (pss_cons (ps_set (i := 6) scSR.nd rfl (Or.inl rfl) (pe_callB cr_sortLex (by rfl) T3.sorted (by decide +kernel) (pa_cons (pe_lc (own := [("k", 11)]) (g := gName 11) (by rfl) scSR.nd (pi_range1 rfl TB1.range (pa_cons (pe_callB call_len_seq (by rfl) TB1.len PySem.boot_len (pa_cons (pv 2) pa_nil)) pa_nil))
            (blkOk_by (own := [("k", 11)]) (N := ["centre", "points", "different", "turned", "slopes", "squares", "keys", "point", "_", "dx", "dy", "k", "key"]) (sc := defScope sSR) (by decide +kernel))
            (fun _ _ _ _ _ => pg_name (i := 11) scSR.nd rfl (Or.inl rfl)) (fun _ _ _ _ _ => pts_nil)
            (te := tTup (tCons (tOp (rIxT K) (tOp (rIxL K) (tVar 3) (tVar 11)) (tC (.int 0))) (tCons (tOp (rIxL K) (tVar 4) (tVar 11)) (tCons (tOp (rIxL K) (tVar 5) (tVar 11)) (tCons (tVar 11) tNil))))) (fun _ _ _ _ _ => by exact (pe_tup (by exact (pa_cons (pe_ix ix_tup (pe_ix ix_list (pv 3) (pv 11) (fun _ _ => rfl)) pe_int (fun _ _ => rfl)) (pa_cons (pe_ix ix_list (pv 4) (pv 11) (fun _ _ => rfl)) (pa_cons (pe_ix ix_list (pv 5) (pv 11) (fun _ _ => rfl)) (pa_cons (pv 11) pa_nil)))))))) pa_nil)))
      (pss_one (ps_ret (pe_callTy call_tuple_of (by rfl) T3.tuple (by decide +kernel) (pa_cons (pe_lc (own := [("key", 12)]) (g := gName 12) (by rfl) scSR.nd (pi_list (pv 6))
            (blkOk_by (own := [("key", 12)]) (N := ["centre", "points", "different", "turned", "slopes", "squares", "keys", "point", "_", "dx", "dy", "k", "key"]) (sc := defScope sSR) (by decide +kernel))
            (fun _ _ _ _ _ => pg_name (i := 12) scSR.nd rfl (Or.inl rfl)) (fun _ _ _ _ _ => pts_nil)
            (te := tOp (rIxL K) (tVar 2) (tOp (rIxT K) (tVar 12) (tC (.int 3)))) (fun _ _ _ _ _ => by exact (pe_ix ix_list (pv 2) (pe_ix ix_tup (pv 12) pe_int (fun _ _ => rfl)) (fun _ _ => rfl)))) pa_nil))))))))))))), ?_⟩
    obtain ⟨a, b, rfl, h⟩ := h
    have one : ∀ {c : Addr} {p : P3}, PtA H c p → ∀ v ∈ [V.ref c], Pv H v true := fun hc v hv => by
      rw [List.mem_singleton.mp hv]
      exact Pv.pt hc.h hc.pt
    cases h with
    | cen hc k => exact q_chk_no (pre := []) (post := []) (va_cons (val_var rfl) va_nil) (by show 1 ≤ 1000; decide) (fun v hv => nomatch hv) hc k
    | lst hc ht k =>
      refine q_chk_ok (va_cons (val_var rfl) va_nil) (by show 1 ≤ 1000; decide) (one hc) fun H1 e1 => ?_
      exact st_seq (st_yes (ans_not (b := false) (ans_val (val_isi (val_var rfl) (.base (.lst (e1 _ _ ht))) (kit_ty (by decide +kernel))))) (k H1 e1))
    | @bad c t p0 pre post bd hc ht h1 h2 hl k =>
      refine q_chk_ok (va_cons (val_var rfl) va_nil) (by show 1 ≤ 1000; decide) (one hc) fun H1 e1 => ?_
      refine st_seq (st_no (ans_not (b := true) (ans_val (val_isi (val_var rfl) (.base (.tup (e1 _ _ ht))) (kit_ty (by decide +kernel))))) (st_next ?_))
      exact q_star_no rfl (e1 _ _ ht) hl (fun v hv => (h1 v hv).mono e1) (h2.mono e1) fun H' e => k H' (Ex.trans e1 e)
    | @oper c t p0 ts ps hc ht hp hn hl k =>
      refine q_chk_ok (va_cons (val_var rfl) va_nil) (by show 1 ≤ 1000; decide) (one hc) fun H1 e1 => ?_
      refine st_seq (st_no (ans_not (b := true) (ans_val (val_isi (val_var rfl) (.base (.tup (e1 _ _ ht))) (kit_ty (by decide +kernel))))) (st_next ?_))
      refine q_star_ok rfl (e1 _ _ ht) (by rw [List.length_map, hp.len]; exact hl) (hp.mono e1).pvs fun H2 e2 => ?_
      have e12 := Ex.trans e1 e2
      refine q_when (b := true) (et_is (et_test (ev_op (ev_var rfl) (ev_var rfl) fun H3 e3 Q q => ⟨dP p0, ps.map dP, dp_of (pt_mono (e12.trans e3) hc).h, .tup (SqT.of ((e12.trans e3) _ _ ht)) (hp.mono (e12.trans e3)).dp, lay_all ps, lay_dP p0, dep_all ps, q H3 (Ex.refl _)⟩)) (by rw [any_inB]; exact (inB_mem p0 ps).mpr hn)) (fun _ H3 e3 => ?_) (fun z => nomatch z)
      exact k H3 (e12.trans e3)
    | @good c t p0 ts ps due hc ht hp hn hl nd hm hw k =>
      refine q_chk_ok (va_cons (val_var rfl) va_nil) (by show 1 ≤ 1000; decide) (one hc) fun H1 e1 => ?_
      refine st_seq (st_no (ans_not (b := true) (ans_val (val_isi (val_var rfl) (.base (.tup (e1 _ _ ht))) (kit_ty (by decide +kernel))))) (st_next ?_))
      refine q_star_ok rfl (e1 _ _ ht) (by rw [List.length_map, hp.len]; exact hl) (hp.mono e1).pvs fun H2 e2 => ?_
      have e12 := Ex.trans e1 e2
      refine q_when (b := false) (et_is (et_test (ev_op (ev_var rfl) (ev_var rfl) fun H3 e3 Q q => ⟨dP p0, ps.map dP, dp_of (pt_mono (e12.trans e3) hc).h, .tup (SqT.of ((e12.trans e3) _ _ ht)) (hp.mono (e12.trans e3)).dp, lay_all ps, lay_dP p0, dep_all ps, q H3 (Ex.refl _)⟩)) (by rw [any_inB]; exact Bool.eq_false_iff.mpr fun z => hn ((inB_mem p0 ps).mp z))) (fun z => nomatch z) (fun _ H3 e3 => ?_)
      have e13 := e12.trans e3
      have hp3 := hp.mono e13
      obtain ⟨ks, k1, k2, k3, k4⟩ := hp3.ks
      refine ⟨_, rfl, t, ks, rfl, SqT.of (by rw [← k1]; exact e13 _ _ ht), k3, by omega, fun D hD => ?_⟩
      refine ⟨D, _, rfl, Rd.of upd_same, fun l bs hl4 hkeys => ?_⟩
      obtain ⟨ds, d1, d2, d3, d4⟩ := kvF ks ps [] [] k2 rfl List.nodup_nil
      have eD := Ex.new (o := .dT (kvT ks)) hD
      have eL := Ex.new (o := .lst (bs.map V.ref)) hl4
      have dmem : ∀ p, p ∈ ds ↔ p ∈ ps := fun p => by
        rw [d3 p]
        exact ⟨fun z => z.elim (fun y => nomatch y) id, .inr⟩
      have hb4 := keys_pts hkeys d1 fun p hp' => hp.mem p ((dmem p).mp hp')
      have hb4 := hb4.mono eL
      have hlst : upd (upd H3 D (.dT (kvT ks))) l (.lst (bs.map V.ref)) l = some (.lst (bs.map V.ref)) := upd_same
      have e14 := e13.trans (eD.trans eL)
      generalize upd (upd H3 D (.dT (kvT ks))) l (.lst (bs.map V.ref)) = H4 at hb4 hlst e14 ⊢
      clear hkeys d1 d3 eD eL k1 k2 k3 k4 hD hl4
      have hds : ∀ p ∈ ds, Pt p ∧ p ≠ p0 := fun p hp' => ⟨(hp.mem p ((dmem p).mp hp')).1, fun z => hn (z ▸ (dmem p).mp hp')⟩
      have hdl : ds.length ≤ 1000 := by
        rw [List.length_nil] at d4
        omega
      have hbl := hb4.len
      have hc4 := pt_mono e14 hc
      have pos : ∀ p ∈ ds, 0 < (kq p0 p).2.1 := fun p hp' => kq_pos hc.pt (hds p hp').1 (hds p hp').2
      refine q_asgTs (ets_nm (xss := ds.map (kqV p0)) (ev_var rfl) (SqL.of hlst) (by rw [List.length_map]; omega) (by rw [List.length_map, List.length_map, hbl]) (fun _ => rfl) (fun i x ys H5 e5 hx hy => ?_)) fun tu tts H5 e5 ht5 tp5 => ?_
      · rw [List.getElem?_map] at hx hy
        obtain ⟨p, hp', rfl⟩ := Option.map_eq_some_iff.mp hy
        obtain ⟨b, hb', hbp⟩ := hb4.at hp'
        rw [hb'] at hx
        cases hx
        exact eu_qt (ev_var rfl) (ev_var rfl) (pt_mono e5 hc4) (pt_mono e5 hbp) (far_nz hc.pt hbp.pt (hds p (List.mem_of_getElem? hp')).2)
      have hlst5 := e5 _ _ hlst
      have hb5 := hb4.mono e5
      have e15 := e14.trans e5
      refine q_asgL (el_fs (ms := slL p0 ds) (ets_t3 (tss := ds.map (kqV p0)) (ev_var rfl) (SqL.of ht5) tp5 (fun ys hy => ?_) (by rw [tp5.len, List.length_map]; omega) (by rw [List.length_map, List.length_map]; exact (List.length_map (f := fun p => ((kq p0 p).2.2, (kq p0 p).2.1)) (as := ds)).symm) (fun _ _ _ => rfl) (fun i u v w ys H6 e6 hx hy => ?_)) (by unfold slL; rw [List.length_map]; exact hdl) (fun m hm' => ?_)) fun sl H6 e6 hsl => ?_
      · obtain ⟨p, _, rfl⟩ := List.mem_map.mp hy
        exact ⟨_, _, _, rfl⟩
      · unfold slL at hy
        rw [List.getElem?_map] at hx
        rw [List.map_map, List.getElem?_map] at hy
        obtain ⟨p, hp', hx⟩ := Option.map_eq_some_iff.mp hx
        rw [hp'] at hy
        cases hy
        cases hx
        exact eu_tup (ea_cons (ev_var rfl) (ea_cons (ev_var rfl) ea_nil)) (by show 2 ≤ 100000; decide)
      · unfold slL at hm'
        obtain ⟨p, hp', rfl⟩ := List.mem_map.mp hm'
        have bp := (hp.mem p ((dmem p).mp hp')).2
        have z := quart_bd (hc.b.dx bp) (hc.b.dy bp)
        exact ⟨z.2.le (by decide), z.1.le (by decide), by have := pos p hp'; show (kq p0 p).2.1 ≠ 0; omega⟩
      have e16 := e15.trans e6
      have hlst6 := e6 _ _ hlst5
      have hb6 := hb5.mono e6
      refine q_asgL (el_fs (ms := sqL p0 ds) (ets_nm (ev_var rfl) (SqL.of hlst6) (by rw [List.length_map]; omega) (by unfold sqL; rw [List.length_map, List.length_map, List.length_map, hbl]) (fun _ => rfl) (fun i x ys H7 e7 hx hy => ?_)) (by unfold sqL; rw [List.length_map]; exact hdl) (fun m hm' => ?_)) fun sq H7 e7 hsq => ?_
      · unfold sqL at hy
        rw [List.getElem?_map] at hx
        rw [List.map_map, List.getElem?_map] at hy
        obtain ⟨p, hp', rfl⟩ := Option.map_eq_some_iff.mp hy
        obtain ⟨b, hb', hbp⟩ := hb6.at hp'
        rw [hb'] at hx
        cases hx
        exact eu_square (ev_var rfl) (ev_var rfl) (pt_mono (e16.trans e7) hc) (pt_mono e7 hbp)
      · unfold sqL at hm'
        obtain ⟨p, hp', rfl⟩ := List.mem_map.mp hm'
        have bp := hp.mem p ((dmem p).mp hp')
        have z := sqp_bd hc.b bp.2
        exact ⟨z.1, z.2, by have := sqp_pos hc.pt bp.1; omega⟩
      have e17 := e16.trans e7
      have hlst7 := e7 _ _ hlst6
      have hb7 := hb6.mono e7
      have hsl7 := e7 _ _ hsl
      have htu7 := (e6.trans e7) _ _ ht5
      have tp7 := tp5.mono (e6.trans e7)
      have hn7 : (((bs.map V.ref).length : Nat) : Int).toNat = ds.length := by rw [Int.toNat_natCast, List.length_map, hbl]
      refine q_asgSort (xss := (List.range ds.length).map (keyV p0 ds)) ?_ 4 (by decide) fun kts H8 e8 tp8 => ?_
      · rw [← hn7]
        refine ets_lcR (n := (((bs.map V.ref).length : Nat) : Int)) (keyV p0 ds) (ea_cons (ev_len (ev_var rfl) (SqL.of hlst7)) ea_nil) (by rw [List.length_map]; omega) (fun _ => rfl) (fun i H8 e8 hi => ?_)
        have hi2 : i < ds.length := by
          rw [List.length_map] at hi
          omega
        obtain ⟨ta, hta, hta2⟩ := tp7.at (k := i) (xs := kqV p0 (ds.getD i d0)) (by rw [List.getElem?_map, List.getElem?_eq_getElem hi2, List.getD_eq_getElem?_getD, List.getElem?_eq_getElem hi2]; rfl)
        have a1 : atI (tts.map V.ref) (i : Int) = some (.ref ta) := atI_nat (by rw [List.getElem?_map, hta]; rfl)
        have a2 : atI ((steps (slL p0 ds)).map V.int) (i : Int) = some (.int (stpL (slL p0 ds) ((kq p0 (ds.getD i d0)).2.2, (kq p0 (ds.getD i d0)).2.1))) := atI_nat (by
          rw [steps_stp]
          unfold slL
          rw [List.getElem?_map, List.getElem?_map, List.getElem?_map, List.getElem?_eq_getElem hi2, List.getD_eq_getElem?_getD, List.getElem?_eq_getElem hi2]
          rfl)
        have a3 : atI ((steps (sqL p0 ds)).map V.int) (i : Int) = some (.int (stpL (sqL p0 ds) (sqp p0 (ds.getD i d0)))) := atI_nat (by
          rw [steps_stp]
          unfold sqL
          rw [List.getElem?_map, List.getElem?_map, List.getElem?_map, List.getElem?_eq_getElem hi2, List.getD_eq_getElem?_getD, List.getElem?_eq_getElem hi2]
          rfl)
        exact eu_tup (vs := keyV p0 ds i) (ea_cons (ev_ixT (ev_op (ev_var rfl) (ev_var rfl) (rv_ixL (SqL.of (e8 _ _ htu7)) a1)) (e8 _ _ hta2) rfl) (ea_cons (ev_op (ev_var rfl) (ev_var rfl) (rv_ixL (SqL.of (e8 _ _ hsl7)) a2)) (ea_cons (ev_op (ev_var rfl) (ev_var rfl) (rv_ixL (SqL.of (e8 _ _ hsq)) a3)) (ea_cons (ev_var rfl) ea_nil)))) (by show 4 ≤ 100000; decide)
      have hb8 := hb7.mono e8
      have e18 := e17.trans e8
      have hlst8 := e8 _ _ hlst7
      have pm : ds.Perm due := perm_nodup d2 nd fun p => (dmem p).trans (hm p).symm
      obtain ⟨s1, s2⟩ := sorted_keys (K := K) hc.pt hds tp8 hb8 pm hw
      refine ⟨kOf H8, s1, fun ys r py pw hr9 => ?_⟩
      obtain ⟨y1, y2⟩ := s2 ys py pw
      have e9 := Ex.new (o := .lst ys) hr9
      have hys : upd H8 r (.lst ys) r = some (.lst ys) := upd_same
      have yl : ys.length ≤ 40000 := by
        rw [py.length_eq, List.length_map, tp8.len, List.length_map, List.length_range]
        omega
      refine s_retU (xs := ys.map fun x => V.ref (bs.getD (ixK H8 x) 0)) (eu_tupL ?_) fun l9 H9 hl9 e10 h9 => ?_
      · rw [← given_map ys (fun x => V.ref (bs.getD (ixK H8 x) 0)) .non]
        refine el_lcL (K := K) (t := tYes) (fun _ => true) (fun j => V.ref (bs.getD (ixK H8 (ys.getD j .non)) 0)) (ev_var rfl) (SqL.of hys) yl (fun _ => rfl) (fun i x H9 e10 hx => et_yes) (fun i x H9 e10 hx _ => ?_)
        obtain ⟨a, b, rfl, ha, hb', hb''⟩ := y1 x (List.mem_of_getElem? hx)
        rw [getD_at hx, hb'']
        exact ev_op (ev_var rfl) (ev_ixT (ev_var rfl) ((e9.trans e10) _ _ ha) rfl) (rv_ixL (SqL.of ((e9.trans e10) _ _ hlst8)) (atI_nat (by rw [List.getElem?_map, hb']; rfl)))
      · refine k l9 (ys.map fun x => bs.getD (ixK H8 x) 0) H9 (fresh_back (e18.trans e9) hl9) ((e18.trans e9).trans e10) ?_ (y2.mono (e9.trans e10))
        rw [h9, List.map_map]
        rfl
end
end Q
set_option Elab.async false
set_option linter.all false
set_option maxRecDepth 100000
set_option maxHeartbeats 2000000
/-! what is refused -/
namespace Q
open PySem L2 PySem.Spec PyProof.Rows PySem.Calls
open PM Evl
abbrev sRfl : Stmt := top 47
theorem SRa.imp {CP CO : Addr} {H : Hp} {Q Q' : VK} {E E' : XK} {a b : V} (h : SRa CP CO H Q E a b) (hq : ∀ v H', Q v H' → Q' v H') (he : ∀ c H', E c none H' → E' c none H') : SRa CP CO H Q' E' a b := by
  cases h with
  | good hc ht hp hn hl nd hm hw k => exact .good hc ht hp hn hl nd hm hw fun l ls H' a b c d => hq _ _ (k l ls H' a b c d)
  | oper hc ht hp hn hl k => exact .oper hc ht hp hn hl fun H' e => he _ _ (k H' e)
  | cen hc k => exact .cen hc fun H' e => he _ _ (k H' e)
  | lst hc ht k => exact .lst hc ht fun H' e => he _ _ (k H' e)
  | bad hc ht h1 h2 hl k => exact .bad hc ht h1 h2 hl fun H' e => he _ _ (k H' e)
/-- how it is refused -/
def rflE (CP CO : Addr) (w : Str) (H : Hp) : XK := fun cls _ H' => ((cls = .ref CO ∧ w = "operation") ∨ (cls = .ref CP ∧ w = "point")) ∧ Ex H H'
def spRfl (CP CO : Addr) : Sp := fun vs H Q _ => ∃ (a b : V) (w : Str), vs = [a, b] ∧ SRa CP CO H (fun _ _ => False) (rflE CP CO w H) a b ∧ ∀ H', Ex H H' → Q (.str w) H'
section
variable {P : Program} {w : World} {K : PySem.W.Frag} {mg : Str → Option Value} {base : Heap}
theorem scRfl : FnScope ["centre", "points"] ["centre", "points"] (defScope sRfl) := ⟨rfl, rfl, rfl, by decide +kernel, rfl, by decide +kernel, by decide +kernel⟩
theorem ok_rfl {f fS CP CO : Addr} {fd fdS : FuncData} (F : Fun K "_law_refusal" "_law_refusal" sRfl f fd) (TP : ErrE "InvalidPoint" K mg CP) (TO : ErrE "InvalidOperation" K mg CO) (NE : PySem.W.exmOne K (.ref CP) (.ref CO) = some false)
    (GS : FnOk P w K mg base (L2.CX P w) 4 fS fdS ["centre", "points"] (spSR CP CO)) (bS : Binds K fdS ["centre", "points"] []) (gS : mg "sorted_round" = some (.ref fS)) (kS : PySem.W.keepIn K (.ref fS) = true) :
    FnOk P w K mg base CX0 5 f fd ["centre", "points"] (spRfl CP CO) := by
  refine F.ok scRfl (fun vs H Q E h => ?_) (fun cdv A outer s H vs Q E hr h => ?_)
  · obtain ⟨a, b, _, rfl, _⟩ := h
    rfl
  · obtain ⟨a, b, wd, rfl, h, k⟩ := h
    refine ⟨_, pss_one (ps_try_many (l := [(.ref CO, fun _ _ _ => tRet (tC (.str "operation"))), (.ref CP, fun _ _ _ => tRet (tC (.str "point")))]) (tb := fun W => tSeq (tDrop (tCallS (spSR CP CO) (WE W) (tCons (tVar 0) (tCons (tVar 1) tNil)))) (tRet (tC .non))) rfl rfl takes_none5
      (fun W pn xe tk _ => pss_cons (ps_expr (by exact (pe_callS GS hr rfl gS kS bS (fun σ => passAt tk σ) (by exact (pa_cons (pv 0) (pa_cons (pv 1) pa_nil)))))) (pss_one (ps_ret pe_non)))
      (.cons ⟨rfl, by decide, .inl TO.g⟩ (fun a oe cls d pn _ _ => pss_one (ps_ret pe_str)) (.cons ⟨rfl, by decide, .inl TP.g⟩ (fun a oe cls d pn _ _ => pss_one (ps_ret pe_str)) .nil))), ?_⟩
    refine ⟨_, rfl, _, rfl, a, b, rfl, h.imp (fun v H' q => q.elim) (fun c H' q => ?_)⟩
    obtain ⟨q, e⟩ := q
    rcases q with ⟨rfl, rfl⟩ | ⟨rfl, rfl⟩
    · exact ⟨true, TO.me, fun _ x hx => k H' e, fun q => nomatch q⟩
    · exact ⟨false, NE, (fun q => nomatch q), fun _ => ⟨true, TP.me, fun _ x hx => k H' e, (fun q => nomatch q)⟩⟩
end
end Q
set_option Elab.async false
set_option linter.all false
set_option maxRecDepth 100000
set_option maxHeartbeats 1000000
/-! rows of points in the directions -/
namespace PM
/-- what has been put in up to direction i -/
structure Rnd (s : P3) (ds : List (Int × Int)) (i : Nat) (ps : List P3) : Prop where
  pw : ps.Pairwise (before (cen s))
  fr : ∀ p ∈ ps, ∃ (j : Nat) (d f : Int × Int), j < i ∧ ds[j]? = some d ∧ 1 ≤ f.1 ∧ f.1 ≤ 13 ∧ 1 ≤ f.2 ∧ f.2 ≤ 5 ∧ p = farP s d f
  len : ps.length ≤ 2 * i
/-- a row: so far out, nearer ones first -/
structure Row (fs : List (Int × Int)) : Prop where
  pw : fs.Pairwise fun f g => f.1 < g.1 ∧ g.2 = f.2
  b : ∀ f ∈ fs, 1 ≤ f.1 ∧ f.1 ≤ 13 ∧ 1 ≤ f.2 ∧ f.2 ≤ 5
  len : fs.length ≤ 2
theorem Rnd.nil {s : P3} {ds : List (Int × Int)} : Rnd s ds 0 [] := ⟨List.Pairwise.nil, fun p hp => (by simp at hp), Nat.le_refl _⟩
theorem Rnd.step {s : P3} {ds : List (Int × Int)} {i : Nat} {ps : List P3} {d : Int × Int} {fs : List (Int × Int)} (hs : 1 ≤ s.w) (h : Rnd s ds i ps) (hd : ds[i]? = some d) (hw : ds.Pairwise dlt) (nz : nzD d) (r : Row fs) : Rnd s ds (i + 1) (ps ++ fs.map (farP s d)) := by
  refine ⟨?_, fun p hp => ?_, ?_⟩
  · rw [List.pairwise_append]
    refine ⟨h.pw, ?_, fun p hp q hq => ?_⟩
    · rw [List.pairwise_map]
      refine List.Pairwise.imp_of_mem (fun {f g} hf hg z => ?_) r.pw
      obtain ⟨a, _, b, _⟩ := r.b f hf
      exact before_far hs nz a b z.1 z.2
    · obtain ⟨j, e, f, hj, he, a1, _, a2, _, rfl⟩ := h.fr p hp
      obtain ⟨g, hg, rfl⟩ := List.mem_map.mp hq
      obtain ⟨b1, _, b2, _⟩ := r.b g hg
      refine before_dir hs a1 a2 b1 b2 ?_
      obtain ⟨l1, e1⟩ := List.getElem?_eq_some_iff.mp he
      obtain ⟨l2, e2⟩ := List.getElem?_eq_some_iff.mp hd
      rw [← e1, ← e2]
      exact List.pairwise_iff_getElem.mp hw j i l1 l2 hj
  · rcases List.mem_append.mp hp with hp | hp
    · obtain ⟨j, e, f, hj, r⟩ := h.fr p hp
      exact ⟨j, e, f, Nat.lt_succ_of_lt hj, r⟩
    · obtain ⟨g, hg, rfl⟩ := List.mem_map.mp hp
      obtain ⟨b1, b2, b3, b4⟩ := r.b g hg
      exact ⟨i, d, g, Nat.lt_succ_self i, hd, b1, b2, b3, b4, rfl⟩
  · rw [List.length_append, List.length_map]
    have := h.len
    have := r.len
    omega
theorem before_irr {c p : P3} (h : before c p p) : False := by
  rcases h with h | ⟨_, h | ⟨_, h⟩⟩
  · exact Int.lt_irrefl _ h
  · exact Int.lt_irrefl _ h
  · exact Int.lt_irrefl _ h
theorem Rnd.nodup {s : P3} {ds : List (Int × Int)} {i : Nat} {ps : List P3} (h : Rnd s ds i ps) : ps.Nodup := h.pw.imp fun {p q} z e => by
  subst e
  exact before_irr z
theorem Rnd.off {s : P3} {ds : List (Int × Int)} {i : Nat} {ps : List P3} (hs : 1 ≤ s.w) (nz : ∀ d ∈ ds, nzD d) (h : Rnd s ds i ps) : cen s ∉ ps := fun hp => by
  obtain ⟨j, d, f, hj, he, a1, _, a2, _, e⟩ := h.fr _ hp
  obtain ⟨g, K, g0, K0, e1, e2⟩ := far_way hs d a1 a2
  rw [← e] at e1 e2
  have z1 : dx (cen s) (cen s) = 0 := by simp only [dx]; omega
  have z2 : dy (cen s) (cen s) = 0 := by simp only [dy]; omega
  rw [z1, Int.mul_zero] at e1
  rw [z2, Int.mul_zero] at e2
  rcases nz d (List.mem_of_getElem? he) with n | n
  · rcases Int.mul_eq_zero.mp e1.symm with z | z
    · omega
    · exact n z
  · rcases Int.mul_eq_zero.mp e2.symm with z | z
    · omega
    · exact n z
end PM
namespace Q
open PySem L2
open PM
theorem far_bd {X Y W : Int} {d f : Int × Int} (hX : Bd 100 X) (hY : Bd 100 Y) (hW : Bd 100 W) (d1 : Bd 10 d.1) (d2 : Bd 10 d.2) (f1 : Bd 5 f.1) (f2 : Bd 5 f.2) :
    Bd 116 (X * f.2 + f.1 * d.1 * W) ∧ Bd 116 (Y * f.2 + f.1 * d.2 * W) ∧ Bd 105 (W * f.2) ∧ B3 1000 (farP ⟨X, Y, W⟩ d f) := by
  have a : Bd 116 (X * f.2 + f.1 * d.1 * W) := ((hX.mul f2).le (by decide : 105 ≤ 115)).add ((f1.mul d1).mul hW)
  have b : Bd 116 (Y * f.2 + f.1 * d.2 * W) := ((hY.mul f2).le (by decide : 105 ≤ 115)).add ((f1.mul d2).mul hW)
  have c : Bd 105 (W * f.2) := hW.mul f2
  have z := B3.low a b (c.le (by decide : 105 ≤ 116))
  exact ⟨a, b, c, z.x.le (by decide), z.y.le (by decide), z.w.le (by decide)⟩
end Q
set_option Elab.async false
set_option linter.all false
set_option maxRecDepth 100000
set_option maxHeartbeats 2000000
/-! tuples of points, lists of them that are shuffled -/
namespace Q
open PySem L2 PySem.Spec PyProof.Rows PySem.Calls
open PM Evl
theorem PtsA.by {H H' : Hp} {as : List Addr} {ps : List P3} (h : PtsA H as ps) (k : ∀ a xs, H a = some (.tup xs) → H' a = some (.tup xs)) : PtsA H' as ps := by
  induction h with
  | nil => exact .nil
  | cons h _ ih => exact .cons ⟨k _ _ h.h, h.pt, h.b⟩ ih
theorem PtsA.take {H : Hp} {as : List Addr} {ps : List P3} (h : PtsA H as ps) : ∀ n : Nat, PtsA H (as.take n) (ps.take n) := by
  induction h with
  | nil => intro n; simp only [List.take_nil]; exact .nil
  | cons h _ ih =>
    intro n
    cases n with
    | zero => exact .nil
    | succ n => exact .cons h (ih n)
theorem pts_of {H : Hp} : ∀ {ls : List Addr} {ps : List P3}, ls.length = ps.length → (∀ (m : Nat) l q, ls[m]? = some l → ps[m]? = some q → PtA H l q) → PtsA H ls ps
  | [], [], _, _ => .nil
  | [], _ :: _, h, _ => by simp at h
  | _ :: _, [], h, _ => by simp at h
  | l :: ls, p :: ps, h, k => .cons (k 0 l p rfl rfl) (pts_of (by simpa using h) fun m l' q h1 h2 => k (m + 1) l' q (by simpa using h1) (by simpa using h2))
theorem PtsA.perm {H : Hp} {as us : List Addr} (h : as.Perm us) : ∀ {ps : List P3}, PtsA H as ps → ∃ qs : List P3, PtsA H us qs ∧ qs.Perm ps := by
  induction h with
  | nil => exact fun h => ⟨_, h, List.Perm.refl _⟩
  | cons a _ ih =>
    intro ps h
    cases h with
    | cons h t =>
      obtain ⟨qs, h1, h2⟩ := ih t
      exact ⟨_ :: qs, .cons h h1, List.Perm.cons _ h2⟩
  | swap a b l =>
    intro ps h
    cases h with
    | cons h t =>
      cases t with
      | cons k t => exact ⟨_, .cons k (.cons h t), List.Perm.swap _ _ _⟩
  | trans _ _ i1 i2 =>
    intro ps h
    obtain ⟨qs, h1, h2⟩ := i1 h
    obtain ⟨rs, h3, h4⟩ := i2 h1
    exact ⟨rs, h3, h4.trans h2⟩
def unref : V → Addr
  | .ref a => a
  | _ => 0
theorem refs_perm {ys : List V} {as : List Addr} (h : ys.Perm (as.map V.ref)) : ∃ us : List Addr, ys = us.map V.ref ∧ as.Perm us := by
  refine ⟨ys.map unref, ?_, ?_⟩
  · rw [List.map_map]
    refine (List.map_id' ys).symm.trans (List.map_congr_left fun x hx => ?_)
    obtain ⟨a, _, rfl⟩ := List.mem_map.mp (h.mem_iff.mp hx)
    rfl
  · have z := (h.map unref).symm
    rw [List.map_map] at z
    have e : as.map (unref ∘ V.ref) = as := by
      refine (List.map_congr_left fun x _ => ?_).trans (List.map_id' as)
      rfl
    rw [e] at z
    exact z
theorem shaped_dT (ps : List P3) : SeqAt.shaped (.tuple (ps.map dP)) = true := by
  unfold SeqAt.shaped
  have h1 : (PyData.tuple (ps.map dP)).canLay0 = true := lay_all ps
  have h2 : (PyData.tuple (ps.map dP)).depth ≤ 64 := by
    have := dep_all ps
    simp only [PyData.depth]
    omega
  rw [h1, decide_eq_true h2]
  rfl
def EvPs (te : TE) (σ : L2.St) (H : Hp) (ps : List P3) : Prop := ∀ H1, Ex H H1 → ∀ Q : VK, (∀ l ls H2, Ex H1 H2 → H2 l = some (.tup (ls.map V.ref)) → PtsA H2 ls ps → Q (.ref l) H2) → te σ H1 Q
section
variable {K : PySem.W.Frag} {σ : L2.St} {H : Hp} {ta tb tc te : TE} {ps qs due : List P3} {p0 : P3} {E : XK} {CP CO : Addr} {ls : List Addr} {xs : List V} {L : Addr} {x y w : Int} {wd : Str} {i : Nat}
theorem ep_ofU (h : EvU te σ H (ls.map V.ref)) (hp : PtsA H ls ps) : EvPs te σ H ps := fun H1 e Q q => h H1 e _ fun l H2 _ e2 hl => q l ls H2 e2 hl (hp.mono (e.trans e2))
theorem eu_tupV (h : Ev te σ H (.ref L)) (hL : H L = some (.lst xs)) : EvU (tCB (fun xs H Q => ∃ p ys, xs = [.ref p] ∧ ((SqL K H p ys ∧ ∀ l, H l = none → Q (.ref l) (upd H l (.tup ys))) ∨ (SqT K H p ys ∧ Q (.ref p) H))) (tCons te tNil)) σ H xs := fun H0 e0 Q q =>
  h H0 e0 _ fun H1 e => ⟨L, xs, rfl, .inl ⟨SqL.of ((e0.trans e) _ _ hL), fun l hl => q l _ (fresh_back e hl) (e.trans (Ex.new hl)) upd_same⟩⟩
theorem eqv_dT (ps : List P3) : PyData.eqv (.tuple (ps.map dP)) (.tuple (ps.map dP)) = true := SeqAt.eqv_refl (.tuple (ps.map dP)) (lay_all ps)
theorem et_nePs (h1 : EvPs ta σ H ps) (h2 : EvPs tb σ H ps) : EvT (tTest (tOp (rNeD K) ta tb)) σ H false := et_test fun H1 e Q q =>
  h1 H1 e _ fun l1 ls1 H2 e2 a1 p1 => h2 H2 (e.trans e2) _ fun l2 ls2 H3 e3 a2 p2 =>
    ⟨.tuple (ps.map dP), .tuple (ps.map dP), .tup (SqT.of (e3 _ _ a1)) (p1.mono e3).dp, .tup (SqT.of a2) p2.dp, shaped_dT ps, shaped_dT ps, by
      rw [eqv_dT ps]
      exact q H3 (e2.trans e3)⟩
theorem ep_sr (h1 : EvPt ta σ H p0) (h2 : EvPs tb σ H qs) (hn : p0 ∉ qs) (hl : qs.length ≤ 1000) (nd : due.Nodup) (hm : ∀ p, p ∈ due ↔ p ∈ qs) (hw : due.Pairwise (before p0)) : EvPs (tCall (spSR CP CO) [] E (tCons ta (tCons tb tNil))) σ H due := fun H1 e Q q =>
  h1 H1 e _ fun c H2 e2 hc => h2 H2 (e.trans e2) _ fun t ts H3 e3 ht hp => ⟨_, _, rfl, .good (pt_mono e3 hc) ht hp hn hl nd hm hw fun l ls H4 _ e4 h4 p4 => q l ls H4 ((e2.trans e3).trans e4) h4 p4⟩
theorem ev_rfl_op (h1 : EvPt ta σ H p0) (h2 : EvPs tb σ H qs) (hn : p0 ∈ qs) (hl : qs.length ≤ 1000) : Ev (tCall (spRfl CP CO) [] E (tCons ta (tCons tb tNil))) σ H (.str "operation") := fun H1 e Q q =>
  h1 H1 e _ fun c H2 e2 hc => h2 H2 (e.trans e2) _ fun t ts H3 e3 ht hp => ⟨_, _, _, rfl, .oper (pt_mono e3 hc) ht hp hn hl fun H4 e4 => ⟨.inl ⟨rfl, rfl⟩, e4⟩, fun H4 e4 => q H4 ((e2.trans e3).trans e4)⟩
theorem ev_rfl_lst (h1 : EvPt ta σ H p0) (h2 : Ev tb σ H (.ref L)) (hL : H L = some (.lst xs)) : Ev (tCall (spRfl CP CO) [] E (tCons ta (tCons tb tNil))) σ H (.str "point") := fun H1 e Q q =>
  h1 H1 e _ fun c H2 e2 hc => h2 H2 (e.trans e2) _ fun H3 e3 => ⟨_, _, _, rfl, .lst (pt_mono e3 hc) (((e.trans e2).trans e3) _ _ hL) fun H4 e4 => ⟨.inr ⟨rfl, rfl⟩, e4⟩, fun H4 e4 => q H4 ((e2.trans e3).trans e4)⟩
theorem ept_pnt (h1 : Ev ta σ H (.int x)) (h2 : Ev tb σ H (.int y)) (h3 : Ev tc σ H (.int w)) (hw : 0 < w) (bw : Bd 6000 w) (b : B3 1000 (low x y w)) : EvPt (tCall spPoint [] E (tCons ta (tCons tb (tCons tc tNil)))) σ H (low x y w) := fun H1 e Q q =>
  h1 H1 e _ fun H2 e2 => h2 H2 (e.trans e2) _ fun H3 e3 => h3 H3 ((e.trans e2).trans e3) _ fun H4 e4 => ⟨x, y, w, rfl, hw, bw, fun l H5 _ e5 h5 => q l H5 (((e2.trans e3).trans e4).trans e5) ⟨h5, PM.low_pt hw, b⟩⟩
end
/-- what a draw leaves of tuples -/
theorem Bgd.tup {p : Addr} {H H' : Hp} (hb : ∃ a b c : Int, H p = some (.lst [.int a, .int b, .int c])) (g : Bgd p H H') : ∀ a xs, H a = some (.tup xs) → H' a = some (.tup xs) := fun a xs ha => g.keep _ _ (ne_tup hb ha) ha
theorem lst_tup {H : Hp} {L : Addr} {xs ys : List V} (hL : H L = some (.lst xs)) : ∀ a zs, H a = some (.tup zs) → upd H L (.lst ys) a = some (.tup zs) := fun a zs ha => by
  have na : a ≠ L := by
    intro z
    rw [z, hL] at ha
    cases ha
  rw [upd_ne na]
  exact ha
section
variable {K : PySem.W.Frag} {σ : L2.St} {H : Hp} {p : Addr} {z : Int} {E : XK}
/-- [(1 + .. + 7 * turn, size) for turn in range(..)] -/
theorem lc_row (h0 : σ[0]? = some (some (.ref p))) (h6 : σ[6]? = some (some (.int z))) (hb : ∃ a b c : Int, H p = some (.lst [.int a, .int b, .int c])) (z1 : 1 ≤ z) (z5 : z ≤ 5)
    (s0 : ∀ x, ((wipe σ [9]).set 9 (some x))[0]? = some (some (.ref p))) (s6 : ∀ x, ((wipe σ [9]).set 9 (some x))[6]? = some (some (.int z))) (s9 : ∀ x, ((wipe σ [9]).set 9 (some x))[9]? = some (some x)) (hw : ∀ x, wipe ((wipe σ [9]).set 9 (some x)) [9] = wipe σ [9]) {Q : VK}
    (k : ∀ (r : Addr) (rs : List Addr) (fs : List (Int × Int)) H2, H r = none → Bgd p H H2 → H2 r = some (.lst (rs.map V.ref)) → PrA H2 rs fs → Row fs → Q (.ref r) H2) :
    tLc (iRng1 (tCons (tCall spDraw [] E (tCons (tVar 0) (tCons (tC (.int 3)) tNil))) tNil)) (gName 9) tYes (tTup (tCons (tOp (rI0 fun i j => .int (i + j)) (tOp (rI0 fun i j => .int (i + j)) (tC (.int 1)) (tCall spDraw [] E (tCons (tVar 0) (tCons (tC (.int 6)) tNil)))) (tOp (rI CMulW fun i j => .int (i * j)) (tC (.int 7)) (tVar 9))) (tCons (tVar 6) tNil))) [9] σ H Q := by
  refine (eb_draw (p := p) (i := 0) (N := 3) h0 (eb_c ⟨by decide, by decide, log_of (by decide)⟩)) H hb _ fun n H1 hn g1 => ⟨n, rfl, by omega, by omega, fun D hD => ?_⟩
  have nD : D ≠ p := ne_bag g1.bag hD
  refine lc_range (lo := 0) (n := n.toNat) (fun i H' => Bgd p H H' ∧ ∃ (rs : List Addr) (fs : List (Int × Int)), H' D = some (.lst (rs.map V.ref)) ∧ PrA H' rs fs ∧ fs.length = i ∧ (fs.Pairwise fun f g => f.1 < g.1 ∧ g.2 = f.2) ∧ ∀ f ∈ fs, 1 ≤ f.1 ∧ f.1 < 7 * (i : Int) ∧ f.2 = z)
    ⟨g1.new hD, [], [], upd_same, .nil, rfl, List.Pairwise.nil, fun f hf => nomatch hf⟩ ?_ ?_
  · rintro i H' hi ⟨g, rs, fs, hd, pr, len, pw, bd⟩
    refine ⟨hw _, yes_ite ?_⟩
    have i2 : i < 2 := by omega
    rw [show (0 : Int) + (i : Int) = (i : Int) from Int.zero_add _]
    have ea : EvB p (tOp (rI0 fun i j => .int (i + j)) (tOp (rI0 fun i j => .int (i + j)) (tC (.int 1)) (tCall spDraw [] E (tCons (tVar 0) (tCons (tC (.int 6)) tNil)))) (tOp (rI CMulW fun i j => .int (i * j)) (tC (.int 7)) (tVar 9))) ((wipe σ [9]).set 9 (some (.int (i : Int)))) (fun m => 7 * (i : Int) < m ∧ m < 7 * ((i : Int) + 1)) :=
      eb_op (g := fun i j => i + j) (R := fun m => 1 ≤ m ∧ m ≤ 6) (S := fun m => m = 7 * (i : Int)) (eb_op (g := fun i j => i + j) (R := fun m => m = 1) (eb_c rfl) (eb_draw (N := 6) (s0 _) (eb_c ⟨by decide, by decide, log_of (by decide)⟩)) (fun a b ha hb => by
        subst ha
        exact ⟨by omega, by omega⟩)) (eb_mul (R := fun m => m = 7) (S := fun m => m = (i : Int)) (eb_c rfl) (eb_var (s9 _) rfl) (fun a b ha hb => by
        subst ha hb
        exact (⟨by decide⟩ : Bd 10 (7 : Int)).mw (bd_of (n := (i : Int)) (by omega)) (by decide)) (fun a b ha hb => by rw [ha, hb])) (fun a b ha hb => by
        subst hb
        exact ⟨by omega, by omega⟩)
    refine ea H' g.bag _ fun m H4 hm g4 => ⟨_, s6 _, (by show 2 ≤ sizeLine; decide), fun t ht => ?_⟩
    have hd4 := g4.keep _ _ nD hd
    have hd5 : upd H4 t (.tup [.int m, .int z]) D = some (.lst (rs.map V.ref)) := by
      rw [upd_ne (ne_of_none hd4 ht)]
      exact hd4
    refine ⟨rs.map V.ref, hd5, sz_lt (by rw [List.length_map, pr.len]; omega), ?_⟩
    have g5 := (g.trans g4).new (o := .tup [.int m, .int z]) ht
    have pr5 : PrA (upd H4 t (.tup [.int m, .int z])) rs fs := (pr.by (g4.tup g.bag)).by fun a xs ha => by
      rw [upd_ne (ne_of_none ha ht)]
      exact ha
    have n0 : H D = none := g1.free hD
    refine ⟨g5.old n0 nD, rs ++ [t], fs ++ [(m, z)], ?_, (pr5.app (.cons (d := (m, z)) upd_same .nil)).by (lst_tup hd5), by rw [List.length_append, len]; rfl, ?_, fun f hf => ?_⟩
    · rw [upd_same, List.map_append]
      rfl
    · rw [List.pairwise_append]
      refine ⟨pw, List.pairwise_singleton _ _, fun f hf q hq => ?_⟩
      rw [List.mem_singleton.mp hq]
      obtain ⟨b1, b2, b3⟩ := bd f hf
      exact ⟨by show f.1 < m; omega, b3.symm⟩
    · rcases List.mem_append.mp hf with hf | hf
      · obtain ⟨b1, b2, b3⟩ := bd f hf
        exact ⟨b1, by omega, b3⟩
      · rw [List.mem_singleton.mp hf]
        exact ⟨by show 1 ≤ m; omega, by show m < 7 * (((i + 1 : Nat)) : Int); omega, rfl⟩
  · rintro H' ⟨g, rs, fs, hd, pr, len, pw, bd⟩
    refine k D rs fs H' (g1.free hD) g hd pr ⟨pw, fun f hf => ?_, by omega⟩
    obtain ⟨b1, b2, b3⟩ := bd f hf
    exact ⟨b1, by omega, by omega, by omega⟩
end
end Q
set_option Elab.async false
set_option linter.all false
set_option maxRecDepth 100000
set_option maxHeartbeats 4000000
/-! points put in round a centre come round in their order -/
namespace Q
open PySem L2 PySem.Spec PyProof.Rows PySem.Calls
open PM Evl
abbrev sRR : Stmt := top 46
structure ClX (P : Program) (w : World) (K : PySem.W.Frag) (mg : Str → Option Value) (base : Heap) (k : Nat) (x : Str) (sp : Sp) : Prop where
  ex : ∃ (f : Addr) (fd : FuncData) (ps : List Str), FnOk P w K mg base (L2.CX P w) k f fd ps sp ∧ mg x = some (.ref f) ∧ PySem.W.keepIn K (.ref f) = true ∧ Binds K fd ps []
theorem passX0 {X : Cx} : Passes (L2.CX X.prog X.w) X E0 := by
  intro pins σ H s e s' I h
  obtain ⟨a, B, H', cls, d, ea, fl, hok, ub, na, os, ag, he⟩ := h
  exact False.elim he
section
variable {X : Cx} {k j : Nat} {x : Str} {sp : Sp} {p pos : Pos} {e : Expr} {es : List Expr} {t : TA}
theorem pe_clX (c : ClX X.prog X.w X.K X.mg X.base k x sp) (hr : Room j X.A) (hk : k ≤ j) (hg : Gl X x) (ha : PA X (e :: es) t)
    (hdb : (x == ("__debug__" : Str)) = false := by decide) (he : starEach (e :: es) X.env = (false, eval e X.env) :: starEach es X.env := by rfl) (hpl : (backTo pos (starEach es X.env)).any (·.1) = false := by rfl) :
    PE X (.Call (.Name x p) (e :: es) [] pos) (tCall sp [] E0 t) := by
  obtain ⟨f, fd, ps, F, hm, kp, b⟩ := c.ex
  exact pe_call F (hr.mono hk) hg hm kp b .nil passX0 ha hdb he hpl
end
section
variable {K : PySem.W.Frag} {σ : L2.St} {H : Hp} {ta tb tc te : TE} {ps : List P3} {q0 : P3} {E : XK} {ls : List Addr} {L p : Addr} {i j : Nat} {D : Ends} {tz : TS} {wd : Str}
theorem q_asgQ (h : te σ H fun v H1 => tz D (σ.set i (some v)) H1) : tSeq (tAsg te (gName i)) tz D σ H := h
theorem q_parPL (h : EvPt ta σ H q0) (k : ∀ l L H1, Ex H H1 → PtA H1 l q0 → H1 L = some (.lst []) → H L = none → tz D ((σ.set i (some (.ref l))).set j (some (.ref L))) H1) : tSeq (tPar i j (tCons ta (tCons (tLst tNil) tNil))) tz D σ H :=
  h H (Ex.refl H) _ fun l H2 e2 hl => ⟨Nat.zero_le _, fun L hL => ⟨_, _, rfl, k l L _ (e2.trans (Ex.new hL)) (pt_mono (Ex.new hL) hl) upd_same (fresh_back e2 hL)⟩⟩
theorem ev_eqS (h : Ev te σ H (.str wd)) : Ev (tOp rEq te (tC (.str wd))) σ H (.bl true) := ev_is (ev_op h ev_c (rv_eq rfl)) (by rw [decide_eq_true rfl])
theorem cut_take (xs : List V) {n : Int} (h : 0 ≤ n) : cutV xs none (some n) = xs.take n.toNat := by
  unfold cutV
  obtain ⟨m, rfl⟩ := Int.eq_ofNat_of_zero_le h
  rw [HT.sIx_none, HT.sIx_nat, Int.toNat_natCast, List.drop_zero, Nat.sub_zero]
  by_cases c : m ≤ xs.length
  · rw [Nat.min_eq_left c]
  · rw [Nat.min_eq_right (by omega), List.take_length, List.take_of_length_le (by omega)]
theorem q_told2 (h0 : σ[0]? = some (some (.ref p))) (h3 : σ[3]? = some (some (.ref L))) (hb : ∃ a b c : Int, H p = some (.lst [.int a, .int b, .int c])) (nL : L ≠ p) (hL : H L = some (.lst (ls.map V.ref))) (hp : PtsA H ls ps) (hl : ps.length ≤ 100)
    (k : ∀ (l : Addr) (us : List Addr) (qs : List P3) H2, H l = none → Bgd p H H2 → H2 l = some (.lst (us.map V.ref)) → PtsA H2 us qs → (∀ x, x ∈ qs ↔ x ∈ ps) → qs.length ≤ 200 → tz D (σ.set i (some (.ref l))) H2) :
    tSeq (tAsg (tCall spShuf [] E (tCons (tVar 0) (tCons (tOp rCat (tVar 3) (tSl (rSlL K) (tVar 3) tNoPart (tPart (tCall spDraw [] E (tCons (tVar 0) (tCons (tC (.int 3)) tNil)))))) tNil))) (gName i)) tz D σ H := by
  refine q_asgQ ⟨_, h0, _, h3, _, h3, ?_⟩
  refine (eb_draw (p := p) (i := 0) (N := 3) h0 (eb_c ⟨by decide, by decide, log_of (by decide)⟩)) H hb _ fun n H1 hn g1 => ⟨n, rfl, L, ls.map V.ref, rfl, SqL.of (g1.keep _ _ nL hL), fun c hc => ?_⟩
  rw [cut_take _ hn.1]
  have g2 := g1.new (o := .lst ((ls.map V.ref).take n.toNat)) hc
  have hL2 := g2.keep _ _ nL hL
  have hc2 : upd H1 c (.lst ((ls.map V.ref).take n.toNat)) c = some (.lst ((ls.map V.ref).take n.toNat)) := upd_same
  generalize upd H1 c (.lst ((ls.map V.ref).take n.toNat)) = H2 at g2 hL2 hc2 ⊢
  have hll := hp.len
  refine ⟨L, c, _, _, rfl, rfl, hL2, hc2, sz_of (by rw [List.length_take, List.length_map]; omega), fun q hq => ?_⟩
  have g3 := g2.new (o := .lst (ls.map V.ref ++ (ls.map V.ref).take n.toNat)) hq
  obtain ⟨b0, b1, b2, eb⟩ := g3.bag
  have hq3 : upd H2 q (.lst (ls.map V.ref ++ (ls.map V.ref).take n.toNat)) q = some (.lst (ls.map V.ref ++ (ls.map V.ref).take n.toNat)) := upd_same
  refine ⟨p, q, b0, b1, b2, _, rfl, eb, ne_bag g2.bag hq, hq3, by rw [List.length_append, List.length_take, List.length_map]; omega, fun l ys H4 pm hl4 hl0 g4 => ?_⟩
  have e : ls.map V.ref ++ (ls.map V.ref).take n.toNat = (ls ++ ls.take n.toNat).map V.ref := by rw [List.map_append, List.map_take]
  rw [e] at pm
  obtain ⟨us, rfl, pu⟩ := refs_perm pm
  obtain ⟨qs, pq, pp⟩ := PtsA.perm pu (hp.app (hp.take n.toNat))
  refine k l us qs H4 (g3.free hl0) (g3.trans g4) hl4 (pq.by ((g3.trans g4).tup hb)) (fun x => ?_) (by rw [pp.length_eq, List.length_append, List.length_take]; omega)
  rw [pp.mem_iff, List.mem_append]
  exact ⟨fun z => z.elim id List.mem_of_mem_take, .inl⟩
end
def spRR : Sp := fun vs H Q _ => ∃ (p sp : Addr) (X Y W : Int), vs = [.ref p, .ref sp] ∧ (∃ a b c : Int, H p = some (.lst [.int a, .int b, .int c])) ∧ sp ≠ p ∧ H sp = some (.lst [.int X, .int Y, .int W]) ∧ Bd 100 X ∧ Bd 100 Y ∧ Bd 100 W ∧ 1 ≤ W ∧ ∀ H', Bgd p H H' → Q (.bl true) H'
section
variable {P : Program} {w : World} {K : PySem.W.Frag} {mg : Str → Option Value} {base : Heap}
theorem scRR : FnScope ["bag", "spot", "centre", "due", "x", "y", "size", "row", "told", "turn_v", "far"] ["bag", "spot"] (defScope sRR) := ⟨rfl, rfl, rfl, by decide +kernel, rfl, by decide +kernel, by decide +kernel⟩
theorem ok_rr {f CP CO : Addr} {fd : FuncData} (F : Fun K "_law_round_right" "_law_round_right" sRR f fd) (T : TB mg) (T3 : TS3 mg) (CD : Cl P w K mg base 1 "_law_draw" spDraw) (CT : Cl P w K mg base 2 "_law_point" spPoint) (CW : Cl P w K mg base 2 "_law_directions" spDir) (CH : Cl P w K mg base 2 "_law_shuffled" spShuf)
    (CS : ClX P w K mg base 4 "sorted_round" (spSR CP CO)) (CR : Cl P w K mg base 5 "_law_refusal" (spRfl CP CO)) : FnOk P w K mg base CX0 6 f fd ["bag", "spot"] spRR := by
  refine F.ok scRR (fun vs H Q E h => ?_) (fun cdv A outer s H vs Q E hr h => ?_)
  · obtain ⟨p, sp, X, Y, W, rfl, _⟩ := h
    rfl
  · obtain ⟨p, sp, X, Y, W, rfl, hb, hne, hsp, bX, bY, bW, hW, k⟩ := h
    have hu := hr.units
    refine ⟨_, (pss_cons (ps_par (i := 2) (j := 3) (by rfl) scRR.nd rfl rfl (by decide) rfl rfl (pa_cons (pe_cl CT hr (by decide) (by rfl) (pa_cons ((pe_ix ix_list (pv 1) pe_int (fun _ _ => rfl))) (pa_cons ((pe_ix ix_list (pv 1) pe_int (fun _ _ => rfl))) (pa_cons ((pe_ix ix_list (pv 1) pe_int (fun _ _ => rfl))) pa_nil)))) (pa_cons (pe_lst pa_nil) pa_nil)) (by rfl))
      (pss_cons (ps_for PassesOwn.never rfl (pi_list (pe_cl CW hr (by decide) (by rfl) (pa_cons (pv 0) (pa_cons (pe_cl CD hr (by decide) (by rfl) (pa_cons (pv 0) (pa_cons (pe_int) pa_nil))) pa_nil)))) (pg_tup (by rfl) (pgs_cons (pg_name (i := 4) scRR.nd rfl (.inr rfl)) (pgs_cons (pg_name (i := 5) scRR.nd rfl (.inr rfl)) pgs_nil)))
        (pss_cons (ps_set (i := 6) scRR.nd rfl (Or.inr rfl) (pe_op op_add pe_int (pe_cl CD hr (by decide) (by rfl) (pa_cons (pv 0) (pa_cons (pe_int) pa_nil)))))
        (pss_cons (ps_setLc (i := 7) (own := [("turn_v", 9)]) (g := gName 9) rfl scRR.nd rfl rfl (sw_true rfl rfl rfl rfl) (pi_range1 rfl T.range (pa_cons (pe_cl CD hr (by decide) (by rfl) (pa_cons (pv 0) (pa_cons (pe_int) pa_nil))) pa_nil))
            (blkOk_by (own := [("turn_v", 9)]) (N := ["bag", "spot", "centre", "due", "x", "y", "size", "row", "told", "turn_v", "far"]) (sc := defScope sRR) (by decide +kernel))
            (fun _ _ _ _ _ => pg_name (i := 9) scRR.nd rfl (Or.inl rfl)) (fun _ _ _ _ _ => pts_nil)
            (te := tTup (tCons (tOp (rI0 fun i j => .int (i + j)) (tOp (rI0 fun i j => .int (i + j)) (tC (.int 1)) (tCall spDraw [] E0 (tCons (tVar 0) (tCons (tC (.int 6)) tNil)))) (tOp (rI CMulW fun i j => .int (i * j)) (tC (.int 7)) (tVar 9))) (tCons (tVar 6) tNil)))
            (fun _ _ _ _ _ => by exact (pe_tup (by exact (pa_cons (pe_op op_add (pe_op op_add pe_int (pe_cl CD hr (by decide) (by rfl) (by exact (pa_cons (pv 0) (pa_cons (pe_int) pa_nil))))) (pe_op op_mulW pe_int (pv 9))) (pa_cons (pv 6) pa_nil))))))
        (pss_one (ps_expr (pe_bm PySem.F.plainAttrs_list PySem.F.slot_list_extend PySem.F.type_list_extend mt_extend (pv 3) (pa_cons (pe_lc (own := [("far", 10)]) (g := gName 10) (by rfl) scRR.nd (pi_list (pv 7))
            (blkOk_by (own := [("far", 10)]) (N := ["bag", "spot", "centre", "due", "x", "y", "size", "row", "told", "turn_v", "far"]) (sc := defScope sRR) (by decide +kernel))
            (fun _ _ _ _ _ => pg_name (i := 10) scRR.nd rfl (Or.inl rfl)) (fun _ _ _ _ _ => pts_nil)
            (te := tCall spPoint [] E0 (tCons (tOp (rI0 fun i j => .int (i + j)) (tOp (rI CMulW fun i j => .int (i * j)) (tOp (rIxL K) (tVar 1) (tC (.int 0))) (tOp (rIxT K) (tVar 10) (tC (.int 1)))) (tOp (rI CMulW fun i j => .int (i * j)) (tOp (rI CMulW fun i j => .int (i * j)) (tOp (rIxT K) (tVar 10) (tC (.int 0))) (tVar 4)) (tOp (rIxL K) (tVar 1) (tC (.int 2)))))
              (tCons (tOp (rI0 fun i j => .int (i + j)) (tOp (rI CMulW fun i j => .int (i * j)) (tOp (rIxL K) (tVar 1) (tC (.int 1))) (tOp (rIxT K) (tVar 10) (tC (.int 1)))) (tOp (rI CMulW fun i j => .int (i * j)) (tOp (rI CMulW fun i j => .int (i * j)) (tOp (rIxT K) (tVar 10) (tC (.int 0))) (tVar 5)) (tOp (rIxL K) (tVar 1) (tC (.int 2)))))
              (tCons (tOp (rI CMulW fun i j => .int (i * j)) (tOp (rIxL K) (tVar 1) (tC (.int 2))) (tOp (rIxT K) (tVar 10) (tC (.int 1)))) tNil))))
            (fun _ _ _ _ _ => by exact (pe_cl CT hr (by decide) (by rfl) (by exact (pa_cons (pe_op op_add (pe_op op_mulW (pe_ix ix_list (pv 1) pe_int (fun _ _ => rfl)) (pe_ix ix_tup (pv 10) pe_int (fun _ _ => rfl))) (pe_op op_mulW (pe_op op_mulW (pe_ix ix_tup (pv 10) pe_int (fun _ _ => rfl)) (pv 4)) (pe_ix ix_list (pv 1) pe_int (fun _ _ => rfl)))) (pa_cons (pe_op op_add (pe_op op_mulW (pe_ix ix_list (pv 1) pe_int (fun _ _ => rfl)) (pe_ix ix_tup (pv 10) pe_int (fun _ _ => rfl))) (pe_op op_mulW (pe_op op_mulW (pe_ix ix_tup (pv 10) pe_int (fun _ _ => rfl)) (pv 5)) (pe_ix ix_list (pv 1) pe_int (fun _ _ => rfl)))) (pa_cons (pe_op op_mulW (pe_ix ix_list (pv 1) pe_int (fun _ _ => rfl)) (pe_ix ix_tup (pv 10) pe_int (fun _ _ => rfl))) pa_nil))))))) pa_nil)))))))
      (pss_cons (ps_set (i := 8) scRR.nd rfl (Or.inl rfl) (pe_cl CH hr (by decide) (by rfl) (pa_cons (pv 0) (pa_cons (pe_op op_cat (pv 3) (pe_slice sl_list (pv 3) po_none (po_some (pe_cl CD hr (by decide) (by rfl) (pa_cons (pv 0) (pa_cons (pe_int) pa_nil)))))) pa_nil))))
      (pss_cons (ps_if (pt_cmpR (op_neD hu) (pe_clX CS hr (by decide) (by rfl) (pa_cons (pv 2) (pa_cons (pe_callTy call_tuple_of (by rfl) T3.tuple (by decide +kernel) (pa_cons (pv 8) pa_nil)) pa_nil))) (pe_callTy call_tuple_of (by rfl) T3.tuple (by decide +kernel) (pa_cons (pv 3) pa_nil)) (nomark _)) (pss_one (ps_ret pe_bl)) pss_nil)
      (pss_one (ps_ret (pe_and (pe_cmpR op_eq (pe_cl CR hr (by decide) (by rfl) (pa_cons (pv 2) (pa_cons (pe_callTy call_tuple_of (by rfl) T3.tuple (by decide +kernel) (pa_cons (pe_op op_cat (pv 8) (pe_lst (pa_cons (pv 2) pa_nil))) pa_nil)) pa_nil))) pe_str (nomark _)) (pe_one (pe_cmpR op_eq (pe_cl CR hr (by decide) (by rfl) (pa_cons (pv 2) (pa_cons (pv 8) pa_nil))) pe_str (nomark _)))))))))), ?_⟩
    have w0 : 0 < W := by omega
    have bC : B3 1000 (low X Y W) := by
      have z := B3.low bX bY bW
      exact ⟨z.x.le (by decide), z.y.le (by decide), z.w.le (by decide)⟩
    refine q_parPL (ept_pnt (ev_ixL (ev_var rfl) hsp rfl) (ev_ixL (ev_var rfl) hsp rfl) (ev_ixL (ev_var rfl) hsp rfl) w0 (bW.le (by decide)) bC) fun ce L H1 e1 hce hL1 hL0 => ?_
    have gb1 := bag_ex e1 hb
    have nLp : L ≠ p := ne_bag hb hL0
    refine ⟨_, rfl, ?_⟩
    refine (eb_draw (p := p) (i := 0) (N := 9) rfl (eb_c ⟨by decide, by decide, log_of (by decide)⟩)) H1 gb1.bag _ fun n H2 hn g2 => ?_
    refine ⟨p, n, rfl, g2.bag, hn.1, by omega, fun l ts ds H3 g3 nlp hl0 hl pr wy dl => ⟨l, rfl, ⟨_, SqL.of hl⟩, for_list (xs := ts.map V.ref) (fun i σ' H' => ∃ (ls : List Addr) (ps : List P3) (r4 r5 r6 r7 r8 r9 r10 : Option V), σ' = [some (.ref p), some (.ref sp), some (.ref ce), some (.ref L), r4, r5, r6, r7, r8, r9, r10] ∧ Bgd p H H' ∧ PtA H' ce (low X Y W) ∧ H' l = some (.lst (ts.map V.ref)) ∧ PrA H' ts ds ∧ H' L = some (.lst (ls.map V.ref)) ∧ PtsA H' ls ps ∧ Rnd ⟨X, Y, W⟩ ds i ps) ?h0 ?hl ?hs ?hd⟩⟩
    case h0 =>
      have hce3 := (g2.trans g3).tup gb1.bag _ _ hce.h
      exact ⟨[], [], none, none, none, none, none, none, none, rfl, (gb1.trans g2).trans g3, ⟨hce3, hce.pt, hce.b⟩, hl, pr, (g2.trans g3).keep _ _ nLp hL1, .nil, Rnd.nil⟩
    case hl =>
      rintro i σ' H' _ ⟨ls, ps, r4, r5, r6, r7, r8, r9, r10, rfl, g, c1, l1, _⟩
      exact SqL.of l1
    case hs =>
      rintro i x σ' H' hx ⟨ls, ps, r4, r5, r6, r7, r8, r9, r10, rfl, g, c1, l1, pr1, L1, pt1, rn⟩
      rw [List.getElem?_map] at hx
      obtain ⟨t, ht, rfl⟩ := Option.map_eq_some_iff.mp hx
      have hi : i < ds.length := by
        have := (List.getElem?_eq_some_iff.mp ht).1
        have := pr.len
        omega
      obtain ⟨t', ht', htd⟩ := pr1.at hi
      rw [ht] at ht'
      cases ht'
      have hdi : ds[i]? = some (ds.getD i (0, 0)) := by rw [List.getD_eq_getElem?_getD, List.getElem?_eq_getElem hi]; rfl
      generalize ds.getD i (0, 0) = d at htd hdi
      have hdm : d ∈ ds := List.mem_of_getElem? hdi
      obtain ⟨⟨rr, edr, gd⟩, wb⟩ := wy
      have bd := wb d hdm
      have nzd : nzD d := good_nz gd d (edr ▸ hdm)
      have pwd : ds.Pairwise dlt := by rw [edr]; exact good_pw gd
      have len := rn.len
      have h0s := g.bag
      refine ⟨t, _, rfl, SqT.of htd, rfl, _, _, rfl, _, _, rfl, rfl, ?_⟩
      refine q_asgB (p := p) (R := fun z => 1 ≤ z ∧ z ≤ 5) (eb_op (g := fun i j => i + j) (R := fun n => n = 1) (eb_c rfl) (eb_draw (N := 5) rfl (eb_c ⟨by decide, by decide, log_of (by decide)⟩)) (fun m n hm hn => by
        subst hm
        exact ⟨by omega, by omega⟩)) g.bag fun z H4 rz g4 => ?_
      refine q_asgQ (lc_row rfl rfl g4.bag rz.1 rz.2 (fun _ => rfl) (fun _ => rfl) (fun _ => rfl) (fun _ => rfl) fun r rs fs H5 hr0 g5 hr5 pr5 row => ?_)
      have g45 := g4.trans g5
      have gA := g.trans g45
      have hsp5 := gA.keep _ _ hne hsp
      have nlL : l ≠ L := by
        intro z
        rw [z, L1] at l1
        have := hl0
        rw [z] at this
        rw [g2.keep _ _ nLp hL1] at this
        cases this
      have L5 := g45.keep _ _ nLp L1
      have l5 := g45.keep _ _ nlp l1
      have tp5 := g45.tup g.bag
      have fl := row.len
      have prl := pr5.len
      refine ⟨_, rfl, .inl ⟨rfl, _, SqL.of L5⟩, ?_⟩
      refine lc_pts (p := r) (pts := fs.map (farP ⟨X, Y, W⟩ d)) (ev_var rfl) (SqL.of hr5) (by rw [List.length_map, List.length_map, prl]) (by rw [List.length_map]; omega) (fun _ => rfl) (fun m y q H6 e6 hy hq => ?_) fun Dl H6 ls2 e6 hD len2 hpt => ?_
      · rw [List.getElem?_map] at hy hq
        obtain ⟨a, ha, rfl⟩ := Option.map_eq_some_iff.mp hy
        obtain ⟨f, hf, rfl⟩ := Option.map_eq_some_iff.mp hq
        have hm : m < fs.length := (List.getElem?_eq_some_iff.mp hf).1
        obtain ⟨a', ha', haf⟩ := pr5.at hm
        rw [ha] at ha'
        cases ha'
        rw [show fs.getD m (0, 0) = f from getD_at hf] at haf
        have haf6 := e6 _ _ haf
        have hsp6 := e6 _ _ hsp5
        obtain ⟨b1, b2, b3, b4⟩ := row.b f (List.mem_of_getElem? hf)
        have f1 : Bd 5 f.1 := ⟨Nat.lt_of_le_of_lt (show _ ≤ 13 by omega) (by decide)⟩
        have f2 : Bd 5 f.2 := ⟨Nat.lt_of_le_of_lt (show _ ≤ 13 by omega) (by decide)⟩
        obtain ⟨c1', c2', c3', c4'⟩ := far_bd bX bY bW bd.1 bd.2 f1 f2
        refine ept_pnt (x := X * f.2 + f.1 * d.1 * W) (y := Y * f.2 + f.1 * d.2 * W) (w := W * f.2) ?_ ?_ ?_ (Int.mul_pos w0 (by omega)) (c3'.le (by decide)) c4'
        · exact ev_op (ev_op (ev_ixL (ev_var rfl) hsp6 rfl) (ev_ixT (ev_var rfl) haf6 rfl) (rv_I (bX.mw f2 (by decide)))) (ev_op (ev_op (ev_ixT (ev_var rfl) haf6 rfl) (ev_var rfl) (rv_I (f1.mw bd.1 (by decide)))) (ev_ixL (ev_var rfl) hsp6 rfl) (rv_I ((f1.mul bd.1).mw bW (by decide)))) rv_I0
        · exact ev_op (ev_op (ev_ixL (ev_var rfl) hsp6 rfl) (ev_ixT (ev_var rfl) haf6 rfl) (rv_I (bY.mw f2 (by decide)))) (ev_op (ev_op (ev_ixT (ev_var rfl) haf6 rfl) (ev_var rfl) (rv_I (f1.mw bd.2 (by decide)))) (ev_ixL (ev_var rfl) hsp6 rfl) (rv_I ((f1.mul bd.2).mw bW (by decide)))) rv_I0
        · exact ev_op (ev_ixL (ev_var rfl) hsp6 rfl) (ev_ixT (ev_var rfl) haf6 rfl) (rv_I (bW.mw f2 (by decide)))
      · have L6 := e6 _ _ L5
        have pts2 := pts_of len2 hpt
        have ptl := pt1.len
        rw [List.length_map] at len2
        have i12 : i < 12 := by omega
        refine ⟨L, Dl, ls.map V.ref, ls2.map V.ref, rfl, rfl, L6, hD, sz_of (by rw [List.length_map, List.length_map]; omega), ?_⟩
        have g6 := gA.trans (bag_ex e6 gA.bag)
        have kp := lst_tup (ys := ls.map V.ref ++ ls2.map V.ref) L6
        have te6 : ∀ a xs, H5 a = some (.tup xs) → H6 a = some (.tup xs) := fun a xs => e6 a _
        refine ⟨ls ++ ls2, ps ++ fs.map (farP ⟨X, Y, W⟩ d), _, _, _, _, _, _, _, rfl, g6.old hL0 nLp, ⟨kp _ _ (te6 _ _ (tp5 _ _ c1.h)), c1.pt, c1.b⟩, ?_, ((pr1.by tp5).by te6).by kp, ?_, (((pt1.by tp5).by te6).app pts2).by kp, rn.step hW hdi pwd nzd row⟩
        · rw [upd_ne nlL]
          exact e6 _ _ l5
        · rw [upd_same, List.map_append]
    case hd =>
      rintro σ' H' ⟨ls, ps, r4, r5, r6, r7, r8, r9, r10, rfl, g, c1, l1, pr1, L1, pt1, rn⟩
      have len := rn.len
      rw [List.length_map, pr.len] at len
      have nzs : ∀ d ∈ ds, nzD d := by
        obtain ⟨⟨rr, edr, gd⟩, _⟩ := wy
        rw [edr]
        exact good_nz gd
      have off : low X Y W ∉ ps := rn.off hW nzs
      have ptl := pt1.len
      refine q_told2 rfl rfl g.bag nLp L1 pt1 (by omega) fun tl us qs H5 htl0 g5 htl pq mem ql => ?_
      have c5 : PtA H5 ce (low X Y W) := ⟨g5.tup g.bag _ _ c1.h, c1.pt, c1.b⟩
      have L5 := g5.keep _ _ nLp L1
      have pt5 := pt1.by (g5.tup g.bag)
      refine q_not (et_nePs (ep_sr (CP := CP) (CO := CO) (due := ps) (ept_var rfl c5) (ep_ofU (eu_tupV (ev_var rfl) htl) pq) (fun z => off ((mem _).mp z)) (by omega) rn.nodup (fun x => (mem x).symm) rn.pw) (ep_ofU (eu_tupV (ev_var rfl) L5) pt5)) fun H6 e6 => ?_
      have c6 := pt_mono e6 c5
      have tl6 := e6 _ _ htl
      have eU : ∀ (uss : List Addr), us.map V.ref ++ [V.ref ce] = (us ++ [ce]).map V.ref := fun _ => by rw [List.map_append]; rfl
      refine s_ret (ev_is (ev_andV (ev_eqS (ev_rfl_op (CP := CP) (CO := CO) (ept_var rfl c6) (ep_ofU (ls := us ++ [ce]) (eu_tupL ?_) ((pq.mono e6).app (.cons c6 .nil))) (by simp) (by rw [List.length_append, List.length_singleton]; omega))) fun _ => ev_eqS (ev_rfl_lst (CP := CP) (CO := CO) (ept_var rfl c6) (ev_var rfl) tl6)) rfl) fun H7 e7 => k H7 ((g.trans g5).trans (bag_ex (e6.trans e7) (g.trans g5).bag))
      rw [← eU us]
      have ul := pq.len
      exact el_cat (ev_var rfl) tl6 (el_lst (ea_cons (ev_var rfl) ea_nil) (by show 1 ≤ 100000; decide)) (by rw [List.length_map]; show us.length + 1 ≤ 100000; omega)
end
end Q
set_option Elab.async false
set_option linter.all false
set_option maxRecDepth 100000
set_option maxHeartbeats 4000000
/-! the law -/
namespace Q
open PySem L2 PySem.Spec PyProof.Rows PySem.Calls
open PM Evl
abbrev sLaw : Stmt := top 48
theorem FrA.bgd {p a s o t : Addr} {φ : Fr} {H H' : Hp} (x : FrA H a s o t φ) (n1 : a ≠ p) (n2 : s ≠ p) (n3 : o ≠ p) (n4 : t ≠ p) (g : Bgd p H H') : FrA H' a s o t φ := ⟨g.keep _ _ n1 x.a, g.keep _ _ n2 x.s, g.keep _ _ n3 x.o, g.keep _ _ n4 x.t, x.b⟩
section
variable {K : PySem.W.Frag} {σ : L2.St} {H : Hp} {E : XK} {CP CO : Addr}
theorem pt001 : Pt ⟨0, 0, 1⟩ ∧ B3 1000 ⟨0, 0, 1⟩ := ⟨⟨by decide, by decide +kernel⟩, ⟨⟨by show (0 : Int).natAbs < 2 ^ 1000; decide +kernel⟩, ⟨by show (0 : Int).natAbs < 2 ^ 1000; decide +kernel⟩, ⟨by show (1 : Int).natAbs < 2 ^ 1000; decide +kernel⟩⟩⟩
theorem no222 {H : Hp} {a : Addr} {x y z : Int} (h : H a = some (.tup [.int x, .int y, .int z])) (n : (decide (1 ≤ z) && decide (gc x y z = 1)) = false) : Pv H (.ref a) false := by
  have w := Pv.int3 (p := ⟨x, y, z⟩) h
  rw [show (decide (1 ≤ (P3.mk x y z).w) && decide (gc (P3.mk x y z).x (P3.mk x y z).y (P3.mk x y z).w = 1)) = false from n] at w
  exact w
def EvX (te : TE) (σ : L2.St) (H : Hp) : Prop := ∀ H1, Ex H H1 → ∀ Q : VK, (∀ v H2, Ex H1 H2 → Q v H2) → te σ H1 Q
def EvTp (te : TE) (σ : L2.St) (H : Hp) : Prop := ∀ H1, Ex H H1 → ∀ Q : VK, (∀ tt a b H2, Ex H1 H2 → H2 tt = some (.tup [.ref a, .ref b]) → Pv H2 (.ref a) true → Pv H2 (.ref b) false → Q (.ref tt) H2) → te σ H1 Q
theorem ev_rfl_cen {ta tb : TE} (h1 : EvU ta σ H [.int 0, .int 0, .int 2]) (h2 : EvX tb σ H) : Ev (tCall (spRfl CP CO) [] E (tCons ta (tCons tb tNil))) σ H (.str "point") := fun H1 e Q q =>
  h1 H1 e _ fun c H2 _ e2 hc => h2 H2 (e.trans e2) _ fun t H3 e3 => ⟨_, _, _, rfl, .cen (no222 (e3 _ _ hc) (by decide +kernel)) fun H4 e4 => ⟨.inr ⟨rfl, rfl⟩, e4⟩, fun H4 e4 => q H4 ((e2.trans e3).trans e4)⟩
theorem ev_rfl_bad {ta tb : TE} (h1 : EvU ta σ H [.int 0, .int 0, .int 1]) (h2 : EvTp tb σ H) : Ev (tCall (spRfl CP CO) [] E (tCons ta (tCons tb tNil))) σ H (.str "point") := fun H1 e Q q =>
  h1 H1 e _ fun c H2 _ e2 hc => h2 H2 (e.trans e2) _ fun t a b H3 e3 ht va vb => ⟨_, _, _, rfl, .bad (p0 := ⟨0, 0, 1⟩) (pre := [.ref a]) (bad := .ref b) (post := []) ⟨e3 _ _ hc, pt001.1, pt001.2⟩ ht (fun v hv => by
      rw [List.mem_singleton.mp hv]
      exact va) vb (by show 2 ≤ 1000; decide) fun H5 e5 => ⟨.inr ⟨rfl, rfl⟩, e5⟩, fun H5 e5 => q H5 ((e2.trans e3).trans e5)⟩
theorem ex_t1 {ta : TE} {xs : List V} (h : EvU ta σ H xs) : EvX (tTup (tCons ta tNil)) σ H := fun H1 e Q q => h H1 e _ fun c H2 _ e2 hc => ⟨(by show 1 ≤ sizeLine; decide), fun tt htt => q _ _ (e2.trans (Ex.new htt))⟩
theorem tp_t2 {ta tb : TE} (h1 : EvU ta σ H [.int 0, .int 0, .int 1]) (h2 : EvU tb σ H [.int 2, .int 2, .int 2]) : EvTp (tTup (tCons ta (tCons tb tNil))) σ H := fun H1 e Q q =>
  h1 H1 e _ fun a H2 _ e2 ha => h2 H2 (e.trans e2) _ fun b H3 _ e3 hb => ⟨(by show 2 ≤ sizeLine; decide), fun tt htt => by
    have eN := Ex.new (o := .tup [.ref a, .ref b]) htt
    exact q tt a b _ ((e2.trans e3).trans eN) upd_same (Pv.pt (p := ⟨0, 0, 1⟩) (eN _ _ (e3 _ _ ha)) pt001.1) (no222 (eN _ _ hb) (by decide +kernel))⟩
theorem eu_i3 {a b c : Int} : EvU (tTup (tCons (tC (.int a)) (tCons (tC (.int b)) (tCons (tC (.int c)) tNil)))) σ H [.int a, .int b, .int c] := eu_tup (ea_cons ev_c (ea_cons ev_c (ea_cons ev_c ea_nil))) (by show 3 ≤ 100000; decide)
theorem et_neS {te : TE} {wd : Str} (h : Ev te σ H (.str wd)) : EvT (tTest (tOp rNe te (tC (.str wd)))) σ H false := et_is (et_test (ev_op h ev_c (rv_ne rfl))) (by rw [decide_eq_true rfl]; rfl)
end
def spLaw (K : PySem.W.Frag) : Sp := fun vs H Q _ => ∃ (a : Addr) (ns : List Int), vs = [.ref a] ∧ SqL K H a (ns.map V.int) ∧ ns.length ≤ 63 ∧ ∀ H', Q (.bl true) H'
section
variable {P : Program} {w : World} {K : PySem.W.Frag} {mg : Str → Option Value} {base : Heap}
theorem scL : FnScope ["script", "at", "bag", "frame", "over", "reach", "side"] ["script"] (defScope sLaw) := ⟨rfl, rfl, rfl, by decide +kernel, rfl, by decide +kernel, by decide +kernel⟩
theorem ok_law {f CP CO : Addr} {fd : FuncData} (F : Fun K "law" "law" sLaw f fd) (T : TL mg) (CB : Cl P w K mg base 1 "_law_bag" (spBag K)) (CD : Cl P w K mg base 1 "_law_draw" spDraw) (CN : Cl P w K mg base 2 "_law_one_of" spOne) (CF : Cl P w K mg base 3 "_law_frame" spFrame) (CS : Cl P w K mg base 2 "_law_span" spSpan)
    (CX : Cl P w K mg base 7 "_law_cross_right" spCR) (CL : Cl P w K mg base 7 "_law_line_right" spLR) (CQ : Cl P w K mg base 6 "_law_round_right" spRR) (CR : Cl P w K mg base 5 "_law_refusal" (spRfl CP CO)) : FnOk P w K mg base CX0 8 f fd ["script"] (spLaw K) := by
  refine F.ok scL (fun vs H Q E h => ?_) (fun cdv A outer s H0 vs Q E hr h => ?_)
  · obtain ⟨a, ns, rfl, _⟩ := h
    rfl
  · obtain ⟨sa, ns, rfl, hS, hlen, k⟩ := h
    have hu := hr.units
    refine ⟨_, pss_cons (ps_for PassesOwn.never rfl
        (pi_range1 rfl T.range (pa_cons (pe_callB (call_max2 rfl) (by rfl) T.max (by decide +kernel) (pa_cons (pe_int) (pa_cons (pe_callB (call_min2 rfl) (by rfl) T.min (by decide +kernel) (pa_cons (pe_int) (pa_cons (pe_callB call_len_seq (by rfl) T.len PySem.boot_len (pa_cons (pv 0) pa_nil)) pa_nil))) pa_nil))) pa_nil))
        (pg_name (i := 1) scL.nd rfl (Or.inl rfl))
        (Evl.pss_cut (ps_set (i := 2) scL.nd rfl (Or.inl rfl) (pe_cl CB hr (by decide) (by rfl) (pa_cons (pv 0) (pa_cons (pv 1) pa_nil))))
        (Evl.pss_cut (ps_par3 (i := 3) (j := 4) (l := 5) (by rfl) scL.nd rfl rfl rfl (by decide) (by decide) (by decide) rfl rfl rfl (pa_cons (pe_cl CF hr (by decide) (by rfl) (pa_cons (pv 2) pa_nil)) (pa_cons (pe_op op_add pe_int (pe_cl CD hr (by decide) (by rfl) (pa_cons (pv 2) (pa_cons (pe_int) pa_nil)))) (pa_cons (pe_cl CN hr (by decide) (by rfl) (pa_cons (pv 2) (pa_cons (pe_lst (pa_cons (pe_int) (pa_cons (pe_int) (pa_cons (pe_int) (pa_cons (pe_int) (pa_cons (pe_op op_powW pe_int pe_int) pa_nil)))))) pa_nil))) pa_nil))) (by rfl))
        (pss_cons (ps_if (pt_not (pt_val (pe_cl CX hr (by decide) (by rfl) (pa_cons (pv 3) (pa_cons (pe_cl CS hr (by decide) (by rfl) (pa_cons (pv 2) (pa_cons (pv 5) pa_nil))) (pa_cons (pe_cl CS hr (by decide) (by rfl) (pa_cons (pv 2) (pa_cons (pv 5) pa_nil))) (pa_cons (pv 4) pa_nil))))))) (pss_one (ps_ret pe_bl)) pss_nil)
        (pss_cons (ps_set (i := 6) scL.nd rfl (Or.inl rfl) (pe_cl CN hr (by decide) (by rfl) (pa_cons (pv 2) (pa_cons (pe_lst (pa_cons (pe_int) (pa_cons (pe_int) (pa_cons (pe_int) (pa_cons (pe_un un_neg pe_int) pa_nil))))) pa_nil))))
        (pss_cons (ps_if (pt_not (pt_val (pe_cl CL hr (by decide) (by rfl) (pa_cons (pv 3) (pa_cons (pe_cl CS hr (by decide) (by rfl) (pa_cons (pv 2) (pa_cons (pv 5) pa_nil))) (pa_cons (pe_cl CS hr (by decide) (by rfl) (pa_cons (pv 2) (pa_cons (pv 5) pa_nil))) (pa_cons (pv 6) (pa_cons (pv 4) pa_nil)))))))) (pss_one (ps_ret pe_bl)) pss_nil)
        (pss_cons (ps_if (pt_not (pt_val (pe_cl CQ hr (by decide) (by rfl) (pa_cons (pv 2) (pa_cons ((pe_ix ix_tup (pv 3) pe_int (fun _ _ => rfl))) pa_nil))))) (pss_one (ps_ret pe_bl)) pss_nil)
        (pss_one (ps_if (pw_or (pt_cmpR op_ne (pe_cl CR hr (by decide) (by rfl) (pa_cons (pe_tup (pa_cons (pe_int) (pa_cons (pe_int) (pa_cons (pe_int) pa_nil)))) (pa_cons (pe_tup (pa_cons (pe_tup (pa_cons (pe_int) (pa_cons (pe_int) (pa_cons (pe_int) pa_nil)))) pa_nil)) pa_nil))) pe_str (nomark _)) (pw_or1 (pt_cmpR op_ne (pe_cl CR hr (by decide) (by rfl) (pa_cons (pe_tup (pa_cons (pe_int) (pa_cons (pe_int) (pa_cons (pe_int) pa_nil)))) (pa_cons (pe_tup (pa_cons (pe_tup (pa_cons (pe_int) (pa_cons (pe_int) (pa_cons (pe_int) pa_nil)))) (pa_cons (pe_tup (pa_cons (pe_int) (pa_cons (pe_int) (pa_cons (pe_int) pa_nil)))) pa_nil))) pa_nil))) pe_str (nomark _)))).pt (pss_one (ps_ret pe_bl)) pss_nil)))))))))
      (pss_one (ps_ret pe_bl)), ?_⟩
    refine ⟨_, rfl, sa, _, rfl, .inl hS, _, _, rfl, _, _, rfl, _, rfl, ?b1, ?b2, for_range (lo := 0) (n := _) (fun i σ H' => Same H0 H' ∧ ∃ r1 r2 r3 r4 r5 r6 : Option V, σ = [some (.ref sa), r1, r2, r3, r4, r5, r6]) ?h0 ?hs ?hd⟩
    case b1 => split <;> split <;> omega
    case b2 => split <;> split <;> omega
    case h0 => exact ⟨Same.refl H0, _, _, _, _, _, _, rfl⟩
    case hd => exact fun σ H' _ => k _
    case hs =>
      rintro i σ H1 hi ⟨s1, r1, r2, r3, r4, r5, r6, rfl⟩
      have hi2 : i < 1000 := by
        have hn : ∀ x : Int, (if (if x < 4 then x else 4) > 1 then (if x < 4 then x else 4) else 1).toNat ≤ 4 := fun x => by split <;> split <;> omega
        exact Nat.lt_of_lt_of_le hi (Nat.le_trans (hn _) (by decide))
      rw [show (0 : Int) + (i : Int) = (i : Int) from Int.zero_add _]
      refine q_cut (M := fun σ' H' => ∃ p, Same H0 H' ∧ H0 p = none ∧ (∃ a b c : Int, H' p = some (.lst [.int a, .int b, .int c])) ∧ σ' = [some (.ref sa), some (.int i), some (.ref p), r3, r4, r5, r6]) ?_ ?_
      · exact ⟨_, rfl, _, rfl, sa, ns, i, rfl, s1.seq hS, hi2, fun p H2 hp sm hb => ⟨p, s1.trans sm, s1.free hp, hb, rfl⟩⟩
      rintro σ2 H2 ⟨p, s2, n0, hb2, rfl⟩
      refine q_cut (M := fun σ' H' => ∃ (fr s o t : Addr) (φ : Fr) (ov rc : Int), FrA H' fr s o t φ ∧ fr ≠ p ∧ s ≠ p ∧ o ≠ p ∧ t ≠ p ∧ Bgd p H2 H' ∧ (1 ≤ ov ∧ ov ≤ 5) ∧ (1 ≤ rc ∧ rc ≤ 10 ^ 9) ∧ σ' = [some (.ref sa), some (.int i), some (.ref p), some (.ref fr), some (.int ov), some (.int rc), r6]) ?_ ?_
      · have eO : EvB p (tOp (rI0 fun i j => .int (i + j)) (tC (.int 1)) (tCall spDraw [] E0 (tCons (tVar 2) (tCons (tC (.int 5)) tNil)))) [some (.ref sa), some (.int i), some (.ref p), r3, r4, r5, r6] (fun n => 1 ≤ n ∧ n ≤ 5) :=
          eb_op (g := fun i j => i + j) (R := fun n => n = 1) (eb_c rfl) (eb_draw (N := 5) rfl (eb_c ⟨by decide, by decide, log_of (by decide)⟩)) (fun m n hm hn => by
            subst hm
            exact ⟨by omega, by omega⟩)
        have eR : EvB p (tCall spOne [] E0 (tCons (tVar 2) (tCons (tLst (tCons (tC (.int 1)) (tCons (tC (.int 2)) (tCons (tC (.int 3)) (tCons (tC (.int 50)) (tCons (tOp (rI CPowW fun i j => .int (i ^ j.toNat)) (tC (.int 10)) (tC (.int 9))) tNil)))))) tNil))) [some (.ref sa), some (.int i), some (.ref p), r3, r4, r5, r6] (fun n => 1 ≤ n ∧ n ≤ 10 ^ 9) :=
          eb_one (xs := [1, 2, 3, 50, 10 ^ 9]) rfl (fun H1 => va_cons val_c (va_cons val_c (va_cons val_c (va_cons val_c (va_cons (val_op val_c val_c fun Q q => ⟨_, _, rfl, rfl, ⟨by decide, by decide +kernel⟩, q⟩) va_nil))))) (by decide) (by decide) (by decide)
        refine ⟨_, rfl, p, rfl, hb2, fun fr s o t φ H3 hf n1 n2 n3 n4 g3 => ?_⟩
        refine eO H3 g3.bag _ fun ov H4 rO g4 => eR H4 g4.bag _ fun rc H5 rR g5 => ⟨_, _, _, rfl, fr, s, o, t, φ, ov, rc, hf.bgd n1 n2 n3 n4 (g4.trans g5), n1, n2, n3, n4, (g3.trans g4).trans g5, rO, rR, rfl⟩
      rintro σ3 H3 ⟨fr, s, o, t, φ, ov, rc, hf, n1, n2, n3, n4, g3, rO, rR, rfl⟩
      have bI : ∀ {n : Int}, InS rc n → Bd 80 n := fun h => ⟨by
        obtain ⟨x, y⟩ := h
        exact Nat.lt_of_le_of_lt (show _ ≤ 10 ^ 9 by omega) (by decide)⟩
      have bv : Bd 10 ov := ⟨Nat.lt_of_le_of_lt (show _ ≤ 6 by omega) (by decide)⟩
      refine ⟨_, rfl, _, rfl, _, rfl, p, rc, rfl, g3.bag, rR.1, rR.2, fun x a b H4 ia ib g4 nx hx0 hx => ⟨_, rfl, _, rfl, p, rc, rfl, g4.bag, rR.1, rR.2, fun y c d H5 ic id' g5 ny hy0 hy => ?_⟩⟩
      have hf5 := hf.bgd n1 n2 n3 n4 (g4.trans g5)
      refine ⟨_, rfl, fr, s, o, t, x, y, φ, a, b, c, d, ov, rfl, hf5, g5.keep _ _ nx hx, hy, bI ia, bI ib, bI ic, bI id', bv, rO.1, fun H6 e6 => ⟨true, rfl, ite2 (fun z => absurd z (by decide)) fun _ => ?_⟩⟩
      have g6 := (g4.trans g5).trans (bag_ex e6 g5.bag)
      have hf6 := fr_mono e6 hf5
      refine q_asgB (p := p) (R := fun n => -2 ≤ n ∧ n ≤ 1) (eb_one (xs := [0, 0, 1, -2]) rfl (fun H1 => va_cons val_c (va_cons val_c (va_cons val_c (va_cons val_neg va_nil)))) (by decide) (by decide) (by decide)) g6.bag fun sd H7 rs g7 => ?_
      have bs : Bd 80 sd := ⟨Nat.lt_of_le_of_lt (show _ ≤ 6 by omega) (by decide)⟩
      refine ⟨_, rfl, _, rfl, _, rfl, p, rc, rfl, g7.bag, rR.1, rR.2, fun x a b H8 ia ib g8 nx hx0 hx => ⟨_, rfl, _, rfl, p, rc, rfl, g8.bag, rR.1, rR.2, fun y c d H9 ic id' g9 ny hy0 hy => ?_⟩⟩
      have g79 := (g7.trans g8).trans g9
      have hf9 := hf6.bgd n1 n2 n3 n4 g79
      refine ⟨_, rfl, _, rfl, fr, s, o, t, x, y, φ, a, b, c, d, sd, ov, rfl, hf9, g9.keep _ _ nx hx, hy, bI ia, bI ib, bI ic, bI id', bs, bv, rO.1, fun H10 e10 => ⟨true, rfl, ite2 (fun z => absurd z (by decide)) fun _ => ?_⟩⟩
      have g10 := (g6.trans g79).trans (bag_ex e10 g9.bag)
      have hf10 := fr_mono e10 hf9
      refine ⟨_, rfl, ?_⟩
      refine (ev_ixT (ev_var rfl) hf10.a rfl) H10 (Ex.refl _) _ fun H11 e11 => ?_
      have hf11 := fr_mono e11 hf10
      have g11 := g10.trans (bag_ex e11 g10.bag)
      refine ⟨p, s, φ.X, φ.Y, φ.W, rfl, g11.bag, n2, hf11.s, hf.b.X, hf.b.Y, hf.b.W, hf.b.w, fun H12 g12 => ⟨true, rfl, ite2 (fun z => absurd z (by decide)) fun _ => ?_⟩⟩
      refine s_when (b := false) (et_or (et_neS (ev_rfl_cen eu_i3 (ex_t1 eu_i3))) fun _ => et_neS (ev_rfl_bad eu_i3 (tp_t2 eu_i3 eu_i3))) (fun z => nomatch z) fun _ H13 e13 => ?_
      have gAll := ((g3.trans g11).trans g12).trans (bag_ex e13 g12.bag)
      exact ⟨gAll.same s2 n0, _, _, _, _, _, _, rfl⟩
end
end Q
set_option Elab.async false
set_option linter.all false
set_option maxRecDepth 100000
set_option maxHeartbeats 8000000
namespace Q
open PySem L2 PySem.Spec PyProof.Rows PySem.Calls
theorem cls_of {K : PySem.W.Frag} {C : Addr} (h : PySem.W.subIn K (.ref C) (.type "BaseException") = some true) : (PySem.W.clsIn K C).isSome = true := by
  have z : PySem.W.mroIn K C (.type "BaseException") = some true := h
  unfold PySem.W.mroIn at z
  cases q : PySem.W.clsIn K C with
  | none =>
    rw [q] at z
    cases z
  | some _ => rfl
theorem exm_of {K : PySem.W.Frag} {B C : Addr} {b : Bool} (hC : PySem.W.subIn K (.ref C) (.type "BaseException") = some true) (t : PySem.W.typeIn K (.ref C) = some (.type "type")) (m : PySem.W.subIn K (.ref B) (.ref C) = some b) : PySem.W.exmOne K (.ref B) (.ref C) = some b := by
  have hc := cls_of hC
  show (if (PySem.W.subIn K (.ref C) (.type "BaseException") == some true) = true then (if ((PySem.W.clsIn K C).isSome && PySem.W.typeIn K (.ref C) == some (.type "type")) = true then PySem.W.subIn K (.ref B) (.ref C) else none) else none) = _
  rw [hC, if_pos (by rfl), hc, t, if_pos (by simp), m]
theorem all_mk {l : PySem.W.OpenLaw} {w : World} {K : PySem.W.Frag} {h : Heap} {mg : Str → Option Value} {fa : Addr} (XX : K.In h) (GG : h.Ns mainGlobals mg) (hfa : mg "law" = some (.ref fa))
    {cO cP : Addr} {g7 : Addr} {oc7 kV7 dc7 pm7 cd7 ct7 : Value} {od7 an7 : Option Addr} {sl7 : Array (Option Value)} {g8 : Addr} {oc8 kV8 dc8 pm8 cd8 ct8 : Value} {od8 an8 : Option Addr} {sl8 : Array (Option Value)} {g9 : Addr} {oc9 kV9 dc9 pm9 cd9 ct9 : Value} {od9 an9 : Option Addr} {sl9 : Array (Option Value)} {g10 : Addr} {oc10 kV10 dc10 pm10 cd10 ct10 : Value} {od10 an10 : Option Addr} {sl10 : Array (Option Value)} {g11 : Addr} {oc11 kV11 dc11 pm11 cd11 ct11 : Value} {od11 an11 : Option Addr} {sl11 : Array (Option Value)} {g12 : Addr} {oc12 kV12 dc12 pm12 cd12 ct12 : Value} {od12 an12 : Option Addr} {sl12 : Array (Option Value)} {g13 : Addr} {oc13 kV13 dc13 pm13 cd13 ct13 : Value} {od13 an13 : Option Addr} {sl13 : Array (Option Value)} {g14 : Addr} {oc14 kV14 dc14 pm14 cd14 ct14 : Value} {od14 an14 : Option Addr} {sl14 : Array (Option Value)} {g15 : Addr} {oc15 kV15 dc15 pm15 cd15 ct15 : Value} {od15 an15 : Option Addr} {sl15 : Array (Option Value)} {g16 : Addr} {oc16 kV16 dc16 pm16 cd16 ct16 : Value} {od16 an16 : Option Addr} {sl16 : Array (Option Value)} {g18 : Addr} {oc18 kV18 dc18 pm18 cd18 ct18 : Value} {od18 an18 : Option Addr} {sl18 : Array (Option Value)} {g19 : Addr} {oc19 kV19 dc19 pm19 cd19 ct19 : Value} {od19 an19 : Option Addr} {sl19 : Array (Option Value)} {g20 : Addr} {oc20 kV20 dc20 pm20 cd20 ct20 : Value} {od20 an20 : Option Addr} {sl20 : Array (Option Value)} {g22 : Addr} {oc22 kV22 dc22 pm22 cd22 ct22 : Value} {od22 an22 : Option Addr} {sl22 : Array (Option Value)} {g23 : Addr} {oc23 kV23 dc23 pm23 cd23 ct23 : Value} {od23 an23 : Option Addr} {sl23 : Array (Option Value)} {g25 : Addr} {oc25 kV25 dc25 pm25 cd25 ct25 : Value} {od25 an25 : Option Addr} {sl25 : Array (Option Value)} {g26 : Addr} {oc26 kV26 dc26 pm26 cd26 ct26 : Value} {od26 an26 : Option Addr} {sl26 : Array (Option Value)} {g27 : Addr} {oc27 kV27 dc27 pm27 cd27 ct27 : Value} {od27 an27 : Option Addr} {sl27 : Array (Option Value)} {g28 : Addr} {oc28 kV28 dc28 pm28 cd28 ct28 : Value} {od28 an28 : Option Addr} {sl28 : Array (Option Value)} {g29 : Addr} {oc29 kV29 dc29 pm29 cd29 ct29 : Value} {od29 an29 : Option Addr} {sl29 : Array (Option Value)} {g30 : Addr} {oc30 kV30 dc30 pm30 cd30 ct30 : Value} {od30 an30 : Option Addr} {sl30 : Array (Option Value)} {g32 : Addr} {oc32 kV32 dc32 pm32 cd32 ct32 : Value} {od32 an32 : Option Addr} {sl32 : Array (Option Value)} {g33 : Addr} {oc33 kV33 dc33 pm33 cd33 ct33 : Value} {od33 an33 : Option Addr} {sl33 : Array (Option Value)} {g34 : Addr} {oc34 kV34 dc34 pm34 cd34 ct34 : Value} {od34 an34 : Option Addr} {sl34 : Array (Option Value)} {g35 : Addr} {oc35 kV35 dc35 pm35 cd35 ct35 : Value} {od35 an35 : Option Addr} {sl35 : Array (Option Value)} {g36 : Addr} {oc36 kV36 dc36 pm36 cd36 ct36 : Value} {od36 an36 : Option Addr} {sl36 : Array (Option Value)} {g37 : Addr} {oc37 kV37 dc37 pm37 cd37 ct37 : Value} {od37 an37 : Option Addr} {sl37 : Array (Option Value)} {g38 : Addr} {oc38 kV38 dc38 pm38 cd38 ct38 : Value} {od38 an38 : Option Addr} {sl38 : Array (Option Value)} {g39 : Addr} {oc39 kV39 dc39 pm39 cd39 ct39 : Value} {od39 an39 : Option Addr} {sl39 : Array (Option Value)} {g41 : Addr} {oc41 kV41 dc41 pm41 cd41 ct41 : Value} {od41 an41 : Option Addr} {sl41 : Array (Option Value)} {g42 : Addr} {oc42 kV42 dc42 pm42 cd42 ct42 : Value} {od42 an42 : Option Addr} {sl42 : Array (Option Value)} {g43 : Addr} {oc43 kV43 dc43 pm43 cd43 ct43 : Value} {od43 an43 : Option Addr} {sl43 : Array (Option Value)} {g44 : Addr} {oc44 kV44 dc44 pm44 cd44 ct44 : Value} {od44 an44 : Option Addr} {sl44 : Array (Option Value)} {g45 : Addr} {oc45 kV45 dc45 pm45 cd45 ct45 : Value} {od45 an45 : Option Addr} {sl45 : Array (Option Value)} {g46 : Addr} {oc46 kV46 dc46 pm46 cd46 ct46 : Value} {od46 an46 : Option Addr} {sl46 : Array (Option Value)} {g47 : Addr} {oc47 kV47 dc47 pm47 cd47 ct47 : Value} {od47 an47 : Option Addr} {sl47 : Array (Option Value)} {g48 : Addr} {oc48 kV48 dc48 pm48 cd48 ct48 : Value} {od48 an48 : Option Addr} {sl48 : Array (Option Value)}
    (AO : PySem.W.nsIn K mainGlobals "InvalidOperation" = some (some (.ref cO)))
    (TO : PySem.W.typeIn K (.ref cO) = some (.type "type"))
    (KO : PySem.W.keepIn K (.ref cO) = true)
    (SO : PySem.W.subIn K (.ref cO) (.type "BaseException") = some true)
    (MO : PySem.W.subIn K (.ref cO) (.ref cO) = some true)
    (PO : PySem.W.excIn K cO [.type "ValueError", .type "Exception", .type "BaseException", .type "object"] "ValueError.__new__" = true)
    (AP : PySem.W.nsIn K mainGlobals "InvalidPoint" = some (some (.ref cP)))
    (TP : PySem.W.typeIn K (.ref cP) = some (.type "type"))
    (KP : PySem.W.keepIn K (.ref cP) = true)
    (SP : PySem.W.subIn K (.ref cP) (.type "BaseException") = some true)
    (MP : PySem.W.subIn K (.ref cP) (.ref cP) = some true)
    (PP : PySem.W.excIn K cP [.type "ValueError", .type "Exception", .type "BaseException", .type "object"] "ValueError.__new__" = true)
    (N0 : PySem.W.subIn K (.ref cP) (.ref cO) = some false)
    (gc0 : PySem.W.nsIn K mainGlobals "gcd" = some (some (.builtin "math.gcd")))
    (a7 : PySem.W.nsIn K mainGlobals "lowest_point" = some (some (.ref g7)))
    (l7 : K.lookup g7 = some ⟨oc7, od7, .func (PySem.W.fnOf "lowest_point" "lowest_point" (defArgs sLow) (defBody sLow) (defScope sLow) .none kV7 dc7 pm7 an7 cd7 ct7), sl7⟩)
    (c7d : PySem.W.codeIn K cd7 "lowest_point" = true)
    (k7 : PySem.W.keepIn K (.ref g7) = true)
    (a8 : PySem.W.nsIn K mainGlobals "crossed" = some (some (.ref g8)))
    (l8 : K.lookup g8 = some ⟨oc8, od8, .func (PySem.W.fnOf "crossed" "crossed" (defArgs sCrd) (defBody sCrd) (defScope sCrd) .none kV8 dc8 pm8 an8 cd8 ct8), sl8⟩)
    (c8d : PySem.W.codeIn K cd8 "crossed" = true)
    (k8 : PySem.W.keepIn K (.ref g8) = true)
    (a9 : PySem.W.nsIn K mainGlobals "line_through" = some (some (.ref g9)))
    (l9 : K.lookup g9 = some ⟨oc9, od9, .func (PySem.W.fnOf "line_through" "line_through" (defArgs sLine) (defBody sLine) (defScope sLine) .none kV9 dc9 pm9 an9 cd9 ct9), sl9⟩)
    (c9d : PySem.W.codeIn K cd9 "line_through" = true)
    (k9 : PySem.W.keepIn K (.ref g9) = true)
    (a10 : PySem.W.nsIn K mainGlobals "value_at" = some (some (.ref g10)))
    (l10 : K.lookup g10 = some ⟨oc10, od10, .func (PySem.W.fnOf "value_at" "value_at" (defArgs sVal) (defBody sVal) (defScope sVal) .none kV10 dc10 pm10 an10 cd10 ct10), sl10⟩)
    (c10d : PySem.W.codeIn K cd10 "value_at" = true)
    (k10 : PySem.W.keepIn K (.ref g10) = true)
    (a11 : PySem.W.nsIn K mainGlobals "cross_point" = some (some (.ref g11)))
    (l11 : K.lookup g11 = some ⟨oc11, od11, .func (PySem.W.fnOf "cross_point" "cross_point" (defArgs sCross) (defBody sCross) (defScope sCross) .none kV11 dc11 pm11 an11 cd11 ct11), sl11⟩)
    (c11d : PySem.W.codeIn K cd11 "cross_point" = true)
    (k11 : PySem.W.keepIn K (.ref g11) = true)
    (a12 : PySem.W.nsIn K mainGlobals "sign_of" = some (some (.ref g12)))
    (l12 : K.lookup g12 = some ⟨oc12, od12, .func (PySem.W.fnOf "sign_of" "sign_of" (defArgs sSign) (defBody sSign) (defScope sSign) .none kV12 dc12 pm12 an12 cd12 ct12), sl12⟩)
    (c12d : PySem.W.codeIn K cd12 "sign_of" = true)
    (k12 : PySem.W.keepIn K (.ref g12) = true)
    (a13 : PySem.W.nsIn K mainGlobals "turn" = some (some (.ref g13)))
    (l13 : K.lookup g13 = some ⟨oc13, od13, .func (PySem.W.fnOf "turn" "turn" (defArgs sTurn) (defBody sTurn) (defScope sTurn) .none kV13 dc13 pm13 an13 cd13 ct13), sl13⟩)
    (c13d : PySem.W.codeIn K cd13 "turn" = true)
    (k13 : PySem.W.keepIn K (.ref g13) = true)
    (a14 : PySem.W.nsIn K mainGlobals "way" = some (some (.ref g14)))
    (l14 : K.lookup g14 = some ⟨oc14, od14, .func (PySem.W.fnOf "way" "way" (defArgs sWay) (defBody sWay) (defScope sWay) .none kV14 dc14 pm14 an14 cd14 ct14), sl14⟩)
    (c14d : PySem.W.codeIn K cd14 "way" = true)
    (k14 : PySem.W.keepIn K (.ref g14) = true)
    (a15 : PySem.W.nsIn K mainGlobals "lies_between" = some (some (.ref g15)))
    (l15 : K.lookup g15 = some ⟨oc15, od15, .func (PySem.W.fnOf "lies_between" "lies_between" (defArgs sLies) (defBody sLies) (defScope sLies) .none kV15 dc15 pm15 an15 cd15 ct15), sl15⟩)
    (c15d : PySem.W.codeIn K cd15 "lies_between" = true)
    (k15 : PySem.W.keepIn K (.ref g15) = true)
    (a16 : PySem.W.nsIn K mainGlobals "shared_points" = some (some (.ref g16)))
    (l16 : K.lookup g16 = some ⟨oc16, od16, .func (PySem.W.fnOf "shared_points" "shared_points" (defArgs sShP) (defBody sShP) (defScope sShP) .none kV16 dc16 pm16 an16 cd16 ct16), sl16⟩)
    (c16d : PySem.W.codeIn K cd16 "shared_points" = true)
    (k16 : PySem.W.keepIn K (.ref g16) = true)
    (a18 : PySem.W.nsIn K mainGlobals "is_integer" = some (some (.ref g18)))
    (l18 : K.lookup g18 = some ⟨oc18, od18, .func (PySem.W.fnOf "is_integer" "is_integer" (defArgs sIsInt) (defBody sIsInt) (defScope sIsInt) .none kV18 dc18 pm18 an18 cd18 ct18), sl18⟩)
    (c18d : PySem.W.codeIn K cd18 "is_integer" = true)
    (k18 : PySem.W.keepIn K (.ref g18) = true)
    (a19 : PySem.W.nsIn K mainGlobals "lowest_of" = some (some (.ref g19)))
    (l19 : K.lookup g19 = some ⟨oc19, od19, .func (PySem.W.fnOf "lowest_of" "lowest_of" (defArgs sLowOf) (defBody sLowOf) (defScope sLowOf) .none kV19 dc19 pm19 an19 cd19 ct19), sl19⟩)
    (c19d : PySem.W.codeIn K cd19 "lowest_of" = true)
    (k19 : PySem.W.keepIn K (.ref g19) = true)
    (a20 : PySem.W.nsIn K mainGlobals "_lowest" = some (some (.ref g20)))
    (l20 : K.lookup g20 = some ⟨oc20, od20, .func (PySem.W.fnOf "_lowest" "_lowest" (defArgs sLow2) (defBody sLow2) (defScope sLow2) .none kV20 dc20 pm20 an20 cd20 ct20), sl20⟩)
    (c20d : PySem.W.codeIn K cd20 "_lowest" = true)
    (k20 : PySem.W.keepIn K (.ref g20) = true)
    (a22 : PySem.W.nsIn K mainGlobals "fine_bits" = some (some (.ref g22)))
    (l22 : K.lookup g22 = some ⟨oc22, od22, .func (PySem.W.fnOf "fine_bits" "fine_bits" (defArgs sFB) (defBody sFB) (defScope sFB) .none kV22 dc22 pm22 an22 cd22 ct22), sl22⟩)
    (c22d : PySem.W.codeIn K cd22 "fine_bits" = true)
    (k22 : PySem.W.keepIn K (.ref g22) = true)
    (a23 : PySem.W.nsIn K mainGlobals "fraction_steps" = some (some (.ref g23)))
    (l23 : K.lookup g23 = some ⟨oc23, od23, .func (PySem.W.fnOf "fraction_steps" "fraction_steps" (defArgs sFS) (defBody sFS) (defScope sFS) .none kV23 dc23 pm23 an23 cd23 ct23), sl23⟩)
    (c23d : PySem.W.codeIn K cd23 "fraction_steps" = true)
    (k23 : PySem.W.keepIn K (.ref g23) = true)
    (a25 : PySem.W.nsIn K mainGlobals "is_point" = some (some (.ref g25)))
    (l25 : K.lookup g25 = some ⟨oc25, od25, .func (PySem.W.fnOf "is_point" "is_point" (defArgs sIsPt) (defBody sIsPt) (defScope sIsPt) .none kV25 dc25 pm25 an25 cd25 ct25), sl25⟩)
    (c25d : PySem.W.codeIn K cd25 "is_point" = true)
    (k25 : PySem.W.keepIn K (.ref g25) = true)
    (a26 : PySem.W.nsIn K mainGlobals "check_points" = some (some (.ref g26)))
    (l26 : K.lookup g26 = some ⟨oc26, od26, .func (PySem.W.fnOf "check_points" "check_points" (defArgs sChk) (defBody sChk) (defScope sChk) .none kV26 dc26 pm26 an26 cd26 ct26), sl26⟩)
    (c26d : PySem.W.codeIn K cd26 "check_points" = true)
    (k26 : PySem.W.keepIn K (.ref g26) = true)
    (a27 : PySem.W.nsIn K mainGlobals "pieces_meet" = some (some (.ref g27)))
    (l27 : K.lookup g27 = some ⟨oc27, od27, .func (PySem.W.fnOf "pieces_meet" "pieces_meet" (defArgs sPM) (defBody sPM) (defScope sPM) .none kV27 dc27 pm27 an27 cd27 ct27), sl27⟩)
    (c27d : PySem.W.codeIn K cd27 "pieces_meet" = true)
    (k27 : PySem.W.keepIn K (.ref g27) = true)
    (a28 : PySem.W.nsIn K mainGlobals "sorted_round" = some (some (.ref g28)))
    (l28 : K.lookup g28 = some ⟨oc28, od28, .func (PySem.W.fnOf "sorted_round" "sorted_round" (defArgs sSR) (defBody sSR) (defScope sSR) .none kV28 dc28 pm28 an28 cd28 ct28), sl28⟩)
    (c28d : PySem.W.codeIn K cd28 "sorted_round" = true)
    (k28 : PySem.W.keepIn K (.ref g28) = true)
    (a29 : PySem.W.nsIn K mainGlobals "_square" = some (some (.ref g29)))
    (l29 : K.lookup g29 = some ⟨oc29, od29, .func (PySem.W.fnOf "_square" "_square" (defArgs sSquare) (defBody sSquare) (defScope sSquare) .none kV29 dc29 pm29 an29 cd29 ct29), sl29⟩)
    (c29d : PySem.W.codeIn K cd29 "_square" = true)
    (k29 : PySem.W.keepIn K (.ref g29) = true)
    (a30 : PySem.W.nsIn K mainGlobals "_quarter_turned" = some (some (.ref g30)))
    (l30 : K.lookup g30 = some ⟨oc30, od30, .func (PySem.W.fnOf "_quarter_turned" "_quarter_turned" (defArgs sQT) (defBody sQT) (defScope sQT) .none kV30 dc30 pm30 an30 cd30 ct30), sl30⟩)
    (c30d : PySem.W.codeIn K cd30 "_quarter_turned" = true)
    (k30 : PySem.W.keepIn K (.ref g30) = true)
    (a32 : PySem.W.nsIn K mainGlobals "_law_bag" = some (some (.ref g32)))
    (l32 : K.lookup g32 = some ⟨oc32, od32, .func (PySem.W.fnOf "_law_bag" "_law_bag" (defArgs sBag) (defBody sBag) (defScope sBag) .none kV32 dc32 pm32 an32 cd32 ct32), sl32⟩)
    (c32d : PySem.W.codeIn K cd32 "_law_bag" = true)
    (k32 : PySem.W.keepIn K (.ref g32) = true)
    (a33 : PySem.W.nsIn K mainGlobals "_law_draw" = some (some (.ref g33)))
    (l33 : K.lookup g33 = some ⟨oc33, od33, .func (PySem.W.fnOf "_law_draw" "_law_draw" (defArgs sDraw) (defBody sDraw) (defScope sDraw) .none kV33 dc33 pm33 an33 cd33 ct33), sl33⟩)
    (c33d : PySem.W.codeIn K cd33 "_law_draw" = true)
    (k33 : PySem.W.keepIn K (.ref g33) = true)
    (a34 : PySem.W.nsIn K mainGlobals "_law_one_of" = some (some (.ref g34)))
    (l34 : K.lookup g34 = some ⟨oc34, od34, .func (PySem.W.fnOf "_law_one_of" "_law_one_of" (defArgs sOne) (defBody sOne) (defScope sOne) .none kV34 dc34 pm34 an34 cd34 ct34), sl34⟩)
    (c34d : PySem.W.codeIn K cd34 "_law_one_of" = true)
    (k34 : PySem.W.keepIn K (.ref g34) = true)
    (a35 : PySem.W.nsIn K mainGlobals "_law_shuffled" = some (some (.ref g35)))
    (l35 : K.lookup g35 = some ⟨oc35, od35, .func (PySem.W.fnOf "_law_shuffled" "_law_shuffled" (defArgs sShuf) (defBody sShuf) (defScope sShuf) .none kV35 dc35 pm35 an35 cd35 ct35), sl35⟩)
    (c35d : PySem.W.codeIn K cd35 "_law_shuffled" = true)
    (k35 : PySem.W.keepIn K (.ref g35) = true)
    (a36 : PySem.W.nsIn K mainGlobals "_law_shared" = some (some (.ref g36)))
    (l36 : K.lookup g36 = some ⟨oc36, od36, .func (PySem.W.fnOf "_law_shared" "_law_shared" (defArgs sShared) (defBody sShared) (defScope sShared) .none kV36 dc36 pm36 an36 cd36 ct36), sl36⟩)
    (c36d : PySem.W.codeIn K cd36 "_law_shared" = true)
    (k36 : PySem.W.keepIn K (.ref g36) = true)
    (a37 : PySem.W.nsIn K mainGlobals "_law_point" = some (some (.ref g37)))
    (l37 : K.lookup g37 = some ⟨oc37, od37, .func (PySem.W.fnOf "_law_point" "_law_point" (defArgs sPoint) (defBody sPoint) (defScope sPoint) .none kV37 dc37 pm37 an37 cd37 ct37), sl37⟩)
    (c37d : PySem.W.codeIn K cd37 "_law_point" = true)
    (k37 : PySem.W.keepIn K (.ref g37) = true)
    (a38 : PySem.W.nsIn K mainGlobals "_law_frame" = some (some (.ref g38)))
    (l38 : K.lookup g38 = some ⟨oc38, od38, .func (PySem.W.fnOf "_law_frame" "_law_frame" (defArgs sFrame) (defBody sFrame) (defScope sFrame) .none kV38 dc38 pm38 an38 cd38 ct38), sl38⟩)
    (c38d : PySem.W.codeIn K cd38 "_law_frame" = true)
    (k38 : PySem.W.keepIn K (.ref g38) = true)
    (a39 : PySem.W.nsIn K mainGlobals "_law_spot" = some (some (.ref g39)))
    (l39 : K.lookup g39 = some ⟨oc39, od39, .func (PySem.W.fnOf "_law_spot" "_law_spot" (defArgs sSpot) (defBody sSpot) (defScope sSpot) .none kV39 dc39 pm39 an39 cd39 ct39), sl39⟩)
    (c39d : PySem.W.codeIn K cd39 "_law_spot" = true)
    (k39 : PySem.W.keepIn K (.ref g39) = true)
    (a41 : PySem.W.nsIn K mainGlobals "_law_span" = some (some (.ref g41)))
    (l41 : K.lookup g41 = some ⟨oc41, od41, .func (PySem.W.fnOf "_law_span" "_law_span" (defArgs sSpan) (defBody sSpan) (defScope sSpan) .none kV41 dc41 pm41 an41 cd41 ct41), sl41⟩)
    (c41d : PySem.W.codeIn K cd41 "_law_span" = true)
    (k41 : PySem.W.keepIn K (.ref g41) = true)
    (a42 : PySem.W.nsIn K mainGlobals "_law_meets_right" = some (some (.ref g42)))
    (l42 : K.lookup g42 = some ⟨oc42, od42, .func (PySem.W.fnOf "_law_meets_right" "_law_meets_right" (defArgs sMR) (defBody sMR) (defScope sMR) .none kV42 dc42 pm42 an42 cd42 ct42), sl42⟩)
    (c42d : PySem.W.codeIn K cd42 "_law_meets_right" = true)
    (k42 : PySem.W.keepIn K (.ref g42) = true)
    (a43 : PySem.W.nsIn K mainGlobals "_law_cross_right" = some (some (.ref g43)))
    (l43 : K.lookup g43 = some ⟨oc43, od43, .func (PySem.W.fnOf "_law_cross_right" "_law_cross_right" (defArgs sCR) (defBody sCR) (defScope sCR) .none kV43 dc43 pm43 an43 cd43 ct43), sl43⟩)
    (c43d : PySem.W.codeIn K cd43 "_law_cross_right" = true)
    (k43 : PySem.W.keepIn K (.ref g43) = true)
    (a44 : PySem.W.nsIn K mainGlobals "_law_line_right" = some (some (.ref g44)))
    (l44 : K.lookup g44 = some ⟨oc44, od44, .func (PySem.W.fnOf "_law_line_right" "_law_line_right" (defArgs sLR) (defBody sLR) (defScope sLR) .none kV44 dc44 pm44 an44 cd44 ct44), sl44⟩)
    (c44d : PySem.W.codeIn K cd44 "_law_line_right" = true)
    (k44 : PySem.W.keepIn K (.ref g44) = true)
    (a45 : PySem.W.nsIn K mainGlobals "_law_directions" = some (some (.ref g45)))
    (l45 : K.lookup g45 = some ⟨oc45, od45, .func (PySem.W.fnOf "_law_directions" "_law_directions" (defArgs sDir) (defBody sDir) (defScope sDir) .none kV45 dc45 pm45 an45 cd45 ct45), sl45⟩)
    (c45d : PySem.W.codeIn K cd45 "_law_directions" = true)
    (k45 : PySem.W.keepIn K (.ref g45) = true)
    (a46 : PySem.W.nsIn K mainGlobals "_law_round_right" = some (some (.ref g46)))
    (l46 : K.lookup g46 = some ⟨oc46, od46, .func (PySem.W.fnOf "_law_round_right" "_law_round_right" (defArgs sRR) (defBody sRR) (defScope sRR) .none kV46 dc46 pm46 an46 cd46 ct46), sl46⟩)
    (c46d : PySem.W.codeIn K cd46 "_law_round_right" = true)
    (k46 : PySem.W.keepIn K (.ref g46) = true)
    (a47 : PySem.W.nsIn K mainGlobals "_law_refusal" = some (some (.ref g47)))
    (l47 : K.lookup g47 = some ⟨oc47, od47, .func (PySem.W.fnOf "_law_refusal" "_law_refusal" (defArgs sRfl) (defBody sRfl) (defScope sRfl) .none kV47 dc47 pm47 an47 cd47 ct47), sl47⟩)
    (c47d : PySem.W.codeIn K cd47 "_law_refusal" = true)
    (k47 : PySem.W.keepIn K (.ref g47) = true)
    (a48 : PySem.W.nsIn K mainGlobals "law" = some (some (.ref g48)))
    (l48 : K.lookup g48 = some ⟨oc48, od48, .func (PySem.W.fnOf "law" "law" (defArgs sLaw) (defBody sLaw) (defScope sLaw) .none kV48 dc48 pm48 an48 cd48 ct48), sl48⟩)
    (c48d : PySem.W.codeIn K cd48 "law" = true)
    (k48 : PySem.W.keepIn K (.ref g48) = true)
    (z_isinstance : PySem.W.nsIn K mainGlobals "isinstance" = some none)
    (z_len : PySem.W.nsIn K mainGlobals "len" = some none)
    (z_sum : PySem.W.nsIn K mainGlobals "sum" = some none)
    (z_int : PySem.W.nsIn K mainGlobals "int" = some none)
    (z_abs : PySem.W.nsIn K mainGlobals "abs" = some none)
    (z_max : PySem.W.nsIn K mainGlobals "max" = some none)
    (z_min : PySem.W.nsIn K mainGlobals "min" = some none)
    (z_range : PySem.W.nsIn K mainGlobals "range" = some none)
    (z_list : PySem.W.nsIn K mainGlobals "list" = some none)
    (z_tuple : PySem.W.nsIn K mainGlobals "tuple" = some none)
    (z_bool : PySem.W.nsIn K mainGlobals "bool" = some none)
    (z_repr : PySem.W.nsIn K mainGlobals "repr" = some none)
    (z_sorted : PySem.W.nsIn K mainGlobals "sorted" = some none)
    : ∃ fd : FuncData, (∀ (s : Shared) (v : Value), BindsTo s fd ⟨[v], []⟩ [("script", v)]) ∧ ∀ base : Heap, K.In base → base.Ns mainGlobals mg → FnOk l.prog w K mg base CX0 8 fa fd ["script"] (spLaw K) := by
  have e := hfa.symm.trans (PySem.W.mg_of XX GG a48)
  cases e
  have mgn : ∀ {x : Str}, PySem.W.nsIn K mainGlobals x = some none → mg x = none := fun e => PySem.W.mg_none_of XX GG e
  have TB1 : TB mg := ⟨mgn z_len, mgn z_sum, mgn z_int, mgn z_abs, mgn z_max, mgn z_range, mgn z_list⟩
  have T1 : TL mg := ⟨TB1, mgn z_min, mgn z_tuple, mgn z_repr⟩
  have T3 : TS3 mg := ⟨mgn z_tuple, mgn z_sorted⟩
  have TI1 : TI mg := ⟨mgn z_isinstance, mgn z_int, mgn z_bool, mgn z_tuple, mgn z_len⟩
  have TM1 : TM mg := ⟨PySem.W.mg_of XX GG gc0⟩
  have EO : ErrE "InvalidOperation" K mg cO := ⟨PO, PySem.W.mg_of XX GG AO, KO, SO, TO, exm_of SO TO MO⟩
  have EP : ErrE "InvalidPoint" K mg cP := ⟨PP, PySem.W.mg_of XX GG AP, KP, SP, TP, exm_of SP TP MP⟩
  have NE := exm_of (B := cP) SO TO N0
  have F7_ := fun_mk (st := sLow) l7 c7d k7
  have g7_ := PySem.W.mg_of XX GG a7
  have b7_ := F7_.binds (ps := ["x", "y", "w"]) fun _ _ _ _ _ _ us hl => match us, hl with | [_, _, _], _ => rfl
  have F8_ := fun_mk (st := sCrd) l8 c8d k8
  have g8_ := PySem.W.mg_of XX GG a8
  have b8_ := F8_.binds (ps := ["one", "two"]) fun _ _ _ _ _ _ us hl => match us, hl with | [_, _], _ => rfl
  have F9_ := fun_mk (st := sLine) l9 c9d k9
  have g9_ := PySem.W.mg_of XX GG a9
  have b9_ := F9_.binds (ps := ["one", "two"]) fun _ _ _ _ _ _ us hl => match us, hl with | [_, _], _ => rfl
  have F10_ := fun_mk (st := sVal) l10 c10d k10
  have g10_ := PySem.W.mg_of XX GG a10
  have b10_ := F10_.binds (ps := ["ruler", "point"]) fun _ _ _ _ _ _ us hl => match us, hl with | [_, _], _ => rfl
  have F11_ := fun_mk (st := sCross) l11 c11d k11
  have g11_ := PySem.W.mg_of XX GG a11
  have b11_ := F11_.binds (ps := ["ruler", "other"]) fun _ _ _ _ _ _ us hl => match us, hl with | [_, _], _ => rfl
  have F12_ := fun_mk (st := sSign) l12 c12d k12
  have g12_ := PySem.W.mg_of XX GG a12
  have b12_ := F12_.binds (ps := ["number"]) fun _ _ _ _ _ _ us hl => match us, hl with | [_], _ => rfl
  have F13_ := fun_mk (st := sTurn) l13 c13d k13
  have g13_ := PySem.W.mg_of XX GG a13
  have b13_ := F13_.binds (ps := ["one", "two", "three"]) fun _ _ _ _ _ _ us hl => match us, hl with | [_, _, _], _ => rfl
  have F14_ := fun_mk (st := sWay) l14 c14d k14
  have g14_ := PySem.W.mg_of XX GG a14
  have b14_ := F14_.binds (ps := ["start", "end"]) fun _ _ _ _ _ _ us hl => match us, hl with | [_, _], _ => rfl
  have F15_ := fun_mk (st := sLies) l15 c15d k15
  have g15_ := PySem.W.mg_of XX GG a15
  have b15_ := F15_.binds (ps := ["point", "one", "two"]) fun _ _ _ _ _ _ us hl => match us, hl with | [_, _, _], _ => rfl
  have F16_ := fun_mk (st := sShP) l16 c16d k16
  have g16_ := PySem.W.mg_of XX GG a16
  have b16_ := F16_.binds (ps := ["one", "two", "ruler", "other"]) fun _ _ _ _ _ _ us hl => match us, hl with | [_, _, _, _], _ => rfl
  have F18_ := fun_mk (st := sIsInt) l18 c18d k18
  have g18_ := PySem.W.mg_of XX GG a18
  have b18_ := F18_.binds (ps := ["value"]) fun _ _ _ _ _ _ us hl => match us, hl with | [_], _ => rfl
  have F19_ := fun_mk (st := sLowOf) l19 c19d k19
  have g19_ := PySem.W.mg_of XX GG a19
  have b19_ := F19_.binds (ps := ["top", "bottom"]) fun _ _ _ _ _ _ us hl => match us, hl with | [_, _], _ => rfl
  have F20_ := fun_mk (st := sLow2) l20 c20d k20
  have g20_ := PySem.W.mg_of XX GG a20
  have b20_ := F20_.binds (ps := ["top", "bottom"]) fun _ _ _ _ _ _ us hl => match us, hl with | [_, _], _ => rfl
  have F22_ := fun_mk (st := sFB) l22 c22d k22
  have g22_ := PySem.W.mg_of XX GG a22
  have b22_ := F22_.binds (ps := ["bottoms"]) fun _ _ _ _ _ _ us hl => match us, hl with | [_], _ => rfl
  have F23_ := fun_mk (st := sFS) l23 c23d k23
  have g23_ := PySem.W.mg_of XX GG a23
  have b23_ := F23_.binds (ps := ["fractions"]) fun _ _ _ _ _ _ us hl => match us, hl with | [_], _ => rfl
  have F25_ := fun_mk (st := sIsPt) l25 c25d k25
  have g25_ := PySem.W.mg_of XX GG a25
  have b25_ := F25_.binds (ps := ["value"]) fun _ _ _ _ _ _ us hl => match us, hl with | [_], _ => rfl
  have F26_ := fun_mk (st := sChk) l26 c26d k26
  have g26_ := PySem.W.mg_of XX GG a26
  have F27_ := fun_mk (st := sPM) l27 c27d k27
  have g27_ := PySem.W.mg_of XX GG a27
  have b27_ := F27_.binds (ps := ["one", "two", "three", "four"]) fun _ _ _ _ _ _ us hl => match us, hl with | [_, _, _, _], _ => rfl
  have F28_ := fun_mk (st := sSR) l28 c28d k28
  have g28_ := PySem.W.mg_of XX GG a28
  have b28_ := F28_.binds (ps := ["centre", "points"]) fun _ _ _ _ _ _ us hl => match us, hl with | [_, _], _ => rfl
  have F29_ := fun_mk (st := sSquare) l29 c29d k29
  have g29_ := PySem.W.mg_of XX GG a29
  have b29_ := F29_.binds (ps := ["one", "two"]) fun _ _ _ _ _ _ us hl => match us, hl with | [_, _], _ => rfl
  have F30_ := fun_mk (st := sQT) l30 c30d k30
  have g30_ := PySem.W.mg_of XX GG a30
  have b30_ := F30_.binds (ps := ["centre", "point"]) fun _ _ _ _ _ _ us hl => match us, hl with | [_, _], _ => rfl
  have F32_ := fun_mk (st := sBag) l32 c32d k32
  have g32_ := PySem.W.mg_of XX GG a32
  have b32_ := F32_.binds (ps := ["script", "at"]) fun _ _ _ _ _ _ us hl => match us, hl with | [_, _], _ => rfl
  have F33_ := fun_mk (st := sDraw) l33 c33d k33
  have g33_ := PySem.W.mg_of XX GG a33
  have b33_ := F33_.binds (ps := ["bag", "total"]) fun _ _ _ _ _ _ us hl => match us, hl with | [_, _], _ => rfl
  have F34_ := fun_mk (st := sOne) l34 c34d k34
  have g34_ := PySem.W.mg_of XX GG a34
  have b34_ := F34_.binds (ps := ["bag", "items"]) fun _ _ _ _ _ _ us hl => match us, hl with | [_, _], _ => rfl
  have F35_ := fun_mk (st := sShuf) l35 c35d k35
  have g35_ := PySem.W.mg_of XX GG a35
  have b35_ := F35_.binds (ps := ["bag", "items"]) fun _ _ _ _ _ _ us hl => match us, hl with | [_, _], _ => rfl
  have F36_ := fun_mk (st := sShared) l36 c36d k36
  have g36_ := PySem.W.mg_of XX GG a36
  have b36_ := F36_.binds (ps := ["one", "other"]) fun _ _ _ _ _ _ us hl => match us, hl with | [_, _], _ => rfl
  have F37_ := fun_mk (st := sPoint) l37 c37d k37
  have g37_ := PySem.W.mg_of XX GG a37
  have b37_ := F37_.binds (ps := ["x", "y", "w"]) fun _ _ _ _ _ _ us hl => match us, hl with | [_, _, _], _ => rfl
  have F38_ := fun_mk (st := sFrame) l38 c38d k38
  have g38_ := PySem.W.mg_of XX GG a38
  have b38_ := F38_.binds (ps := ["bag"]) fun _ _ _ _ _ _ us hl => match us, hl with | [_], _ => rfl
  have F39_ := fun_mk (st := sSpot) l39 c39d k39
  have g39_ := PySem.W.mg_of XX GG a39
  have b39_ := F39_.binds (ps := ["frame", "part", "other", "over"]) fun _ _ _ _ _ _ us hl => match us, hl with | [_, _, _, _], _ => rfl
  have F41_ := fun_mk (st := sSpan) l41 c41d k41
  have g41_ := PySem.W.mg_of XX GG a41
  have b41_ := F41_.binds (ps := ["bag", "reach"]) fun _ _ _ _ _ _ us hl => match us, hl with | [_, _], _ => rfl
  have F42_ := fun_mk (st := sMR) l42 c42d k42
  have g42_ := PySem.W.mg_of XX GG a42
  have b42_ := F42_.binds (ps := ["one", "two", "three", "four", "due"]) fun _ _ _ _ _ _ us hl => match us, hl with | [_, _, _, _, _], _ => rfl
  have F43_ := fun_mk (st := sCR) l43 c43d k43
  have g43_ := PySem.W.mg_of XX GG a43
  have b43_ := F43_.binds (ps := ["frame", "along", "aside", "over"]) fun _ _ _ _ _ _ us hl => match us, hl with | [_, _, _, _], _ => rfl
  have F44_ := fun_mk (st := sLR) l44 c44d k44
  have g44_ := PySem.W.mg_of XX GG a44
  have b44_ := F44_.binds (ps := ["frame", "one_span", "other_span", "side", "over"]) fun _ _ _ _ _ _ us hl => match us, hl with | [_, _, _, _, _], _ => rfl
  have F45_ := fun_mk (st := sDir) l45 c45d k45
  have g45_ := PySem.W.mg_of XX GG a45
  have b45_ := F45_.binds (ps := ["bag", "size"]) fun _ _ _ _ _ _ us hl => match us, hl with | [_, _], _ => rfl
  have F46_ := fun_mk (st := sRR) l46 c46d k46
  have g46_ := PySem.W.mg_of XX GG a46
  have b46_ := F46_.binds (ps := ["bag", "spot"]) fun _ _ _ _ _ _ us hl => match us, hl with | [_, _], _ => rfl
  have F47_ := fun_mk (st := sRfl) l47 c47d k47
  have g47_ := PySem.W.mg_of XX GG a47
  have b47_ := F47_.binds (ps := ["centre", "points"]) fun _ _ _ _ _ _ us hl => match us, hl with | [_, _], _ => rfl
  have F48_ := fun_mk (st := sLaw) l48 c48d k48
  have g48_ := PySem.W.mg_of XX GG a48
  have b48_ := F48_.binds (ps := ["script"]) fun _ _ _ _ _ _ us hl => match us, hl with | [_], _ => rfl
  refine ⟨PySem.W.fnOf "law" "law" (defArgs sLaw) (defBody sLaw) (defScope sLaw) .none kV48 dc48 pm48 an48 cd48 ct48, fun s v => .of_eq rfl, fun base _ _ => ?_⟩
  have C7 : Cl l.prog w K mg base 1 "lowest_point" _ := ⟨⟨_, _, _, ok_low F7_ TM1, g7_, k7, b7_⟩⟩
  have C8 : Cl l.prog w K mg base 1 "crossed" _ := ⟨⟨_, _, _, ok_crd F8_, g8_, k8, b8_⟩⟩
  have C9 : Cl l.prog w K mg base 2 "line_through" _ := ⟨⟨_, _, _, ok_line F9_ TM1 C8, g9_, k9, b9_⟩⟩
  have C10 : Cl l.prog w K mg base 1 "value_at" _ := ⟨⟨_, _, _, ok_val F10_, g10_, k10, b10_⟩⟩
  have C11 : Cl l.prog w K mg base 2 "cross_point" _ := ⟨⟨_, _, _, ok_cross F11_ C7, g11_, k11, b11_⟩⟩
  have C12 : Cl l.prog w K mg base 1 "sign_of" _ := ⟨⟨_, _, _, ok_sign F12_, g12_, k12, b12_⟩⟩
  have C13 : Cl l.prog w K mg base 2 "turn" _ := ⟨⟨_, _, _, ok_turn F13_ C12 C10 C8, g13_, k13, b13_⟩⟩
  have C14 : Cl l.prog w K mg base 1 "way" _ := ⟨⟨_, _, _, ok_way F14_, g14_, k14, b14_⟩⟩
  have C15 : Cl l.prog w K mg base 3 "lies_between" _ := ⟨⟨_, _, _, ok_lies F15_ C13 C14, g15_, k15, b15_⟩⟩
  have C16 : Cl l.prog w K mg base 4 "shared_points" _ := ⟨⟨_, _, _, ok_shP F16_ C10 C15 C11, g16_, k16, b16_⟩⟩
  have C18 : Cl l.prog w K mg base 1 "is_integer" _ := ⟨⟨_, _, _, ok_isint F18_ TI1, g18_, k18, b18_⟩⟩
  have C20 : Cl l.prog w K mg base 1 "_lowest" _ := ⟨⟨_, _, _, ok_low2 F20_ TM1, g20_, k20, b20_⟩⟩
  have C19 : Cl l.prog w K mg base 2 "lowest_of" _ := ⟨⟨_, _, _, ok_lowof F19_ C18 C20, g19_, k19, b19_⟩⟩
  have C22 : Cl l.prog w K mg base 1 "fine_bits" _ := ⟨⟨_, _, _, ok_fb F22_ TB1, g22_, k22, b22_⟩⟩
  have C23 : Cl l.prog w K mg base 2 "fraction_steps" _ := ⟨⟨_, _, _, ok_fs F23_ C22, g23_, k23, b23_⟩⟩
  have C29 : Cl l.prog w K mg base 3 "_square" _ := ⟨⟨_, _, _, ok_square F29_ C14 C19, g29_, k29, b29_⟩⟩
  have C30 : Cl l.prog w K mg base 2 "_quarter_turned" _ := ⟨⟨_, _, _, ok_qt F30_ C14, g30_, k30, b30_⟩⟩
  have C25 : Cl l.prog w K mg base 2 "is_point" _ := ⟨⟨_, _, _, ok_ispt F25_ TI1 TM1 C18, g25_, k25, b25_⟩⟩
  have C26 : ClR l.prog w K mg base 3 "check_points" spChk := ⟨⟨_, ok_chk F26_ C25, g26_, k26⟩⟩
  have X26 : ClRX l.prog w K mg base 3 "check_points" (spChkX cP) := ⟨⟨_, ok_chkX F26_ EP C25, g26_, k26⟩⟩
  have C27 : Cl l.prog w K mg base 5 "pieces_meet" _ := ⟨⟨_, _, _, ok_pm F27_ T3 C26 C15 C16 C9, g27_, k27, b27_⟩⟩
  have M28 := ok_sr (P := l.prog) (w := w) (base := base) F28_ TI1 TB1 T3 EP EO X26 C30 C23 C29
  have X28 : ClX l.prog w K mg base 4 "sorted_round" (spSR cP cO) := ⟨⟨_, _, _, M28, g28_, k28, b28_⟩⟩
  have C32 : Cl l.prog w K mg base 1 "_law_bag" _ := ⟨⟨_, _, _, ok_bag F32_ TB1, g32_, k32, b32_⟩⟩
  have D1 := ok_draw (P := l.prog) (w := w) (base := base) F33_ TB1
  have C33 : Cl l.prog w K mg base 1 "_law_draw" _ := ⟨⟨_, _, _, D1, g33_, k33, b33_⟩⟩
  have C34 : Cl l.prog w K mg base 2 "_law_one_of" _ := ⟨⟨_, _, _, ok_one F34_ TB1 D1 b33_ g33_ k33, g34_, k34, b34_⟩⟩
  have C35 : Cl l.prog w K mg base 2 "_law_shuffled" _ := ⟨⟨_, _, _, ok_shuf F35_ TB1 D1 b33_ g33_ k33, g35_, k35, b35_⟩⟩
  have C36 : Cl l.prog w K mg base 1 "_law_shared" _ := ⟨⟨_, _, _, ok_shared F36_ TB1, g36_, k36, b36_⟩⟩
  have C37 : Cl l.prog w K mg base 2 "_law_point" _ := ⟨⟨_, _, _, ok_point F37_ C36, g37_, k37, b37_⟩⟩
  have C38 : Cl l.prog w K mg base 3 "_law_frame" _ := ⟨⟨_, _, _, ok_frame F38_ C33 C34, g38_, k38, b38_⟩⟩
  have C39 : Cl l.prog w K mg base 3 "_law_spot" _ := ⟨⟨_, _, _, ok_spot F39_ C37, g39_, k39, b39_⟩⟩
  have C41 : Cl l.prog w K mg base 2 "_law_span" _ := ⟨⟨_, _, _, ok_span F41_ C33, g41_, k41, b41_⟩⟩
  have C42 : Cl l.prog w K mg base 6 "_law_meets_right" _ := ⟨⟨_, _, _, ok_mr F42_ C27, g42_, k42, b42_⟩⟩
  have C43 : Cl l.prog w K mg base 7 "_law_cross_right" _ := ⟨⟨_, _, _, ok_cr F43_ T1 C39 C42, g43_, k43, b43_⟩⟩
  have C44 : Cl l.prog w K mg base 7 "_law_line_right" _ := ⟨⟨_, _, _, ok_lr F44_ T1 C39 C42, g44_, k44, b44_⟩⟩
  have C45 : Cl l.prog w K mg base 2 "_law_directions" _ := ⟨⟨_, _, _, ok_dir F45_ TB1 C33, g45_, k45, b45_⟩⟩
  have C47 : Cl l.prog w K mg base 5 "_law_refusal" _ := ⟨⟨_, _, _, ok_rfl F47_ EP EO NE M28 b28_ g28_ k28, g47_, k47, b47_⟩⟩
  have C46 : Cl l.prog w K mg base 6 "_law_round_right" _ := ⟨⟨_, _, _, ok_rr F46_ TB1 T3 C33 C37 C45 C35 X28 C47, g46_, k46, b46_⟩⟩
  exact ok_law F48_ T1 C32 C33 C34 C38 C41 C43 C44 C46 C47
theorem walk {l : PySem.W.OpenLaw} {q : Program} {loose : List Str} {XP : (Str → Option Value) → Heap → Prop} {YP : World → Heap → Prop} {d : DefRec} {K : Params → PySem.W.Frag} (hn : l.most = some 63) (hdf : d.params.defaults = [])
    (hY : ∀ (w : World) (h : Heap), YP w h → (K w.params).In h)
    (F : ∀ (w : World) (mg : Str → Option Value) (fa : Addr) (h : Heap), (K w.params).In h → h.Ns mainGlobals mg → mg d.name = some (.ref fa) →
      ∃ fd : FuncData, (∀ (s : Shared) (u : Value), BindsTo s fd ⟨[u], []⟩ [("script", u)]) ∧ ∀ base : Heap, (K w.params).In base → base.Ns mainGlobals mg → FnOk l.prog w (K w.params) mg base CX0 8 fa fd ["script"] (spLaw (K w.params))) :
    PySem.W.WalkO q loose XP YP l.row.toRowW d [] (fun f vs => PySem.call f vs) :=
  L2.walk_of (n := 63) (k := 8) (x := "script") (CX := fun _ => CX0) (sp := fun w => spLaw (K w.params)) hn (by decide) hdf ⟨rfl, by decide, by decide⟩ hY F (fun _ _ a ns hl _ hS => ⟨a, ns, rfl, hS, hl, fun _ => rfl⟩) fun _ _ _ _ _ z => z
end Q
set_option Elab.async false
set_option linter.all false
set_option maxRecDepth 100000
open PySem PySem.W PyProof.Rows
set_option maxRecDepth 100000 in
set_option maxHeartbeats 0 in
theorem PySem.Challenge.cw_wherebase_k03_whole_pieces_and_rounds_holds : PySem.Challenge.rw_wherebase_k03_whole_pieces_and_rounds.Holds := by
  w_on; o_law; k_head; (case hw => w_witness2)
  k_fill
  refine Q.walk (l := PySem.Challenge.rw_wherebase_k03_whole_pieces_and_rounds) rfl rfl (fun w h Y => PySem.W.kIn_of Y) ?F
  case F =>
    intro w mg fa h KX G hmg
    refine' Q.all_mk KX G hmg ?AO ?TO ?KO ?SO ?MO ?PO ?AP ?TP ?KP ?SP ?MP ?PP ?N0 ?gc0 ?a7 ?l7 ?c7d ?k7 ?a8 ?l8 ?c8d ?k8 ?a9 ?l9 ?c9d ?k9 ?a10 ?l10 ?c10d ?k10 ?a11 ?l11 ?c11d ?k11 ?a12 ?l12 ?c12d ?k12 ?a13 ?l13 ?c13d ?k13 ?a14 ?l14 ?c14d ?k14 ?a15 ?l15 ?c15d ?k15 ?a16 ?l16 ?c16d ?k16 ?a18 ?l18 ?c18d ?k18 ?a19 ?l19 ?c19d ?k19 ?a20 ?l20 ?c20d ?k20 ?a22 ?l22 ?c22d ?k22 ?a23 ?l23 ?c23d ?k23 ?a25 ?l25 ?c25d ?k25 ?a26 ?l26 ?c26d ?k26 ?a27 ?l27 ?c27d ?k27 ?a28 ?l28 ?c28d ?k28 ?a29 ?l29 ?c29d ?k29 ?a30 ?l30 ?c30d ?k30 ?a32 ?l32 ?c32d ?k32 ?a33 ?l33 ?c33d ?k33 ?a34 ?l34 ?c34d ?k34 ?a35 ?l35 ?c35d ?k35 ?a36 ?l36 ?c36d ?k36 ?a37 ?l37 ?c37d ?k37 ?a38 ?l38 ?c38d ?k38 ?a39 ?l39 ?c39d ?k39 ?a41 ?l41 ?c41d ?k41 ?a42 ?l42 ?c42d ?k42 ?a43 ?l43 ?c43d ?k43 ?a44 ?l44 ?c44d ?k44 ?a45 ?l45 ?c45d ?k45 ?a46 ?l46 ?c46d ?k46 ?a47 ?l47 ?c47d ?k47 ?a48 ?l48 ?c48d ?k48 ?z_isinstance ?z_len ?z_sum ?z_int ?z_abs ?z_max ?z_min ?z_range ?z_list ?z_tuple ?z_bool ?z_repr ?z_sorted
    (case AO => k_is)
    (case TO => k_is)
    (case KO => k_is)
    (case SO => k_is)
    (case MO => k_is)
    (case PO => k_exc)
    (case AP => k_is)
    (case TP => k_is)
    (case KP => k_is)
    (case SP => k_is)
    (case MP => k_is)
    (case PP => k_exc)
    (case N0 => k_is)
    (case gc0 => k_is)
    (case a7 => k_is)
    (case l7 => k_is)
    (case c7d => k_is)
    (case k7 => k_is)
    (case a8 => k_is)
    (case l8 => k_is)
    (case c8d => k_is)
    (case k8 => k_is)
    (case a9 => k_is)
    (case l9 => k_is)
    (case c9d => k_is)
    (case k9 => k_is)
    (case a10 => k_is)
    (case l10 => k_is)
    (case c10d => k_is)
    (case k10 => k_is)
    (case a11 => k_is)
    (case l11 => k_is)
    (case c11d => k_is)
    (case k11 => k_is)
    (case a12 => k_is)
    (case l12 => k_is)
    (case c12d => k_is)
    (case k12 => k_is)
    (case a13 => k_is)
    (case l13 => k_is)
    (case c13d => k_is)
    (case k13 => k_is)
    (case a14 => k_is)
    (case l14 => k_is)
    (case c14d => k_is)
    (case k14 => k_is)
    (case a15 => k_is)
    (case l15 => k_is)
    (case c15d => k_is)
    (case k15 => k_is)
    (case a16 => k_is)
    (case l16 => k_is)
    (case c16d => k_is)
    (case k16 => k_is)
    (case a18 => k_is)
    (case l18 => k_is)
    (case c18d => k_is)
    (case k18 => k_is)
    (case a19 => k_is)
    (case l19 => k_is)
    (case c19d => k_is)
    (case k19 => k_is)
    (case a20 => k_is)
    (case l20 => k_is)
    (case c20d => k_is)
    (case k20 => k_is)
    (case a22 => k_is)
    (case l22 => k_is)
    (case c22d => k_is)
    (case k22 => k_is)
    (case a23 => k_is)
    (case l23 => k_is)
    (case c23d => k_is)
    (case k23 => k_is)
    (case a25 => k_is)
    (case l25 => k_is)
    (case c25d => k_is)
    (case k25 => k_is)
    (case a26 => k_is)
    (case l26 => k_is)
    (case c26d => k_is)
    (case k26 => k_is)
    (case a27 => k_is)
    (case l27 => k_is)
    (case c27d => k_is)
    (case k27 => k_is)
    (case a28 => k_is)
    (case l28 => k_is)
    (case c28d => k_is)
    (case k28 => k_is)
    (case a29 => k_is)
    (case l29 => k_is)
    (case c29d => k_is)
    (case k29 => k_is)
    (case a30 => k_is)
    (case l30 => k_is)
    (case c30d => k_is)
    (case k30 => k_is)
    (case a32 => k_is)
    (case l32 => k_is)
    (case c32d => k_is)
    (case k32 => k_is)
    (case a33 => k_is)
    (case l33 => k_is)
    (case c33d => k_is)
    (case k33 => k_is)
    (case a34 => k_is)
    (case l34 => k_is)
    (case c34d => k_is)
    (case k34 => k_is)
    (case a35 => k_is)
    (case l35 => k_is)
    (case c35d => k_is)
    (case k35 => k_is)
    (case a36 => k_is)
    (case l36 => k_is)
    (case c36d => k_is)
    (case k36 => k_is)
    (case a37 => k_is)
    (case l37 => k_is)
    (case c37d => k_is)
    (case k37 => k_is)
    (case a38 => k_is)
    (case l38 => k_is)
    (case c38d => k_is)
    (case k38 => k_is)
    (case a39 => k_is)
    (case l39 => k_is)
    (case c39d => k_is)
    (case k39 => k_is)
    (case a41 => k_is)
    (case l41 => k_is)
    (case c41d => k_is)
    (case k41 => k_is)
    (case a42 => k_is)
    (case l42 => k_is)
    (case c42d => k_is)
    (case k42 => k_is)
    (case a43 => k_is)
    (case l43 => k_is)
    (case c43d => k_is)
    (case k43 => k_is)
    (case a44 => k_is)
    (case l44 => k_is)
    (case c44d => k_is)
    (case k44 => k_is)
    (case a45 => k_is)
    (case l45 => k_is)
    (case c45d => k_is)
    (case k45 => k_is)
    (case a46 => k_is)
    (case l46 => k_is)
    (case c46d => k_is)
    (case k46 => k_is)
    (case a47 => k_is)
    (case l47 => k_is)
    (case c47d => k_is)
    (case k47 => k_is)
    (case a48 => k_is)
    (case l48 => k_is)
    (case c48d => k_is)
    (case k48 => k_is)
    (case z_isinstance => k_is)
    (case z_len => k_is)
    (case z_sum => k_is)
    (case z_int => k_is)
    (case z_abs => k_is)
    (case z_max => k_is)
    (case z_min => k_is)
    (case z_range => k_is)
    (case z_list => k_is)
    (case z_tuple => k_is)
    (case z_bool => k_is)
    (case z_repr => k_is)
    (case z_sorted => k_is)
