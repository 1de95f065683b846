import PyProof.Rows.All
import Wide.All
import OpenK.AllK
import Wide.FinOn
import HandS.ForMost
import HandS.ForExc
import HandS.Wide
import HandS.Evl
import HandS.Gcd
import HandS.Style
import HandS.NoneIn
import HandS.IsInst
import HandS.TryOnly
import HandS.Star
import HandS.Defaults
import HandS.Conv
import HandS.ForSpec
import KE.KMathG
import HandS.Steps
import PyProof.P3In
import HandS.Deep
import KE.GoesMore
import HandS.More
import HandS.TupSets
import HandS.SortOrd
import HandS.SortRule
import HandS.Walk
import HandS.Zip
import HandS.Iter
import KE.GoesEnum
import HandS.DictComp
import HandS.WordsDict
import HandS.Codes
import HandS.ClsMeth
import HandS.OwnEq
import HandS.OwnIter
import KE.KCallOwn
import PyProof.InstEq
import HandS.IterNext
import HandS.ExcValue
import HandS.ListItems
import HandS.Sort
import HandS.FStr
import KE.KDictList
import HandS.Property
import KE.KEqNest
import KE.OsSetLaws
import HandS.Dict
import HandS.TupAny
import HandS.RevTup
import HandS.TupLe
import KE.DataCmp
import PySem.Challenge.RW_wherebase_k50_whole_forms_of_trees
set_option Elab.async false
set_option linter.all false
set_option maxRecDepth 100000
set_option maxHeartbeats 2000000
namespace Q
open PySem L2
def top (i : Nat) : Stmt := PySem.Challenge.pw_wherebase_k50_whole_forms_of_trees.main.body.getD i (.Pass ⟨0, 0, 0, 0⟩)
abbrev sBag : Stmt := top 42
abbrev sDraw : Stmt := top 43
abbrev sOne : Stmt := top 44
/-! ### powers of any size that fits -/
def CPowW (i j : Int) : Prop := 0 ≤ j ∧ (Builtin.Int.intBits i : Int) * j ≤ 2 ^ 27
theorem op_powW {X : Cx} : OpR X (binaryOp .Pow) (rI CPowW fun i j => .int (i ^ j.toNat)) := opI fun _ _ _ _ _ _ _ hc q => PyProof.Rows.pow_int hc.1 hc.2 q
/-! ### what a draw changes -/
structure Bgd (p : Addr) (H H' : Hp) : Prop where
  bag : ∃ a b c : Int, H' p = some (.lst [.int a, .int b, .int c])
  keep : ∀ l o, l ≠ p → H l = some o → H' l = some o
theorem Bgd.rfl' {p : Addr} {H : Hp} {a b c : Int} (h : H p = some (.lst [.int a, .int b, .int c])) : Bgd p H H := ⟨⟨a, b, c, h⟩, fun _ _ _ e => e⟩
theorem Bgd.trans {p : Addr} {H H1 H2 : Hp} (x : Bgd p H H1) (y : Bgd p H1 H2) : Bgd p H H2 := ⟨y.bag, fun l o n e => y.keep l o n (x.keep l o n e)⟩
theorem Bgd.free {p l : Addr} {H H1 : Hp} (x : Bgd p H H1) (h : H1 l = none) : H l = none := by
  obtain ⟨a, b, c, e⟩ := x.bag
  by_cases z : l = p
  · rw [z, e] at h
    cases h
  · cases q : H l with
    | none => rfl
    | some o =>
      rw [x.keep l o z q] at h
      cases h
theorem Bgd.new {p l : Addr} {H H1 : Hp} {o : HO} (x : Bgd p H H1) (h : H1 l = none) : Bgd p H (upd H1 l o) := by
  obtain ⟨a, b, c, e⟩ := x.bag
  refine ⟨⟨a, b, c, ?_⟩, fun m u n q => ?_⟩
  · rw [upd_ne (ne_of_none e h)]
    exact e
  · have q1 := x.keep m u n q
    rw [upd_ne (ne_of_none q1 h)]
    exact q1
theorem Bgd.put {p : Addr} {H H1 : Hp} (x : Bgd p H H1) (a b c : Int) : Bgd p H (upd H1 p (.lst [.int a, .int b, .int c])) := by
  refine ⟨⟨a, b, c, upd_same⟩, fun m u n q => ?_⟩
  rw [upd_ne n]
  exact x.keep m u n q
theorem Bgd.same {p : Addr} {H0 H H1 : Hp} (s : Same H0 H) (n : H0 p = none) (x : Bgd p H H1) : Same H0 H1 := fun l o e => x.keep l o (ne_of_none e n) (s l o e)
theorem atI_in {xs : List V} {r : Int} (h0 : 0 ≤ r) (h : r < xs.length) : ∃ v, atI xs r = some v ∧ xs[r.toNat]? = some v := by
  obtain ⟨n, rfl⟩ := Int.eq_ofNat_of_zero_le h0
  have hn : n < xs.length := by omega
  refine ⟨xs[n], ?_, ?_⟩
  · rw [atI_nat]
    simp [hn]
  · simp [hn]
theorem cut_ints (ns : List Int) (lo hi : Option Int) : ∃ ms : List Int, cutV (ns.map V.int) lo hi = ms.map V.int := by
  have cut : ∀ i j : Nat, ((ns.map V.int).drop i).take j = ((ns.drop i).take j).map V.int := fun i j => by rw [← List.map_drop, ← List.map_take]
  exact ⟨_, cut _ _⟩
theorem log_len {n : Nat} (h : n ≤ 1000) : ((n : Nat) : Int).natAbs.log2 < 9000 := by
  rw [Int.natAbs_natCast]
  exact Nat.lt_of_le_of_lt (Nat.le_trans (Nat.log2_le_self n) h) (by decide)
/-! ### the promises -/
def spBag (K : PySem.W.Frag) : Sp := fun vs H Q _ => ∃ (a : Addr) (ns : List Int) (i : Nat), vs = [.ref a, .int i] ∧ SqL K H a (ns.map V.int) ∧ i < 1000 ∧
  ∀ (p : Addr) (H' : Hp), H p = none → Same H H' → (∃ a b c : Int, H' p = some (.lst [.int a, .int b, .int c])) → Q (.ref p) H'
def spDraw : Sp := fun vs H Q _ => ∃ (p : Addr) (a b c n : Int), vs = [.ref p, .int n] ∧ H p = some (.lst [.int a, .int b, .int c]) ∧ 0 < n ∧ n.natAbs.log2 < 9000 ∧
  ∀ (r : Int) (H' : Hp), 0 ≤ r → r < n → Bgd p H H' → Q (.int r) H'
def spOne : Sp := fun vs H Q _ => ∃ (p q : Addr) (a b c : Int) (xs : List V), vs = [.ref p, .ref q] ∧ H p = some (.lst [.int a, .int b, .int c]) ∧ q ≠ p ∧ H q = some (.lst xs) ∧ 0 < xs.length ∧ xs.length ≤ 1000 ∧
  ∀ (i : Nat) (v : V) (H' : Hp), xs[i]? = some v → Bgd p H H' → Q v H'
def spShuf : Sp := fun vs H Q _ => ∃ (p q : Addr) (a b c : Int) (xs : List V), vs = [.ref p, .ref q] ∧ H p = some (.lst [.int a, .int b, .int c]) ∧ q ≠ p ∧ H q = some (.lst xs) ∧ xs.length ≤ 1000 ∧
  ∀ (l : Addr) (ys : List V) (H' : Hp), ys.Perm xs → H' l = some (.lst ys) → H l = none → Bgd p H H' → Q (.ref l) H'
structure TB (mg : Str → Option Value) : Prop where
  len : mg "len" = none
  sum : mg "sum" = none
  int : mg "int" = none
  abs : mg "abs" = none
  max : mg "max" = none
  range : mg "range" = none
  list : mg "list" = none
section
variable {P : Program} {w : World} {K : PySem.W.Frag} {mg : Str → Option Value} {base : Heap}
theorem scBag : FnScope ["script", "at", "cell", "great", "mixed"] ["script", "at"] (defScope sBag) := ⟨rfl, rfl, rfl, by decide +kernel, rfl, by decide +kernel, by decide +kernel⟩
theorem bigM : ((((10 : Int) ^ (Int.toNat 47)) ^ (Int.toNat 13))) ≠ 0 := by decide +kernel
theorem ok_bag {f : Addr} {fd : FuncData} (F : Fun K "_law_bag" "_law_bag" sBag f fd) (T : TB mg) : FnOk P w K mg base CX0 1 f fd ["script", "at"] (spBag K) := by
  refine F.ok scBag (fun vs H Q E h => ?_) (fun cdv A outer s H vs Q E hr h => ?_)
  · obtain ⟨a, ns, i, rfl, _⟩ := h
    rfl
  · obtain ⟨a, ns, i, rfl, hS, hi, k⟩ := h
    refine ⟨_, Evl.pss_cut (ps_set (i := 2) scBag.nd rfl (Or.inl rfl) (pe_ifExp (pt_cmpR op_lt (pv 1) (pe_callB call_len_seq (by rfl) T.len PySem.boot_len (pa_cons (pv 0) pa_nil)) (nomark _))
        (pe_ix ix_list (pv 0) (pv 1) (fun _ _ => rfl))
        (pe_op op_add (pe_op op_add (pe_callB (cr_sum rfl) (by rfl) T.sum (by decide +kernel) (pa_cons (pe_slice sl_list (pv 0) po_none (po_some pe_int)) pa_nil)) (pe_op op_mul pe_int (pv 1))) pe_int)))
      (pss_cons (ps_set (i := 3) scBag.nd rfl (Or.inl rfl) (pe_op op_modN (pe_callTy call_int1 (by rfl) T.int (by decide +kernel) (pa_cons (pe_callB call_abs (by rfl) T.abs (by decide +kernel) (pa_cons (pv 2) pa_nil)) pa_nil)) (pe_op op_powW (pe_op op_powW pe_int pe_int) pe_int)))
      (pss_cons (ps_set (i := 4) scBag.nd rfl (Or.inl rfl) (pe_op op_add (pe_op op_add (pe_op op_add (pe_op op_mul (pe_op op_mod (pe_callTy call_int1 (by rfl) T.int (by decide +kernel) (pa_cons (pv 3) pa_nil)) pe_int) pe_int) (pe_op op_mul pe_int (pv 1))) (pe_op op_mul pe_int (pe_callTy call_int1 (by rfl) T.int (by decide +kernel) (pa_cons (pe_cmpR op_lt (pv 2) pe_int (nomark _)) pa_nil)))) pe_int))
      (pss_one (ps_ret (pe_lst (pa_cons (pe_callB (call_max2 rfl) (by rfl) T.max (by decide +kernel) (pa_cons pe_int (pa_cons (pe_op op_sub (pv 3) (pe_op op_powW pe_int pe_int)) pa_nil))) (pa_cons (pe_op op_mod (pe_callTy call_int1 (by rfl) T.int (by decide +kernel) (pa_cons (pv 4) pa_nil)) pe_int) (pa_cons pe_int pa_nil)))))))), ?_⟩
    refine ⟨fun σ' H' => Same H H' ∧ ∃ c : Int, σ' = [some (.ref a), some (.int i), some (.int c), none, none], ?_, ?_⟩
    · refine ⟨_, rfl, _, rfl, a, _, rfl, .inl hS, _, _, rfl, rfl, _, rfl, ?_⟩
      refine ite2 (fun hlt => ?_) (fun _ => ?_)
      · have hlt := of_decide_eq_true hlt
        rw [List.length_map] at hlt
        have hl : i < ns.length := by omega
        refine ⟨_, rfl, _, rfl, a, _, _, V.int ns[i], rfl, rfl, hS, ?_, ?_⟩
        · rw [atI_nat]
          simp [hl]
        · exact ⟨Same.refl H, _, rfl⟩
      · refine ⟨_, rfl, _, rfl, a, ns.map V.int, rfl, hS, fun l hl => ?_⟩
        obtain ⟨ms, em⟩ := cut_ints ns none (some 1)
        rw [em]
        refine ⟨l, ms, rfl, SqL.of upd_same, _, rfl, _, _, rfl, rfl, .inl ?_, _, _, rfl, rfl, _, _, rfl, rfl, ?_⟩
        · show -(2 ^ 64) < (103 : Int) ∧ (103 : Int) < 2 ^ 64
          decide
        · exact ⟨fun b o e => by rw [upd_ne (ne_of_none e hl)]; exact e, _, rfl⟩
    · rintro σ' H1 ⟨s1, cell, rfl⟩
      refine ⟨_, rfl, cell, rfl, .inl ⟨_, rfl, ?_⟩⟩
      refine ⟨_, _, rfl, rfl, ⟨by decide, by decide +kernel⟩, _, _, rfl, rfl, ⟨by decide, by decide +kernel⟩, _, _, rfl, rfl, bigM, ?_⟩
      refine ⟨_, rfl, .inl ⟨_, rfl, _, _, rfl, rfl, (by show (0 : Int) < 2305843009213693723; decide), _, _, rfl, rfl, .inr ?_, _, rfl, _, _, rfl, rfl, .inl ?_, _, _, rfl, rfl, ?_⟩⟩
      · show -(2 ^ 64) < (1000231 : Int) ∧ (1000231 : Int) < 2 ^ 64
        decide
      · show -(2 ^ 64) < (9011 : Int) ∧ (9011 : Int) < 2 ^ 64
        decide
      · refine ⟨_, rfl, _, _, rfl, rfl, .inr ⟨_, rfl, _, _, rfl, rfl, .inl ?_, _, _, rfl, rfl, _, _, rfl, rfl, ?_⟩⟩
        · show -(2 ^ 64) < (41 : Int) ∧ (41 : Int) < 2 ^ 64
          decide
        · refine ⟨_, rfl, _, _, rfl, rfl, ⟨by decide, by decide +kernel⟩, _, _, rfl, rfl, _, _, rfl, ?_⟩
          refine ⟨_, rfl, .inl ⟨_, rfl, _, _, rfl, rfl, ?_, (by show 3 ≤ sizeLine; decide), fun p hp => ?_⟩⟩
          · show (0 : Int) < 2305843009213693951
            decide
          · exact k p _ (s1.free hp) (fun b o e => by rw [upd_ne (ne_of_none (s1 b o e) hp)]; exact s1 b o e) ⟨_, _, _, upd_same⟩
theorem scDraw : FnScope ["bag", "total", "found", "one", "two"] ["bag", "total"] (defScope sDraw) := ⟨rfl, rfl, rfl, by decide +kernel, rfl, by decide +kernel, by decide +kernel⟩
theorem ok_draw {f : Addr} {fd : FuncData} (F : Fun K "_law_draw" "_law_draw" sDraw f fd) (T : TB mg) : FnOk P w K mg base CX0 1 f fd ["bag", "total"] spDraw := by
  refine F.ok scDraw (fun vs H Q E h => ?_) (fun cdv A outer s H vs Q E hr h => ?_)
  · obtain ⟨p, a, b, c, n, rfl, _⟩ := h
    rfl
  · obtain ⟨p, a, b, c, n, rfl, hp, hn, hw, k⟩ := h
    have B0 : Bgd p H H := Bgd.rfl' hp
    refine ⟨_, pss_cons (ps_if (pt_cmpR op_gt (pe_ix ix_list (pv 0) pe_int (fun _ _ => rfl)) pe_int (nomark _))
        (pss_cons (ps_set (i := 2) scDraw.nd rfl (Or.inl rfl) (pe_op op_mod (pe_callTy call_int1 (by rfl) T.int (by decide +kernel) (pa_cons (pe_ix ix_list (pv 0) pe_int (fun _ _ => rfl)) pa_nil)) (pv 1)))
        (pss_cons (ps_asg (pe_op op_fdivW (pe_ix ix_list (pv 0) pe_int (fun _ _ => rfl)) (pv 1)) (pg_sub (pv 0) pe_int set_list))
        (pss_one (ps_ret (pv 2))))) pss_nil)
      (pss_cons (ps_asg (pe_op op_add (pe_ix ix_list (pv 0) pe_int (fun _ _ => rfl)) pe_int) (pg_sub (pv 0) pe_int set_list))
      (pss_cons (ps_set (i := 3) scDraw.nd rfl (Or.inl rfl) (pe_op op_mod (pe_callTy call_int1 (by rfl) T.int (by decide +kernel) (pa_cons (pe_op op_add (pe_ix ix_list (pv 0) pe_int (fun _ _ => rfl)) (pe_op op_mul pe_int (pe_ix ix_list (pv 0) pe_int (fun _ _ => rfl)))) pa_nil)) pe_int))
      (pss_cons (ps_set (i := 4) scDraw.nd rfl (Or.inl rfl) (pe_op op_add (pe_op op_mul (pe_op op_mod (pe_callTy call_int1 (by rfl) T.int (by decide +kernel) (pa_cons (pe_op op_mul (pv 3) (pv 3)) pa_nil)) pe_int) (pv 3)) (pe_op op_mul pe_int (pe_ix ix_list (pv 0) pe_int (fun _ _ => rfl)))))
      (pss_one (ps_ret (pe_op op_mod (pe_callTy call_int1 (by rfl) T.int (by decide +kernel) (pa_cons (pe_op op_fdiv (pe_op op_mod (pe_callTy call_int1 (by rfl) T.int (by decide +kernel) (pa_cons (pv 4) pa_nil)) pe_int) pe_int) pa_nil)) (pv 1))))))), ?_⟩
    refine ⟨_, rfl, p, _, _, V.int a, rfl, rfl, SqL.of hp, rfl, _, _, rfl, rfl, _, rfl, ?_⟩
    refine ite2 (fun _ => ?_) (fun _ => ?_)
    · refine ⟨_, rfl, p, _, _, V.int a, rfl, rfl, SqL.of hp, rfl, .inl ⟨_, rfl, _, rfl, _, _, rfl, rfl, hn, ?_⟩⟩
      refine ⟨_, rfl, p, _, _, V.int a, rfl, rfl, SqL.of hp, rfl, _, rfl, _, _, rfl, rfl, ⟨hn, hw⟩, ?_⟩
      refine ⟨_, rfl, p, _, _, 0, rfl, rfl, hp, rfl, _, rfl, ?_⟩
      exact k _ _ (Int.emod_nonneg _ (by omega)) (Int.emod_lt_of_pos _ hn) (B0.put _ _ _)
    · refine ⟨_, rfl, p, _, _, V.int c, rfl, rfl, SqL.of hp, rfl, _, _, rfl, rfl, ?_⟩
      refine ⟨_, rfl, p, _, _, 2, rfl, rfl, hp, rfl, ?_⟩
      refine ⟨_, rfl, p, _, _, V.int b, rfl, rfl, SqL.of upd_same, rfl, _, rfl, p, _, _, V.int (c + 1), rfl, rfl, SqL.of upd_same, rfl, _, _, rfl, rfl, .inl ?_, _, _, rfl, rfl, .inl ⟨_, rfl, _, _, rfl, rfl, ?_, ?_⟩⟩
      · show -(2 ^ 64) < (1048609 : Int) ∧ (1048609 : Int) < 2 ^ 64
        decide
      · show (0 : Int) < 2305843009213693951
        decide
      have o1 : 0 ≤ (b + 1048609 * (c + 1)) % 2305843009213693951 := Int.emod_nonneg _ (by decide)
      have o2 : (b + 1048609 * (c + 1)) % 2305843009213693951 < 2305843009213693951 := Int.emod_lt_of_pos _ (by decide)
      generalize (b + 1048609 * (c + 1)) % 2305843009213693951 = one at o1 o2 ⊢
      refine ⟨_, rfl, _, rfl, _, _, rfl, rfl, .inl ⟨by omega, by omega⟩, .inl ⟨_, rfl, _, _, rfl, rfl, ?_, ?_⟩⟩
      · show (0 : Int) < 2305843009213693723
        decide
      have t1 : 0 ≤ one * one % 2305843009213693723 := Int.emod_nonneg _ (by decide)
      have t2 : one * one % 2305843009213693723 < 2305843009213693723 := Int.emod_lt_of_pos _ (by decide)
      generalize one * one % 2305843009213693723 = sq at t1 t2 ⊢
      refine ⟨_, rfl, _, _, rfl, rfl, .inl ⟨by omega, by omega⟩, _, rfl, p, _, _, V.int (c + 1), rfl, rfl, SqL.of upd_same, rfl, _, _, rfl, rfl, .inl ?_, _, _, rfl, rfl, ?_⟩
      · show -(2 ^ 64) < (8117 : Int) ∧ (8117 : Int) < 2 ^ 64
        decide
      generalize sq * one + 8117 * (c + 1) = two
      refine ⟨_, rfl, .inl ⟨_, rfl, _, _, rfl, rfl, ?_, _, _, rfl, rfl, ?_, .inl ⟨_, rfl, _, rfl, _, _, rfl, rfl, hn, ?_⟩⟩⟩
      · show (0 : Int) < 2305843009213693921
        decide
      · exact ⟨by decide, by decide⟩
      exact k _ _ (Int.emod_nonneg _ (by omega)) (Int.emod_lt_of_pos _ hn) (B0.put _ _ _)
theorem scOne : FnScope ["bag", "items"] ["bag", "items"] (defScope sOne) := ⟨rfl, rfl, rfl, by decide +kernel, rfl, by decide +kernel, by decide +kernel⟩
theorem ok_one {f fD : Addr} {fd fdD : FuncData} (F : Fun K "_law_one_of" "_law_one_of" sOne f fd) (T : TB mg) (FD : FnOk P w K mg base CX0 1 fD fdD ["bag", "total"] spDraw) (bD : Binds K fdD ["bag", "total"] []) (gD : mg "_law_draw" = some (.ref fD)) (kD : PySem.W.keepIn K (.ref fD) = true) :
    FnOk P w K mg base CX0 2 f fd ["bag", "items"] spOne := by
  refine F.ok scOne (fun vs H Q E h => ?_) (fun cdv A outer s H vs Q E hr h => ?_)
  · obtain ⟨p, q, a, b, c, xs, rfl, _⟩ := h
    rfl
  · obtain ⟨p, q, a, b, c, xs, rfl, hp, hne, hq, h0, h1, k⟩ := h
    refine ⟨_, pss_one (ps_ret (pe_ix ix_list (pv 1) (pe_call FD hr (by rfl) gD kD bD .nil pass0 (pa_cons (pv 0) (pa_cons (pe_callB call_len_seq (by rfl) T.len PySem.boot_len (pa_cons (pv 1) pa_nil)) pa_nil))) (fun _ _ => rfl))), ?_⟩
    refine ⟨_, rfl, _, rfl, _, rfl, q, _, rfl, .inl (SqL.of hq), p, a, b, c, _, rfl, hp, by omega, log_len h1, ?_⟩
    · intro r H' r0 r1 B
      obtain ⟨v, e1, e2⟩ := atI_in r0 r1
      exact ⟨q, xs, _, v, rfl, rfl, SqL.of (B.keep _ _ hne hq), e1, k r.toNat _ _ e2 B⟩
end
end Q
set_option Elab.async false
set_option linter.all false
set_option maxRecDepth 100000
set_option maxHeartbeats 4000000
namespace Q
open PySem L2 PySem.Spec PyProof.Rows PySem.Calls
section
variable {X : Cx}
def CDv (_ j : Int) : Prop := j ≠ 0 ∧ j.natAbs.log2 < 9000
theorem op_dv : OpR X (binaryOp .FloorDiv) (rI CDv fun i j => .int (i.fdiv j)) := opI fun i j _ _ _ _ _ hc q => floordiv_int hc.1 q (.inl (PyProof.noPylong_of_log2 hc.2))
end
structure Bd (k : Nat) (i : Int) : Prop where
  lt : i.natAbs < 2 ^ k
theorem Bd.le {a b : Nat} {i : Int} (x : Bd a i) (h : a ≤ b) : Bd b i := ⟨Nat.lt_of_lt_of_le x.lt (Nat.pow_le_pow_right (by decide) h)⟩
theorem Bd.neg {a : Nat} {i : Int} (x : Bd a i) : Bd a (-i) := ⟨by rw [Int.natAbs_neg]; exact x.lt⟩
theorem Bd.mul {a b : Nat} {i j : Int} (x : Bd a i) (y : Bd b j) : Bd (a + b) (i * j) := ⟨wide_lt x.lt y.lt⟩
theorem Bd.add {a : Nat} {i j : Int} (x : Bd a i) (y : Bd a j) : Bd (a + 1) (i + j) := ⟨by
  have h1 := x.lt
  have h2 := y.lt
  have h3 := Int.natAbs_add_le i j
  rw [Nat.pow_succ]
  omega⟩
theorem Bd.sub {a : Nat} {i j : Int} (x : Bd a i) (y : Bd a j) : Bd (a + 1) (i - j) := by
  rw [Int.sub_eq_add_neg]
  exact x.add y.neg
theorem Bd.pos {a : Nat} {i : Int} (x : Bd a i) : Bd (a + 1) i := x.le (Nat.le_succ a)
theorem Bd.mw {a b : Nat} {i j : Int} (x : Bd a i) (y : Bd b j) (h : a + b + 2 ≤ 1000000) : CMulW i j := wide_mul x.pos.lt y.pos.lt (Nat.succ_pos _) (Nat.succ_pos _) (by omega)
theorem Bd.log {a : Nat} {i : Int} (x : Bd a i) (h : a + 1 ≤ 9000) : i.natAbs.log2 < 9000 := Nat.lt_of_lt_of_le (PySem.Flt.log2_lt_of (Nat.succ_pos _) x.pos.lt) h
theorem Bd.of_le {a : Nat} {i j : Int} (x : Bd a j) (h : i.natAbs ≤ j.natAbs) : Bd a i := ⟨Nat.lt_of_le_of_lt h x.lt⟩
end Q
namespace Q
open PySem L2 PySem.Spec PyProof.Rows PySem.Calls
theorem no_dec {p : Prop} [Decidable p] (h : ¬ decide p = true) : ¬ p := fun hp => h (decide_eq_true hp)
structure Cl (P : Program) (w : World) (K : PySem.W.Frag) (mg : Str → Option Value) (base : Heap) (k : Nat) (x : Str) (sp : Sp) : Prop where
  ex : ∃ (f : Addr) (fd : FuncData) (ps : List Str), FnOk P w K mg base CX0 k f fd ps sp ∧ mg x = some (.ref f) ∧ PySem.W.keepIn K (.ref f) = true ∧ Binds K fd ps []
section
variable {X : Cx} {k j : Nat} {x : Str} {sp : Sp} {p pos : Pos} {e : Expr} {es : List Expr} {t : TA}
theorem pe_cl (c : Cl X.prog X.w X.K X.mg X.base k x sp) (hr : Room j X.A) (hk : k ≤ j) (hg : Gl X x) (ha : PA X (e :: es) t)
    (hdb : (x == ("__debug__" : Str)) = false := by decide) (he : starEach (e :: es) X.env = (false, eval e X.env) :: starEach es X.env := by rfl) (hpl : (backTo pos (starEach es X.env)).any (·.1) = false := by rfl) :
    PE X (.Call (.Name x p) (e :: es) [] pos) (tCall sp [] E0 t) := by
  obtain ⟨f, fd, ps, F, hm, kp, b⟩ := c.ex
  exact pe_call F (hr.mono hk) hg hm kp b .nil pass0 ha hdb he hpl
end
section
variable {K : PySem.W.Frag} {σ : L2.St} {H : Hp} {ta tb : TE} {a b : Nat} {m n : Int}
end
section
variable {K : PySem.W.Frag} {σ : L2.St} {H : Hp} {k i : Nat} {a : Addr} {p : P3}
end
section
variable {P : Program} {w : World} {K : PySem.W.Frag} {mg : Str → Option Value} {base : Heap}
end
end Q
namespace Q
open PySem L2 PySem.Spec PyProof.Rows PySem.Calls
def ValA (ta : TA) (σ : L2.St) (H : Hp) (vs : List V) : Prop := ∀ Q : List V → Hp → Prop, Q vs H → ta σ H Q
section
variable {σ : L2.St} {H : Hp} {te : TE} {t : TA} {v : V} {vs : List V} {sp : Sp} {PV : V → Hp → Prop} {E : XK} {r : List V → Hp → VK → Prop}
theorem va_nil : ValA tNil σ H [] := fun _ q => q
theorem va_cons (h : Val te σ H v) (ht : ValA t σ H vs) : ValA (tCons te t) σ H (v :: vs) := by
  intro Q q
  refine h _ ?_
  exact ht _ q
theorem vh_call (ha : ValA t σ H vs) (hs : ∀ Q : VK, (∀ v H', PV v H' → Q v H') → sp vs H Q E) : ValH (tCall sp [] E t) σ H PV := by
  intro Q q
  refine ha _ ?_
  rw [List.append_nil]
  exact hs Q q
theorem val_call (ha : ValA t σ H vs) (hs : ∀ Q : VK, Q v H → sp vs H Q E) : Val (tCall sp [] E t) σ H v := by
  intro Q q
  refine ha _ ?_
  rw [List.append_nil]
  exact hs Q q
theorem val_cb (ha : ValA t σ H vs) (hs : ∀ Q : VK, Q v H → r vs H Q) : Val (tCB r t) σ H v := by
  intro Q q
  refine ha _ ?_
  exact hs Q q
theorem vh_tup (ha : ValA t σ H vs) (hl : vs.length ≤ sizeLine) (k : ∀ p, H p = none → PV (.ref p) (upd H p (.tup vs))) : ValH (tTup t) σ H PV := by
  intro Q q
  refine ha _ ⟨hl, fun p hp => q _ _ (k p hp)⟩
theorem ret_h {D : Ends} (h : ValH te σ H PV) (q : ∀ v H', PV v H' → D.rt v H') : tRet te D σ H := h _ q
end
theorem bd_div {k : Nat} {x g : Int} (b : Bd k x) : Bd k (x / g) := b.of_le (Int.natAbs_ediv_le_natAbs x g)
section
variable {P : Program} {w : World} {K : PySem.W.Frag} {mg : Str → Option Value} {base : Heap}
end
end Q
namespace Q
open PySem L2 PySem.Spec PyProof.Rows PySem.Calls
abbrev sIsInt : Stmt := top 10
section
variable {K : PySem.W.Frag} {σ : L2.St} {H : Hp} {ta tb : TE} {i j : Nat} {D : Ends} {m n : V} {c d : Bool}
theorem st_unp2 (h : ValH ta σ H (fun v H' => ∃ l, v = .ref l ∧ Same H H' ∧ H' l = some (.tup [m, n]))) (q : ∀ H', Same H H' → D.nx ((σ.set i (some m)).set j (some n)) H') :
    tAsg ta (gTup K 2 (gCons (gName i) (gCons (gName j) gNil))) D σ H := by
  refine h _ ?_
  rintro v H' ⟨l, rfl, e, hl⟩
  exact ⟨l, _, rfl, SqT.of hl, rfl, _, _, rfl, _, _, rfl, rfl, q H' e⟩
theorem val_and (h1 : Val ta σ H (.bl c)) (h2 : c = true → Val tb σ H (.bl d)) : Val (tAndV ta tb) σ H (.bl (c && d)) := by
  intro Q q
  refine h1 _ ⟨c, rfl, ?_⟩
  cases c with
  | true => exact h2 rfl _ q
  | false => exact q
theorem val_not (h1 : Val ta σ H (.bl c)) : Val (tNotV ta) σ H (.bl (!c)) := by
  intro Q q
  exact h1 _ ⟨c, rfl, q⟩
theorem ans_i {g : Int → Int → V} {i j : Int} {b : Bool} (ha : Val ta σ H (.int i)) (hb : Val tb σ H (.int j)) (hg : g i j = .bl b) : Ans (tTest (tOp (rI0 g) ta tb)) σ H b :=
  ans_cmp ha hb fun Q q => ⟨_, _, rfl, rfl, by rw [hg]; exact q⟩
theorem val_pair (h1 : Val ta σ H m) (h2 : Val tb σ H n) : ValA (tCons ta (tCons tb tNil)) σ H [m, n] := va_cons h1 (va_cons h2 va_nil)
end
structure TI (mg : Str → Option Value) : Prop where
  isi : mg "isinstance" = none
  int : mg "int" = none
  bool : mg "bool" = none
  tuple : mg "tuple" = none
  len : mg "len" = none
inductive Sc : V → Bool → Prop where
  | int (i : Int) : Sc (.int i) true
  | bl (b : Bool) : Sc (.bl b) false
  | non : Sc .non false
def spIsInt : Sp := fun vs H Q _ => ∃ (v : V) (b : Bool), vs = [v] ∧ Sc v b ∧ Q (.bl b) H
section
variable {P : Program} {w : World} {K : PySem.W.Frag} {mg : Str → Option Value} {base : Heap}
theorem scIsInt : FnScope ["value"] ["value"] (defScope sIsInt) := ⟨rfl, rfl, rfl, by decide +kernel, rfl, by decide +kernel, by decide +kernel⟩
theorem val_isi {σ : L2.St} {H : Hp} {ta : TE} {v : V} {T U : String} {b : Bool} (h : Val ta σ H v) (t : TyX K H v (.type U)) (e : PySem.W.kitOne K (.type U) (.type T) = some b) : Val (tCB (rIsi K) (tCons ta (tCons (tC (.ty T)) tNil))) σ H (.bl b) :=
  val_cb (val_pair h val_c) fun Q q => ⟨_, _, _, _, _, rfl, .ty _, t, e, q⟩
theorem ok_isint {f : Addr} {fd : FuncData} (F : Fun K "is_integer" "is_integer" sIsInt f fd) (T : TI mg) : FnOk P w K mg base CX0 1 f fd ["value"] spIsInt := by
  refine F.ok scIsInt (fun vs H Q E h => ?_) (fun cdv A outer s H vs Q E hr h => ?_)
  · obtain ⟨v, b, rfl, _⟩ := h
    rfl
  · obtain ⟨v, b, rfl, hv, k⟩ := h
    refine ⟨_, pss_one (ps_ret (pe_and (pe_callB call_isi (by rfl) T.isi PyProof.Rows.boot_isinstance (pa_cons (pv 0) (pa_cons (pe_bltn (v := .ty "int") (by rfl) T.int (by decide +kernel) rfl) pa_nil)))
      (pe_one (pe_not (pe_callB call_isi (by rfl) T.isi PyProof.Rows.boot_isinstance (pa_cons (pv 0) (pa_cons (pe_bltn (v := .ty "bool") (by rfl) T.bool (by decide +kernel) rfl) pa_nil))))))), ?_⟩
    cases hv with
    | int i => exact st_ret (val_and (val_isi (b := true) (val_var rfl) (.base (.int i)) (kit_ty (by decide +kernel))) fun _ => val_not (val_isi (b := false) (val_var rfl) (.base (.int i)) (kit_ty (by decide +kernel)))) k
    | bl c => exact st_ret (val_and (val_isi (b := true) (val_var rfl) (.base (.bl c)) (kit_ty (by decide +kernel))) fun _ => val_not (val_isi (b := true) (val_var rfl) (.base (.bl c)) (kit_ty (by decide +kernel)))) k
    | non => exact st_ret (val_and (c := false) (d := false) (val_isi (b := false) (val_var rfl) (.base .non) (kit_ty (by decide +kernel))) fun h => absurd h (by decide)) k
end
end Q
set_option Elab.async false
set_option linter.all false
set_option maxRecDepth 100000
set_option maxHeartbeats 4000000
namespace Q
open PySem L2 PySem.Spec PyProof.Rows PySem.Calls
open Evl
def EvB (p : Addr) (te : TE) (σ : L2.St) (R : Int → Prop) : Prop := ∀ (H1 : Hp), (∃ a b c : Int, H1 p = some (.lst [.int a, .int b, .int c])) → ∀ Q : VK, (∀ n H2, R n → Bgd p H1 H2 → Q (.int n) H2) → te σ H1 Q
section
variable {p : Addr} {σ : L2.St} {te ta tb tc : TE} {R S : Int → Prop} {n N : Int} {E : XK} {i : Nat} {H : Hp} {D : Ends} {u : TS}
theorem Bgd.id' {H1 : Hp} (h : ∃ a b c : Int, H1 p = some (.lst [.int a, .int b, .int c])) : Bgd p H1 H1 := ⟨h, fun _ _ _ e => e⟩
theorem eb_val (h : ∀ H, Val te σ H (.int n)) (r : R n) : EvB p te σ R := fun H1 hb Q q => h H1 _ (q n H1 r (Bgd.id' hb))
theorem eb_c (r : R n) : EvB p (tC (.int n)) σ R := eb_val (fun _ => val_c) r
theorem eb_var (h : σ[i]? = some (some (.int n))) (r : R n) : EvB p (tVar i) σ R := eb_val (fun _ => val_var h) r
theorem eb_op {g : Int → Int → Int} {T : Int → Prop} (ha : EvB p ta σ R) (hb : EvB p tb σ S) (hr : ∀ m n, R m → S n → T (g m n)) : EvB p (tOp (rI0 fun i j => .int (g i j)) ta tb) σ T := fun H1 x Q q =>
  ha H1 x _ fun m H2 r2 g2 => hb H2 g2.bag _ fun n H3 r3 g3 => ⟨m, n, rfl, rfl, q _ H3 (hr m n r2 r3) (g2.trans g3)⟩
theorem eb_mul {T : Int → Prop} (ha : EvB p ta σ R) (hb : EvB p tb σ S) (hc : ∀ m n, R m → S n → CMulW m n) (hr : ∀ m n, R m → S n → T (m * n)) : EvB p (tOp (rI CMulW fun i j => .int (i * j)) ta tb) σ T := fun H1 x Q q =>
  ha H1 x _ fun m H2 r2 g2 => hb H2 g2.bag _ fun n H3 r3 g3 => ⟨m, n, rfl, rfl, hc m n r2 r3, q _ H3 (hr m n r2 r3) (g2.trans g3)⟩
theorem eb_draw (hs : σ[i]? = some (some (.ref p))) (hn : EvB p tb σ (fun n => 0 < n ∧ n ≤ N ∧ n.natAbs.log2 < 9000)) : EvB p (tCall spDraw [] E (tCons (tVar i) (tCons tb tNil))) σ (fun r => 0 ≤ r ∧ r < N) := fun H1 x Q q =>
  ⟨_, hs, hn H1 x _ fun n H2 r2 g2 => by
    obtain ⟨a, b, c, e⟩ := g2.bag
    exact ⟨p, a, b, c, n, rfl, e, r2.1, r2.2.2, fun r H3 h0 h1 g3 => q r H3 ⟨h0, Int.lt_of_lt_of_le h1 r2.2.1⟩ (g2.trans g3)⟩⟩
theorem eb_one {ta : TA} {xs : List Int} (hs : σ[i]? = some (some (.ref p))) (ha : ∀ H1, ValA ta σ H1 (xs.map V.int)) (h0 : 0 < xs.length) (h1 : xs.length ≤ 1000) (hr : ∀ n ∈ xs, R n) : EvB p (tCall spOne [] E (tCons (tVar i) (tCons (tLst ta) tNil))) σ R := fun H1 x Q q =>
  ⟨_, hs, ha H1 _ ⟨(by rw [List.length_map]; exact Nat.le_trans h1 (by decide)), fun l hl => by
    obtain ⟨a, b, c, e⟩ := x
    have ne : l ≠ p := by
      intro z
      rw [z, e] at hl
      cases hl
    refine ⟨p, l, a, b, c, xs.map V.int, rfl, (by rw [upd_ne ne.symm]; exact e), ne, upd_same, (by rw [List.length_map]; exact h0), (by rw [List.length_map]; exact h1), fun k v H2 hv g2 => ?_⟩
    rw [List.getElem?_map] at hv
    cases hx : xs[k]? with
    | none =>
      rw [hx] at hv
      cases hv
    | some m =>
      rw [hx] at hv
      cases hv
      exact q m H2 (hr m (List.mem_of_getElem? hx)) ((Bgd.new (Bgd.id' ⟨a, b, c, e⟩) hl).trans g2)⟩⟩
theorem q_asgB (h : EvB p te σ R) (hb : ∃ a b c : Int, H p = some (.lst [.int a, .int b, .int c])) (k : ∀ n H1, R n → Bgd p H H1 → u D (σ.set i (some (.int n))) H1) : tSeq (tAsg te (gName i)) u D σ H := h H hb _ k
end
theorem ne_bag {p l : Addr} {H : Hp} (h : ∃ a b c : Int, H p = some (.lst [.int a, .int b, .int c])) (hl : H l = none) : l ≠ p := by
  obtain ⟨a, b, c, e⟩ := h
  intro z
  rw [z, e] at hl
  cases hl
theorem ne_tup {p l : Addr} {H : Hp} {xs : List V} (h : ∃ a b c : Int, H p = some (.lst [.int a, .int b, .int c])) (hl : H l = some (.tup xs)) : l ≠ p := by
  obtain ⟨a, b, c, e⟩ := h
  intro z
  rw [z, e] at hl
  cases hl
theorem tup_at {p l : Addr} {H H' : Hp} {xs : List V} (g : Bgd p H H') (hb : ∃ a b c : Int, H p = some (.lst [.int a, .int b, .int c])) (hl : H l = some (.tup xs)) : H' l = some (.tup xs) := g.keep _ _ (ne_tup hb hl) hl
theorem bag_ex {p : Addr} {H H' : Hp} (e : Ex H H') (h : ∃ a b c : Int, H p = some (.lst [.int a, .int b, .int c])) : Bgd p H H' := by
  obtain ⟨a, b, c, q⟩ := h
  exact ⟨⟨a, b, c, e _ _ q⟩, fun l o _ z => e l o z⟩
theorem val_neg {σ : L2.St} {H : Hp} {n : Int} : Val (tUn (rU fun i => .int (-i)) (tC (.int n))) σ H (.int (-n)) := fun Q q => ⟨n, rfl, q⟩
theorem bd_of {n : Int} (h : n.natAbs ≤ 10 ^ 20) : Bd 100 n := ⟨Nat.lt_of_le_of_lt h (by decide)⟩
theorem log_of {n : Int} (h : n.natAbs ≤ 10 ^ 21) : n.natAbs.log2 < 9000 := (⟨Nat.lt_of_le_of_lt h (by decide)⟩ : Bd 100 n).log (by decide)
end Q
namespace Q
open PySem L2 PySem.Spec PyProof.Rows PySem.Calls
open Evl
section
variable {K : PySem.W.Frag} {σ : L2.St} {H : Hp} {ta tb te : TE} {a b i j : Nat} {m n : Int} {E : XK}
theorem ev_ixT {p : Addr} {xs : List V} {k : Int} {v : V} (h : Ev ta σ H (.ref p)) (hx : H p = some (.tup xs)) (hk : atI xs k = some v) : Ev (tOp (rIxT K) ta (tC (.int k))) σ H v := ev_op h ev_c (rv_ixT (SqT.of hx) hk)
theorem ev_ixL {p : Addr} {xs : List V} {k : Int} {v : V} (h : Ev ta σ H (.ref p)) (hx : H p = some (.lst xs)) (hk : atI xs k = some v) : Ev (tOp (rIxL K) ta (tC (.int k))) σ H v := ev_op h ev_c (rv_ixL (SqL.of hx) hk)
end
end Q
namespace Q
open PySem L2 PySem.Spec PyProof.Rows PySem.Calls
open Evl
section
variable {K : PySem.W.Frag} {σ : L2.St} {H : Hp} {t : TT} {te ta tb : TE} {v : V}
theorem el_lcT {a : Addr} {xs : List V} {tl : TE} {j : Nat} {vs : List Nat} (f : Nat → Bool) (v : Nat → V) (h : Ev tl σ H (.ref a)) (hx : SqT K H a xs) (hz : xs.length ≤ 40000) (hw : ∀ x, wipe ((wipe σ vs).set j (some x)) vs = wipe σ vs)
    (ht : ∀ (i : Nat) (x : V) H1, Ex H H1 → xs[i]? = some x → EvT t ((wipe σ vs).set j (some x)) H1 (f i)) (he : ∀ (i : Nat) (x : V) H1, Ex H H1 → xs[i]? = some x → f i = true → Ev te ((wipe σ vs).set j (some x)) H1 (v i)) :
    EvL (tLc (iTup K tl) (gName j) t te vs) σ H (given xs.length f v) := fun H0 e Q q => h H0 e _ fun H1 e1 => ⟨a, rfl, ⟨xs, ex_t (e.trans e1) hx⟩, fun Dl hD =>
  lc_tup (xs := xs) (Cw H1 f v Dl) ⟨hD, Ex.new hD, upd_same⟩ (fun i H' _ p => ex_t ((e.trans e1).trans p.2.1) hx) (fun i x H' hi p => ⟨hw x, cw_turn p (by have := (List.getElem?_eq_some_iff.mp hi).1; omega) (ht i x H1 (e.trans e1) hi) (fun hf => he i x H1 (e.trans e1) hi hf)⟩)
    (fun H' p => q Dl H' (fresh_back e1 p.1) (e1.trans p.2.1) p.2.2)⟩
theorem el_cat {x : Addr} {xs ys : List V} (h : Ev ta σ H (.ref x)) (hx : H x = some (.lst xs)) (hb : EvL tb σ H ys) (hz : xs.length + ys.length ≤ 100000) : EvL (tOp rCat ta tb) σ H (xs ++ ys) := fun H1 e Q q =>
  h H1 e _ fun H2 e2 => hb H2 (e.trans e2) _ fun l H3 hl e3 hl3 => ⟨x, l, xs, ys, rfl, rfl, e3 _ _ (e2 _ _ (e _ _ hx)), hl3, sz_of hz, fun p hp => q p _ (fresh_back (e2.trans e3) hp) ((e2.trans e3).trans (Ex.new hp)) upd_same⟩
theorem q_par {i j : Nat} {v1 v2 : V} {D : Ends} {tz : TS} (h1 : Ev ta σ H v1) (h2 : Ev tb σ H v2) (k : ∀ H1, Ex H H1 → tz D ((σ.set i (some v1)).set j (some v2)) H1) : tSeq (tPar i j (tCons ta (tCons tb tNil))) tz D σ H :=
  h1 H (Ex.refl H) _ fun H2 e2 => h2 H2 e2 _ fun H3 e3 => ⟨_, _, rfl, k H3 (e2.trans e3)⟩
end
end Q
namespace Q
open PySem L2 PySem.Spec PyProof.Rows PySem.Calls
open Evl
section
variable {K : PySem.W.Frag} {σ : L2.St} {H : Hp} {ta tb tc te : TE} {n m l : Int} {b : Bool} {D : Ends} {u : TS} {p q : P3} {i j : Nat} {E : XK}
theorem ev_min2 (ha : Ev ta σ H (.int n)) (hb : Ev tb σ H (.int m)) : Ev (tCB (fun xs H Q => ∃ i j, xs = [.int i, .int j] ∧ Q (.int (if j < i then j else i)) H) (tCons ta (tCons tb tNil))) σ H (.int (min n m)) := fun H1 e Q q =>
  ha H1 e _ fun H2 e2 => hb H2 (e.trans e2) _ fun H3 e3 => ⟨n, m, rfl, by
    have z : (if m < n then m else n) = min n m := by split <;> omega
    rw [z]
    exact q H3 (e2.trans e3)⟩
theorem ev_max2' (ha : Ev ta σ H (.int n)) (hb : Ev tb σ H (.int m)) : Ev (tCB (fun xs H Q => ∃ i j, xs = [.int i, .int j] ∧ Q (.int (if j > i then j else i)) H) (tCons ta (tCons tb tNil))) σ H (.int (max n m)) := fun H1 e Q q =>
  ha H1 e _ fun H2 e2 => hb H2 (e.trans e2) _ fun H3 e3 => ⟨n, m, rfl, by
    have z : (if m > n then m else n) = max n m := by split <;> omega
    rw [z]
    exact q H3 (e2.trans e3)⟩
theorem q_not {t : TT} {tu : TS} (h : EvT t σ H false) (k : ∀ H1, Ex H H1 → u D σ H1) : tSeq (tIfS t tu tNext) u D σ H := q_when h (fun z => nomatch z) fun _ => k
end
end Q
namespace Q
open PySem L2
abbrev sShuf : Stmt := top 45
theorem pick {α : Type} : ∀ (ws : List α) (r : Nat) (y : α), ws[r]? = some y → (y :: ws.eraseIdx r).Perm ws
  | [], r, y, h => by simp at h
  | a :: l, 0, y, h => by
    have e : a = y := Option.some.inj h
    subst e
    exact List.Perm.refl _
  | a :: l, r + 1, y, h => by
    have ih := pick l r y h
    exact (List.Perm.swap a y _).trans (List.Perm.cons a ih)
theorem yes_ite {σ : L2.St} {H : Hp} {A B : Hp → Prop} (h : A H) : tYes σ H (fun b H3 => if b = true then A H3 else B H3) := by
  show (if true = true then A H else B H)
  rw [if_pos rfl]
  exact h
theorem seqAt {r : Int} {n : Nat} (h0 : 0 ≤ r) (h : r < n) : seqIndex? r n = some r.toNat := PySem.seqIndex_of h0 h
theorem Bgd.old {p l : Addr} {H H1 : Hp} {o : HO} (x : Bgd p H H1) (hl : H l = none) (n : l ≠ p) : Bgd p H (upd H1 l o) := by
  obtain ⟨a, b, c, e⟩ := x.bag
  refine ⟨⟨a, b, c, by rw [upd_ne (Ne.symm n)]; exact e⟩, fun m u nm q => ?_⟩
  rw [upd_ne (ne_of_none q hl)]
  exact x.keep m u nm q
def rLn (K : PySem.W.Frag) : List V → Hp → VK → Prop := fun xs H Q => ∃ p ys, xs = [.ref p] ∧ (SqL K H p ys ∨ SqT K H p ys) ∧ Q (.int ys.length) H
section
variable {P : Program} {w : World} {K : PySem.W.Frag} {mg : Str → Option Value} {base : Heap}
theorem scShuf : FnScope ["bag", "items", "waits", "turn"] ["bag", "items"] (defScope sShuf) := ⟨rfl, rfl, rfl, by decide +kernel, rfl, by decide +kernel, by decide +kernel⟩
structure Mid (p W D : Addr) (xs : List V) (H : Hp) (i : Nat) (H' : Hp) : Prop where
  bg : Bgd p H H'
  at_ : ∃ ws acc, H' W = some (.lst ws) ∧ H' D = some (.lst acc) ∧ (acc ++ ws).Perm xs ∧ acc.length = i
theorem ok_shuf {f fD : Addr} {fd fdD : FuncData} (F : Fun K "_law_shuffled" "_law_shuffled" sShuf f fd) (T : TB mg) (FD : FnOk P w K mg base CX0 1 fD fdD ["bag", "total"] spDraw) (bD : Binds K fdD ["bag", "total"] []) (gD : mg "_law_draw" = some (.ref fD)) (kD : PySem.W.keepIn K (.ref fD) = true) :
    FnOk P w K mg base CX0 2 f fd ["bag", "items"] spShuf := by
  refine F.ok scShuf (fun vs H Q E h => ?_) (fun cdv A outer s H vs Q E hr h => ?_)
  · obtain ⟨p, q, a, b, c, xs, rfl, _⟩ := h
    rfl
  · obtain ⟨p, q, a, b, c, xs, rfl, hp, hne, hq, h1, k⟩ := h
    have B0 : Bgd p H H := Bgd.rfl' hp
    refine ⟨_, pss_cons (ps_set (i := 2) scShuf.nd rfl (Or.inr rfl) (pe_callTy call_list_of (by rfl) T.list (by decide +kernel) (pa_cons (pv 1) pa_nil)))
      (pss_one (ps_ret (pe_lc (own := [("turn", 3)]) (g := gName 3) (by rfl) scShuf.nd
        (pi_range1 rfl T.range (pa_cons (pe_callB call_len_seq (by rfl) T.len PySem.boot_len (pa_cons (pv 1) pa_nil)) pa_nil))
        (blkOk_by (own := [("turn", 3)]) (N := ["bag", "items", "waits", "turn"]) (sc := defScope sShuf) (by decide +kernel))
        (fun _ _ _ _ _ => pg_name (i := 3) scShuf.nd rfl (Or.inl rfl)) (fun _ _ _ _ _ => pts_nil)
        (te := tBM K "list" rPopAt (tVar 2) (tCons (tCall spDraw [] E0 (tCons (tVar 0) (tCons (tCB (rLn K) (tCons (tVar 2) tNil)) tNil))) tNil))
        (fun _ _ _ _ _ => by exact (pe_bm PySem.F.plainAttrs_list PySem.F.slot_list_pop PySem.F.type_list_pop mt_popAt (pv 2)
          (pa_cons (pe_call FD hr (by rfl) gD kD bD .nil pass0 (pa_cons (pv 0) (pa_cons (pe_callB call_len_seq (by rfl) T.len PySem.boot_len (pa_cons (pv 2) pa_nil)) pa_nil))) pa_nil)))))), ?_⟩
    refine ⟨_, rfl, q, xs, rfl, .inl (SqL.of hq), fun W hW => ?_⟩
    have nWp : W ≠ p := ne_of_none hp hW |>.symm
    have nqW : q ≠ W := ne_of_none hq hW
    have B1 := B0.new (o := .lst xs) hW
    refine ⟨_, rfl, q, xs, rfl, .inl (SqL.of (by rw [upd_ne nqW]; exact hq)), _, rfl, (by omega), (by omega), fun D hD => ?_⟩
    have nDW : D ≠ W := fun z => by rw [z, upd_same] at hD; cases hD
    have hD0 : H D = none := by rw [upd_ne nDW] at hD; exact hD
    have nDp : D ≠ p := ne_of_none hp hD0 |>.symm
    refine lc_range (lo := 0) (n := xs.length) (Mid p W D xs H) ⟨B1.new hD, xs, [], ?_, upd_same, List.Perm.refl _, rfl⟩ ?_ ?_
    · rw [upd_ne nDW.symm]
      exact upd_same
    · rintro i H1 hi ⟨B, ws, acc, eW, eD, pm, la⟩
      have hl := pm.length_eq
      rw [List.length_append] at hl
      have hws : 0 < ws.length := by omega
      obtain ⟨b0, b1, b2, eb⟩ := B.bag
      refine ⟨rfl, yes_ite ?_⟩
      refine ⟨_, rfl, .inl ⟨rfl, _, SqL.of eW⟩, _, rfl, _, rfl, W, ws, rfl, .inl (SqL.of eW), p, b0, b1, b2, _, rfl, eb, by omega, log_len (by omega), ?_⟩
      intro r H2 r0 r1 B2
      have eW2 := B2.keep _ _ nWp eW
      have eD2 := B2.keep _ _ nDp eD
      obtain ⟨y, _, ey⟩ := atI_in r0 r1
      refine ⟨W, ws, r, r.toNat, y, rfl, rfl, eW2, by omega, by omega, seqAt r0 r1, ey, acc, ?_, ?_, ?_⟩
      · rw [upd_ne nDW]
        exact eD2
      · exact Nat.lt_of_le_of_lt (show acc.length ≤ 1000 by omega) (by decide)
      · refine ⟨((B.trans B2).old hW nWp).old hD0 nDp, ws.eraseIdx r.toNat, acc ++ [y], ?_, upd_same, ?_, ?_⟩
        · rw [upd_ne nDW.symm]
          exact upd_same
        · rw [List.append_assoc]
          exact ((List.Perm.append_left acc (pick ws _ y ey))).trans pm
        · rw [List.length_append, la]
          rfl
    · rintro H1 ⟨B, ws, acc, eW, eD, pm, la⟩
      have hl := pm.length_eq
      rw [List.length_append] at hl
      have ew : ws = [] := List.eq_nil_of_length_eq_zero (by omega)
      subst ew
      rw [List.append_nil] at pm
      exact k D acc H1 pm eD hD0 B
end
end Q
namespace Q
open PySem L2 PySem.Spec PyProof.Rows PySem.Calls
open Evl
section
variable {K : PySem.W.Frag} {σ : L2.St} {H : Hp} {te tl : TE}
theorem et_yes : EvT tYes σ H true := fun H1 _ Q q => q H1 (Ex.refl _)
theorem given_map {α : Type} (xs : List α) (g : α → V) (d : α) : given xs.length (fun _ => true) (fun i => g (xs.getD i d)) = xs.map g := by
  unfold given
  rw [List.filter_eq_self.mpr (fun _ _ => rfl)]
  refine List.ext_getElem (by simp) fun i h1 h2 => ?_
  simp at h1
  simp [h1]
end
section
variable {P : Program} {w : World} {K : PySem.W.Frag} {mg : Str → Option Value} {base : Heap}
theorem getD_at {α : Type} {l : List α} {k : Nat} {m d : α} (h : l[k]? = some m) : l.getD k d = m := by
  rw [List.getD_eq_getElem?_getD, h]
  rfl
end
end Q
namespace Q
open PySem L2 PySem.Spec PyProof.Rows PySem.Calls
open Evl
section
variable {X : Cx}
def rInDT (K : PySem.W.Frag) : R2 := fun x y H Q => ∃ d ds, Dp K H x d ∧ Dp K H y (.tuple ds) ∧ PyData.canLayAll0 ds = true ∧ d.canLay0 = true ∧ PyData.depthAll ds ≤ 5 ∧ Q (.bl (ds.any fun z => PyData.eqv z d)) H
theorem op_inDT (hu : X.A.units + 65 < cLine) : OpR X (compareOp .In) (rInDT X.K) := by
  intro pins s σ H x y v u Q I rx ry h
  obtain ⟨d, ds, hd, he, sd, se, h5, q⟩ := h
  obtain ⟨as, r1⟩ := Dp.reads I d x v hd rx
  obtain ⟨bs, r2⟩ := Dp.reads I (.tuple ds) y u he ry
  exact SeqAt.in_tuple_reads r2 r1 sd se (by omega) ⟨.bl _, H, I, rfl, q⟩
end
end Q
set_option Elab.async false
set_option linter.all false
set_option maxRecDepth 100000
set_option maxHeartbeats 4000000
/-! sorted of tuples of ints of any sign -/
namespace Lx
open PySem PyProof.Rows
def lexL : List Int → List Int → Bool
  | [], [] => false
  | [], _ :: _ => true
  | _ :: _, [] => false
  | x :: xs, y :: ys => if x = y then lexL xs ys else decide (x < y)
theorem lexL_asym : ∀ {xs ys : List Int}, lexL xs ys = true → lexL ys xs = false
  | [], [], h => by cases h
  | [], _ :: _, _ => rfl
  | _ :: _, [], h => by cases h
  | x :: xs, y :: ys, h => by
    unfold lexL at h ⊢
    by_cases e : x = y
    · rw [if_pos e] at h
      rw [if_pos e.symm]
      exact lexL_asym h
    · rw [if_neg e] at h
      rw [if_neg (fun z => e z.symm)]
      have := of_decide_eq_true h
      exact decide_eq_false (by omega)
theorem lexL_tr : ∀ {xs ys zs : List Int}, lexL ys xs = false → lexL zs ys = false → lexL zs xs = false
  | [], _, [], _, _ => rfl
  | _ :: _, [], [], h, _ => by cases h
  | _ :: _, _ :: _, [], _, h => by cases h
  | [], _, _ :: _, _, _ => rfl
  | _ :: _, [], _ :: _, h, _ => by cases h
  | x :: xs, y :: ys, z :: zs, h1, h2 => by
    unfold lexL at h1 h2 ⊢
    by_cases e : y = x
    · rw [if_pos e] at h1
      by_cases f : z = y
      · rw [if_pos f] at h2
        rw [if_pos (f.trans e)]
        exact lexL_tr h1 h2
      · rw [if_neg f] at h2
        rw [if_neg (fun g => f (g.trans e.symm))]
        have := of_decide_eq_false h2
        exact decide_eq_false (by omega)
    · rw [if_neg e] at h1
      have a := of_decide_eq_false h1
      by_cases f : z = y
      · rw [if_neg (fun g => e (f.symm.trans g))]
        exact decide_eq_false (by omega)
      · rw [if_neg f] at h2
        have b := of_decide_eq_false h2
        rw [if_neg (by omega)]
        exact decide_eq_false (by omega)
theorem swo (k : α → List Int) : SrtO.Swo fun v u => lexL (k v) (k u) := ⟨fun _ _ h => lexL_asym h, fun _ _ _ h1 h2 => lexL_tr h1 h2⟩
section
variable {prog : Program} {w : World} {A : Around} {E : Value → Shared → Prop} {s : Shared} {Q : Bool → Shared → Prop}
theorem walk_lex {b : Bool} {xs ys : List Value} {ns ms : List Int} (i : Nat) (hx : IntsAre xs ns) (hy : IntsAre ys ms) (hl : ns.length = ms.length) (h : Q (lexL ns ms) s) : PySem.W.KatLex prog w A b false Q (xs.zip ys) i s := by
  induction hx generalizing ys ms i with
  | nil =>
    cases hy with
    | nil => exact PySem.W.kat_nil h
    | cons q u hy => simp at hl
  | @cons p t xs ns hx ih =>
    cases hy with
    | nil => simp at hl
    | @cons q u ys ms hy =>
      have hl' : ns.length = ms.length := by simpa using hl
      show PySem.W.KatLex prog w A b false Q ((Value.int p t, Value.int q u) :: xs.zip ys) i s
      refine PySem.W.kat_cons (wpAny_eqBool_int ?_)
      unfold lexL at h
      by_cases e : p = q
      · rw [if_pos e] at h
        rw [show (p == q) = true from beq_iff_eq.mpr e]
        refine PySem.W.kat_yes ?_
        first
          | exact ih (i + 1) hy hl' h
          | exact ih _ _ (i + 1) hy hl' h
      · rw [if_neg e] at h
        rw [show (p == q) = false from beq_eq_false_iff_ne.mpr e]
        exact PySem.W.kat_no (TS.oneLt_ints _ h)
def Tups (h : Heap) (d : Nat) (k : Value → List Int) (vs : List Value) : Prop := ∀ v, v ∈ vs → TS.TupInts h v (k v) ∧ (k v).length = d
theorem heads {h : Heap} {d : Nat} {k : Value → List Int} (hd : 1 ≤ d) : ∀ vs : List Value, Tups h d k vs → ∃ fs, PySem.W.KatTups h vs fs ∧ fs.length = vs.length ∧ ∀ f, f ∈ fs → ∃ n t, f = Value.int n t
  | [], _ => ⟨[], PySem.W.KatTups.nil, rfl, fun f hf => by simp at hf⟩
  | v :: vs, x => by
    obtain ⟨fs, kt, hl, hi⟩ := heads hd vs fun u hu => x u (List.mem_cons_of_mem _ hu)
    obtain ⟨⟨a, xs, e, ⟨o, ho, hc, n, hdt⟩, i⟩, hn⟩ := x v (List.mem_cons_self ..)
    subst e
    have hlen := i.length
    match q : xs.toList, i with
    | [], i =>
      have l := i.length
      rw [List.length_nil, hn] at l
      omega
    | y :: ys, i =>
      obtain ⟨m, t, hy⟩ := i.all y (List.mem_cons_self ..)
      have hk0 : xs[0]? = some y := by
        have z := congrArg (fun l : List Value => l[0]?) q
        simpa using z
      refine ⟨y :: fs, PySem.W.KatTups.cons ho hc hdt hk0 kt, by simp [hl], fun f hf => ?_⟩
      rcases List.mem_cons.mp hf with rfl | hf
      · exact ⟨m, t, hy⟩
      · exact hi f hf
theorem sortable {a : Addr} {vs : List Value} {d : Nat} {k : Value → List Int} (hd : 1 ≤ d) (h0 : 0 < vs.length) (hp : Tups s.heap d k vs) (ha : ∀ o, s.heap.get? a = some o → o.cls ≠ .type "tuple") : SrtO.SortableO prog w A s a vs fun v u => lexL (k v) (k u) := by
  intro h' keep
  have hp' : Tups h' d k vs := fun v hm => ⟨(hp v hm).1.keeps fun b o e c => keep b o (fun z => by subst z; exact ha o e c) e, (hp v hm).2⟩
  obtain ⟨fs, h1, h2, h3⟩ := heads hd vs hp'
  refine ⟨tuples' true, fun Q E hq => ?_, ?_⟩
  · refine PySem.W.kat_kind (T := .type "int") h1 (by omega) (fun f hm => ?_) (by rfl) ?_
    · obtain ⟨x, t, rfl⟩ := h3 f hm
      exact PySem.W.Looks.now
    · have e : (Value.type "int" != Value.type "tuple") = true := by first | decide +kernel | rfl | decide
      rw [e]
      exact hq
  · intro p q hm hm'
    obtain ⟨⟨a1, xs, e1, ⟨o1, ho1, hc1, n1, hd1⟩, i1⟩, l1⟩ := hp' _ hm
    obtain ⟨⟨a2, ys, e2, ⟨o2, ho2, hc2, n2, hd2⟩, i2⟩, l2⟩ := hp' _ hm'
    show wpAny (model prog w) A (keyLt' (tuples' true) p.1 q.1) (fun r s' => s' = _ ∧ r = lexL (k p.1) (k q.1)) (fun _ _ => False) _
    generalize k p.1 = ns at i1 l1 ⊢
    generalize k q.1 = ms at i2 l2 ⊢
    rw [e1, e2]
    refine PySem.W.kat_lt ho1 hd1 ho2 hd2 ?_
    have sz : decide (xs.size < ys.size) = false := by
      have j1 := i1.length
      have j2 := i2.length
      rw [Array.length_toList] at j1 j2
      exact decide_eq_false (by omega)
    rw [sz]
    exact walk_lex 0 i1 i2 (by omega) ⟨rfl, rfl⟩
end
end Lx
namespace L2
open PySem PySem.Spec PyProof.Rows
/-- sorted(xs), xs a list of tuples of d ints -/
def rSortLex (K : PySem.W.Frag) : List V → Hp → VK → Prop := fun vs H Q => ∃ (a : Addr) (xs : List V) (k : V → List Int) (d : Nat), vs = [V.ref a] ∧ SqL K H a xs ∧ 1 ≤ d ∧ (∀ x ∈ xs, TupI K H x (k x) ∧ (k x).length = d) ∧
  ∀ ys p, ys.Perm xs → ys.Pairwise (fun x y => Lx.lexL (k y) (k x) = false) → H p = none → Q (.ref p) (upd H p (.lst ys))
section
variable {X : Cx}
theorem cr_sortLex : CallR X (.builtin "sorted") (rSortLex X.K) := by
  intro pins s σ H vs us Q I r h
  obtain ⟨a, xs, k, d, rfl, hs, hd, hx, q⟩ := h
  obtain ⟨its, rv, hl, hz⟩ := I.list hs
  rw [Vals.ref1 r]
  obtain ⟨e1, e2⟩ := bkV_refs rv fun x m => by
    obtain ⟨⟨t, e, _⟩, _⟩ := hx x m
    exact ⟨t, e⟩
  have hT : Lx.Tups s.heap d (fun u => k (bkV u)) its := fun v hv => by
    obtain ⟨t, rfl⟩ := e2 v hv
    have hm : V.ref t ∈ xs := by
      rw [e1]
      exact List.mem_map.mpr ⟨_, hv, rfl⟩
    obtain ⟨⟨t', e, ht⟩, hn⟩ := hx _ hm
    cases e
    exact ⟨tupI_raw I ht, hn⟩
  refine SrtO.sorted_ord (Lx.swo fun u => k (bkV u)) hl.isList (by rw [← rv.length]; exact hz) (fun h2 h₁ b hb kk => ?_) fun out h1 h2 => ?_
  · refine Lx.sortable (s := { s with heap := h₁ }) hd (by omega) (fun v hm => ⟨(hT v hm).1.keeps fun b o e _ => (kk b o e).2, (hT v hm).2⟩) fun o e => ?_
    have e' : some o = some (seqObj "list" its.toArray 0) := e.symm.trans hb
    cases e'
    intro c
    exact absurd (Value.type.inj c) (by decide)
  · obtain ⟨ep, he'⟩ := PyProof.Rows.sortedAll_at s.heap its out.toArray
    have h3 : ∀ u ∈ out, ∃ a, u = Value.ref a := fun u hu => e2 u (h2.perm.mem_iff.mp hu)
    have hp : (out.map bkV).Perm xs := by
      rw [e1]
      exact h2.perm.map bkV
    have hlen : (out.map bkV).length ≤ sizeLine := by
      rw [hp.length_eq]
      exact hz
    refine ⟨.ref _, upd H (s.heap.objs.size + 1) (.lst (out.map bkV)), I.laid (t' := s.toks) (fun _ _ => PyProof.Rows.sortedAll_old) (Nat.le_succ _) ⟨hlen, out, ep, bkV_vals h3, he'⟩, rfl, q _ _ hp ?_ (I.hok.fresh (Nat.le_succ _))⟩
    rw [List.pairwise_map]
    exact h1
end
end L2
set_option Elab.async false
set_option linter.all false
set_option maxRecDepth 100000
set_option maxHeartbeats 2000000
/-! what tuples tell: ints, texts and tuples of them -/
namespace Q
open PySem L2 PySem.Spec PyProof.Rows PySem.Calls
open Evl
inductive TDs (H : Hp) : List V → List PyData → Prop where
  | nil : TDs H [] []
  | int (i : Int) {xs : List V} {ds : List PyData} (t : TDs H xs ds) : TDs H (.int i :: xs) (.int i :: ds)
  | str (s : Str) {xs : List V} {ds : List PyData} (t : TDs H xs ds) : TDs H (.str s :: xs) (.str s :: ds)
  | bl (b : Bool) {xs : List V} {ds : List PyData} (t : TDs H xs ds) : TDs H (.bl b :: xs) (.bool b :: ds)
  | non {xs : List V} {ds : List PyData} (t : TDs H xs ds) : TDs H (.non :: xs) (.none :: ds)
  | tup {a : Addr} {ys : List V} {es : List PyData} {xs : List V} {ds : List PyData} (h : H a = some (.tup ys)) (m : TDs H ys es) (t : TDs H xs ds) : TDs H (.ref a :: xs) (.tuple es :: ds)
def TD1 (H : Hp) (v : V) (d : PyData) : Prop := TDs H [v] [d]
theorem TDs.by {H H' : Hp} {xs : List V} {ds : List PyData} (h : TDs H xs ds) (k : ∀ a ys, H a = some (.tup ys) → H' a = some (.tup ys)) : TDs H' xs ds := by
  induction h with
  | nil => exact .nil
  | int i _ ih => exact .int i ih
  | str s _ ih => exact .str s ih
  | bl b _ ih => exact .bl b ih
  | non _ ih => exact .non ih
  | tup h _ _ im ih => exact .tup (k _ _ h) im ih
theorem TDs.mono {H H' : Hp} (e : Ex H H') {xs : List V} {ds : List PyData} (h : TDs H xs ds) : TDs H' xs ds := h.by fun _ _ q => e _ _ q
theorem TDs.len {H : Hp} {xs : List V} {ds : List PyData} (h : TDs H xs ds) : xs.length = ds.length := by
  induction h with
  | nil => rfl
  | int i _ ih => rw [List.length_cons, List.length_cons, ih]
  | str s _ ih => rw [List.length_cons, List.length_cons, ih]
  | bl b _ ih => rw [List.length_cons, List.length_cons, ih]
  | non _ ih => rw [List.length_cons, List.length_cons, ih]
  | tup h _ _ _ ih => rw [List.length_cons, List.length_cons, ih]
theorem TDs.cons {H : Hp} {v : V} {d : PyData} {xs : List V} {ds : List PyData} (h : TD1 H v d) (t : TDs H xs ds) : TDs H (v :: xs) (d :: ds) := by
  cases h with
  | int i _ => exact .int i t
  | str s _ => exact .str s t
  | bl b _ => exact .bl b t
  | non _ => exact .non t
  | tup h m _ => exact .tup h m t
theorem TDs.inv {H : Hp} {xs : List V} {d : PyData} {ds : List PyData} (h : TDs H xs (d :: ds)) : ∃ v ys, xs = v :: ys ∧ TD1 H v d ∧ TDs H ys ds := by
  cases h with
  | int i t => exact ⟨_, _, rfl, .int i .nil, t⟩
  | str s t => exact ⟨_, _, rfl, .str s .nil, t⟩
  | bl b t => exact ⟨_, _, rfl, .bl b .nil, t⟩
  | non t => exact ⟨_, _, rfl, .non .nil, t⟩
  | tup h m t => exact ⟨_, _, rfl, .tup h m .nil, t⟩
theorem TDs.inv0 {H : Hp} {xs : List V} (h : TDs H xs []) : xs = [] := by
  cases h with
  | nil => rfl
theorem TDs.app {H : Hp} {xs ys : List V} {ds es : List PyData} (h : TDs H xs ds) (k : TDs H ys es) : TDs H (xs ++ ys) (ds ++ es) := by
  induction h with
  | nil => exact k
  | int i _ ih => exact .int i ih
  | str s _ ih => exact .str s ih
  | bl b _ ih => exact .bl b ih
  | non _ ih => exact .non ih
  | tup h m _ _ ih => exact .tup h m ih
theorem TDs.at {H : Hp} : ∀ {ds : List PyData} {xs : List V} {i : Nat} {d : PyData}, TDs H xs ds → ds[i]? = some d → ∃ v, xs[i]? = some v ∧ TD1 H v d
  | [], _, i, d, _, h => by simp at h
  | e :: ds, xs, i, d, t, h => by
    obtain ⟨v, ys, rfl, hv, ht⟩ := t.inv
    match i, h with
    | 0, h =>
      cases h
      exact ⟨v, rfl, hv⟩
    | i + 1, h => exact TDs.at (i := i) ht (by simpa using h)
theorem TDs.to {H : Hp} {ds : List PyData} {xs : List V} {i : Nat} {v : V} (t : TDs H xs ds) (h : xs[i]? = some v) : ∃ d, ds[i]? = some d ∧ TD1 H v d := by
  have hl := t.len
  have hi := (List.getElem?_eq_some_iff.mp h).1
  have e : ds[i]? = some (ds[i]'(by omega)) := List.getElem?_eq_getElem (by omega)
  obtain ⟨u, hu, x⟩ := t.at e
  rw [h] at hu
  cases hu
  exact ⟨_, e, x⟩
theorem TDs.take {H : Hp} : ∀ {ds : List PyData} {xs : List V} (n : Nat), TDs H xs ds → TDs H (xs.take n) (ds.take n)
  | [], xs, n, h => by
    rw [h.inv0, List.take_nil, List.take_nil]
    exact .nil
  | d :: ds, xs, 0, h => .nil
  | d :: ds, xs, n + 1, h => by
    obtain ⟨v, ys, rfl, hv, ht⟩ := h.inv
    exact TDs.cons hv (TDs.take n ht)
theorem TDs.drop {H : Hp} : ∀ {ds : List PyData} {xs : List V} (n : Nat), TDs H xs ds → TDs H (xs.drop n) (ds.drop n)
  | [], xs, n, h => by
    rw [h.inv0, List.drop_nil, List.drop_nil]
    exact .nil
  | d :: ds, xs, 0, h => h
  | d :: ds, xs, n + 1, h => by
    obtain ⟨v, ys, rfl, hv, ht⟩ := h.inv
    exact TDs.drop n ht
theorem TDs.ints {H : Hp} : ∀ ns : List Int, TDs H (ns.map V.int) (ns.map PyData.int)
  | [] => .nil
  | n :: ns => .int n (TDs.ints ns)
theorem TDs.ints_inv {H : Hp} : ∀ {ns : List Int} {xs : List V}, TDs H xs (ns.map PyData.int) → xs = ns.map V.int
  | [], xs, h => h.inv0
  | n :: ns, xs, h => by
    obtain ⟨v, ys, rfl, hv, ht⟩ := h.inv
    cases hv
    rw [TDs.ints_inv ht]
    rfl
theorem TDs.bls_inv {H : Hp} : ∀ {bs : List Bool} {xs : List V}, TDs H xs (bs.map PyData.bool) → xs = bs.map V.bl
  | [], xs, h => h.inv0
  | b :: bs, xs, h => by
    obtain ⟨v, ys, rfl, hv, ht⟩ := h.inv
    cases hv
    rw [TDs.bls_inv ht]
    rfl
theorem TD1.tup {H : Hp} {v : V} {ds : List PyData} (h : TD1 H v (.tuple ds)) : ∃ a xs, v = .ref a ∧ H a = some (.tup xs) ∧ TDs H xs ds := by
  cases h with
  | tup h m _ => exact ⟨_, _, rfl, h, m⟩
theorem TD1.mk {H : Hp} {a : Addr} {xs : List V} {ds : List PyData} (h : H a = some (.tup xs)) (t : TDs H xs ds) : TD1 H (.ref a) (.tuple ds) := TDs.tup h t .nil
theorem TD1.int {H : Hp} {v : V} {n : Int} (h : TD1 H v (.int n)) : v = .int n := by
  cases h with
  | int i _ => rfl
theorem TD1.str {H : Hp} {v : V} {s : Str} (h : TD1 H v (.str s)) : v = .str s := by
  cases h with
  | str s _ => rfl
theorem TD1.mono {H H' : Hp} (e : Ex H H') {v : V} {d : PyData} (h : TD1 H v d) : TD1 H' v d := TDs.mono e h
theorem TD1.by {H H' : Hp} {v : V} {d : PyData} (h : TD1 H v d) (k : ∀ a ys, H a = some (.tup ys) → H' a = some (.tup ys)) : TD1 H' v d := TDs.by h k
theorem TDs.dp {K : PySem.W.Frag} {H : Hp} {xs : List V} {ds : List PyData} (h : TDs H xs ds) : DpAll K H xs ds := by
  induction h with
  | nil => exact .nil
  | int i _ ih => exact .cons (.int i) ih
  | str s _ ih => exact .cons (.str s) ih
  | bl b _ ih => exact .cons (.bl b) ih
  | non _ ih => exact .cons .non ih
  | tup h _ _ im ih => exact .cons (.tup (SqT.of h) im) ih
theorem TD1.dp {K : PySem.W.Frag} {H : Hp} {v : V} {d : PyData} (h : TD1 H v d) : Dp K H v d := by
  have z := TDs.dp (K := K) h
  cases z with
  | cons z _ => exact z
/-! what evaluates to something that tells so -/
def EvD (te : TE) (σ : L2.St) (H : Hp) (d : PyData) : Prop := ∀ H1, Ex H H1 → ∀ Q : VK, (∀ v H2, Ex H1 H2 → TD1 H2 v d → Q v H2) → te σ H1 Q
/-- a new list of such -/
def EvDs (te : TE) (σ : L2.St) (H : Hp) (ds : List PyData) : Prop := ∀ H1, Ex H H1 → ∀ Q : VK, (∀ p xs H2, H1 p = none → Ex H1 H2 → H2 p = some (.lst xs) → TDs H2 xs ds → Q (.ref p) H2) → te σ H1 Q
/-- arguments -/
def EvDa (ta : TA) (σ : L2.St) (H : Hp) (ds : List PyData) : Prop := ∀ H1, Ex H H1 → ∀ Q : List V → Hp → Prop, (∀ vs H2, Ex H1 H2 → TDs H2 vs ds → Q vs H2) → ta σ H1 Q
section
variable {K : PySem.W.Frag} {σ : L2.St} {H H' : Hp} {ta : TA} {te tl tb : TE} {d : PyData} {ds es : List PyData} {i : Nat} {v : V} {n : Int} {D : Ends} {tz : TS} {E : XK}
theorem EvD.mono (e : Ex H H') (h : EvD te σ H d) : EvD te σ H' d := fun H1 a Q q => h H1 (e.trans a) Q q
theorem EvDs.mono (e : Ex H H') (h : EvDs te σ H ds) : EvDs te σ H' ds := fun H1 a Q q => h H1 (e.trans a) Q q
theorem ed_var (h : σ[i]? = some (some v)) (x : TD1 H v d) : EvD (tVar i) σ H d := fun H1 e Q q => ⟨v, h, q v H1 (Ex.refl _) (x.mono e)⟩
theorem ed_of (h : Ev te σ H v) (x : TD1 H v d) : EvD te σ H d := fun H1 e Q q => h H1 e _ fun H2 e2 => q v H2 e2 (x.mono (e.trans e2))
theorem ed_ix {k : Int} (h : EvD te σ H (.tuple ds)) (hk : 0 ≤ k ∧ ds[k.toNat]? = some d) : EvD (tOp (rIxT K) te (tC (.int k))) σ H d := fun H1 e Q q =>
  h H1 e _ fun v H2 e2 x => by
    obtain ⟨a, xs, rfl, ha, t⟩ := x.tup
    obtain ⟨u, hu, y⟩ := t.at hk.2
    have e3 : k = ((k.toNat : Nat) : Int) := by omega
    have z : atI xs ((k.toNat : Nat) : Int) = some u := atI_nat hu
    rw [← e3] at z
    exact ⟨a, xs, k, u, rfl, rfl, SqT.of ha, z, q u H2 e2 y⟩
theorem ev_ofD (h : EvD te σ H (.int n)) : Ev te σ H (.int n) := fun H1 e Q q => h H1 e _ fun v H2 e2 x => by
  rw [x.int]
  exact q H2 e2
theorem ev_ofS {s : Str} (h : EvD te σ H (.str s)) : Ev te σ H (.str s) := fun H1 e Q q => h H1 e _ fun v H2 e2 x => by
  rw [x.str]
  exact q H2 e2
theorem ed_int (h : Ev te σ H (.int n)) : EvD te σ H (.int n) := ed_of h (TDs.int n .nil)
theorem ed_str {s : Str} (h : Ev te σ H (.str s)) : EvD te σ H (.str s) := ed_of h (TDs.str s .nil)
theorem da_nil : EvDa tNil σ H [] := fun H1 _ Q q => q [] H1 (Ex.refl _) .nil
theorem da_cons (h : EvD te σ H d) (t : EvDa ta σ H ds) : EvDa (tCons te ta) σ H (d :: ds) := fun H1 e Q q =>
  h H1 e _ fun v H2 e2 x => t H2 (e.trans e2) _ fun vs H3 e3 y => q (v :: vs) H3 (e2.trans e3) (TDs.cons (x.mono e3) y)
theorem ed_tup (h : EvDa ta σ H ds) (hl : ds.length ≤ 100000) : EvD (tTup ta) σ H (.tuple ds) := fun H1 e Q q =>
  h H1 e _ fun vs H2 e2 x => ⟨sz_of (by rw [x.len]; exact hl), fun p hp => q (.ref p) _ (e2.trans (Ex.new hp)) (TD1.mk upd_same (x.mono (Ex.new hp)))⟩
theorem eds_lst (h : EvDa ta σ H ds) (hl : ds.length ≤ 100000) : EvDs (tLst ta) σ H ds := fun H1 e Q q =>
  h H1 e _ fun vs H2 e2 x => ⟨sz_of (by rw [x.len]; exact hl), fun p hp => q p vs _ (fresh_back e2 hp) (e2.trans (Ex.new hp)) upd_same (x.mono (Ex.new hp))⟩
theorem q_asgD (h : EvD te σ H d) (k : ∀ v H1, Ex H H1 → TD1 H1 v d → tz D (σ.set i (some v)) H1) : tSeq (tAsg te (gName i)) tz D σ H := h H (Ex.refl H) _ fun v H1 e x => k v H1 e x
theorem q_asgDs (h : EvDs te σ H ds) (k : ∀ l xs H1, Ex H H1 → H l = none → H1 l = some (.lst xs) → TDs H1 xs ds → tz D (σ.set i (some (.ref l))) H1) : tSeq (tAsg te (gName i)) tz D σ H := h H (Ex.refl H) _ fun l xs H1 n e hl x => k l xs H1 e n hl x
theorem s_retD (h : EvD te σ H d) (k : ∀ v H1, Ex H H1 → TD1 H1 v d → D.rt v H1) : tRet te D σ H := h H (Ex.refl H) _ k
theorem s_retDs (h : EvDs te σ H ds) (k : ∀ l xs H1, H l = none → Ex H H1 → H1 l = some (.lst xs) → TDs H1 xs ds → D.rt (.ref l) H1) : tRet te D σ H := h H (Ex.refl H) _ k
/-- tuple(list) -/
theorem ed_tupL (h : EvDs te σ H ds) : EvD (tCB (fun xs H Q => ∃ p ys, xs = [.ref p] ∧ ((SqL K H p ys ∧ ∀ l, H l = none → Q (.ref l) (upd H l (.tup ys))) ∨ (SqT K H p ys ∧ Q (.ref p) H))) (tCons te tNil)) σ H (.tuple ds) := fun H0 e0 Q q =>
  h H0 e0 _ fun p xs H1 hn e hp x => ⟨p, xs, rfl, .inl ⟨SqL.of hp, fun l hl => q (.ref l) _ (e.trans (Ex.new hl)) (TD1.mk upd_same (x.mono (Ex.new hl)))⟩⟩
theorem ed_tupV {L : Addr} {xs : List V} (h : Ev te σ H (.ref L)) (hL : H L = some (.lst xs)) (x : TDs H xs ds) : EvD (tCB (fun xs H Q => ∃ p ys, xs = [.ref p] ∧ ((SqL K H p ys ∧ ∀ l, H l = none → Q (.ref l) (upd H l (.tup ys))) ∨ (SqT K H p ys ∧ Q (.ref p) H))) (tCons te tNil)) σ H (.tuple ds) := fun H0 e0 Q q =>
  h H0 e0 _ fun H1 e => ⟨L, xs, rfl, .inl ⟨SqL.of ((e0.trans e) _ _ hL), fun l hl => q (.ref l) _ (e.trans (Ex.new hl)) (TD1.mk upd_same (x.mono ((e0.trans e).trans (Ex.new hl))))⟩⟩
end
/-- a def called once, a new or old value told by it -/
theorem ed_call {sp : Sp} {E : XK} {ta : TA} {σ : L2.St} {H : Hp} {ds : List PyData} {d : PyData} (h : EvDa ta σ H ds) (hs : ∀ vs H1, Ex H H1 → TDs H1 vs ds → ∀ Q : VK, (∀ v H2, Ex H1 H2 → TD1 H2 v d → Q v H2) → sp vs H1 Q E) : EvD (tCall sp [] E ta) σ H d := fun H1 e Q q =>
  h H1 e _ fun vs H2 e2 x => by
    have z := hs vs H2 (e.trans e2) x Q fun v H3 e3 y => q v H3 (e2.trans e3) y
    show sp (vs ++ []) H2 Q E
    rw [List.append_nil]
    exact z
theorem ev_callD {sp : Sp} {E : XK} {ta : TA} {σ : L2.St} {H : Hp} {ds : List PyData} {z : V} (h : EvDa ta σ H ds) (hs : ∀ vs H1, Ex H H1 → TDs H1 vs ds → ∀ Q : VK, (∀ H2, Ex H1 H2 → Q z H2) → sp vs H1 Q E) : Ev (tCall sp [] E ta) σ H z := fun H1 e Q q =>
  h H1 e _ fun vs H2 e2 x => by
    have z := hs vs H2 (e.trans e2) x Q fun H3 e3 => q H3 (e2.trans e3)
    show sp (vs ++ []) H2 Q E
    rw [List.append_nil]
    exact z
end Q
set_option Elab.async false
set_option linter.all false
set_option maxRecDepth 100000
set_option maxHeartbeats 2000000
/-! comprehensions over what is told -/
namespace Q
open PySem L2 PySem.Spec PyProof.Rows PySem.Calls
open Evl
/-- some list that tells so -/
def EvLd (te : TE) (σ : L2.St) (H : Hp) (ds : List PyData) : Prop := ∀ H1, Ex H H1 → ∀ Q : VK, (∀ p xs H2, Ex H1 H2 → H2 p = some (.lst xs) → TDs H2 xs ds → Q (.ref p) H2) → te σ H1 Q
section
variable {K : PySem.W.Frag} {σ : L2.St} {H H' : Hp} {ta : TA} {te tl tb : TE} {d : PyData} {ds es : List PyData} {i : Nat} {v : V} {n : Int} {D : Ends} {tz : TS} {E : XK} {xs : List V} {a : Addr}
theorem ld_new (h : EvDs te σ H ds) : EvLd te σ H ds := fun H1 e Q q => h H1 e _ fun p xs H2 _ e2 hp x => q p xs H2 e2 hp x
theorem ld_of (h : Ev te σ H (.ref a)) (ha : H a = some (.lst xs)) (x : TDs H xs ds) : EvLd te σ H ds := fun H1 e Q q => h H1 e _ fun H2 e2 => q a xs H2 e2 ((e.trans e2) _ _ ha) (x.mono (e.trans e2))
theorem EvLd.mono (e : Ex H H') (h : EvLd te σ H ds) : EvLd te σ H' ds := fun H1 a Q q => h H1 (e.trans a) Q q
theorem ev_all {bs : List Bool} (h : EvDs te σ H (bs.map PyData.bool)) : Ev (tCB (rAll K) (tCons te tNil)) σ H (.bl (bs.all id)) := fun H1 e Q q =>
  h H1 e _ fun p xs H2 _ e2 hp x => by
    rw [x.bls_inv] at hp
    exact ⟨p, bs, rfl, SqL.of hp, q H2 e2⟩
theorem ev_lenL (h : EvLd te σ H ds) : Ev (tCB (rLn K) (tCons te tNil)) σ H (.int ds.length) := fun H1 e Q q =>
  h H1 e _ fun p xs H2 e2 hp x => ⟨p, xs, rfl, .inl (SqL.of hp), by
    rw [x.len]
    exact q H2 e2⟩
theorem ev_lenT (h : EvD te σ H (.tuple ds)) : Ev (tCB (rLn K) (tCons te tNil)) σ H (.int ds.length) := fun H1 e Q q =>
  h H1 e _ fun v H2 e2 x => by
    obtain ⟨p, xs, rfl, hp, y⟩ := x.tup
    exact ⟨p, xs, rfl, .inr (SqT.of hp), by
      rw [y.len]
      exact q H2 e2⟩
end
section
variable {α : Type} {enc : α → PyData} {es : List α} {p : α → Bool} {F : α → PyData}
/-- the comprehension's list as it grows -/
def Cd (H : Hp) (p : α → Bool) (F : α → PyData) (es : List α) (Dl : Addr) (i : Nat) (H' : Hp) : Prop := H Dl = none ∧ Ex H H' ∧ ∃ acc : List V, H' Dl = some (.lst acc) ∧ TDs H' acc (((es.take i).filter p).map F)
theorem take_snoc {i : Nat} {e : α} (h : es[i]? = some e) : es.take (i + 1) = es.take i ++ [e] := by
  rw [List.take_add_one, h]
  rfl
theorem upd_tup {H : Hp} {Dl : Addr} {xs ys : List V} (h : H Dl = some (.lst xs)) : ∀ a zs, H a = some (.tup zs) → upd H Dl (.lst ys) a = some (.tup zs) := fun a zs ha => by
  have na : a ≠ Dl := by
    intro z
    rw [z, h] at ha
    cases ha
  rw [upd_ne na]
  exact ha
variable {K : PySem.W.Frag} {σ : L2.St} {H : Hp} {te tl : TE} {tt : TT} {g : TG} {vs : List Nat}
theorem cd_turn {H1 H' H3 : Hp} {Dl : Addr} {i : Nat} {e : α} {σ2 : L2.St} (c : Cd H1 p F es Dl i H') (hi : es[i]? = some e) (hz : es.length ≤ 40000) (e3 : Ex H' H3) (ht : EvT tt σ2 H3 (p e)) (he : p e = true → EvD te σ2 H3 (F e)) :
    tt σ2 H3 fun b H4 => if b = true then te σ2 H4 fun y H5 => ∃ acc, H5 Dl = some (.lst acc) ∧ acc.length < sizeLine ∧ Cd H1 p F es Dl (i + 1) (upd H5 Dl (.lst (acc ++ [y]))) else Cd H1 p F es Dl (i + 1) H4 := by
  obtain ⟨c1, c2, acc, c3, c4⟩ := c
  have hlt := (List.getElem?_eq_some_iff.mp hi).1
  refine ht H3 (Ex.refl _) _ fun H4 e4 => ?_
  have e34 := e3.trans e4
  cases hp : p e with
  | true =>
    show te σ2 H4 fun y H5 => ∃ acc, H5 Dl = some (.lst acc) ∧ acc.length < sizeLine ∧ Cd H1 p F es Dl (i + 1) (upd H5 Dl (.lst (acc ++ [y])))
    refine he hp H4 e4 _ fun y H5 e5 x => ⟨acc, (e34.trans e5) _ _ c3, sz_lt ?_, c1, Ex.mut (c2.trans (e34.trans e5)) c1, acc ++ [y], upd_same, ?_⟩
    · rw [c4.len, List.length_map]
      have := List.length_filter_le p (es.take i)
      rw [List.length_take] at this
      omega
    · rw [take_snoc hi, List.filter_append, List.map_append]
      have hf : [e].filter p = [e] := by rw [List.filter_cons, if_pos hp]; rfl
      rw [hf]
      exact ((c4.mono (e34.trans e5)).app x).by (upd_tup ((e34.trans e5) _ _ c3))
  | false =>
    show Cd H1 p F es Dl (i + 1) H4
    refine ⟨c1, c2.trans e34, acc, e34 _ _ c3, ?_⟩
    rw [take_snoc hi, List.filter_append, List.map_append]
    have hf : [e].filter p = [] := by rw [List.filter_cons, if_neg (by rw [hp]; decide)]; rfl
    rw [hf, List.map_nil, List.append_nil]
    exact c4.mono e34
/-- what one turn asks: the item told, any heap further on -/
def Turn1 (g : TG) (tt : TT) (te : TE) (vs : List Nat) (σ : L2.St) (H : Hp) (enc : α → PyData) (p : α → Bool) (F : α → PyData) (e : α) : Prop := ∀ v H1, Ex H H1 → TD1 H1 v (enc e) → ∀ kk : L2.St → Hp → Prop,
  (∀ σ2 H2, Ex H1 H2 → wipe σ2 vs = wipe σ vs → EvT tt σ2 H2 (p e) → (p e = true → EvD te σ2 H2 (F e)) → kk σ2 H2) → g v (wipe σ vs) H1 kk
theorem Turn1.mono {H' : Hp} {e : α} (x : Ex H H') (t : Turn1 g tt te vs σ H enc p F e) : Turn1 g tt te vs σ H' enc p F e := fun v H1 e1 => t v H1 (x.trans e1)
theorem eds_lc (p : α → Bool) (F : α → PyData) (h : EvLd tl σ H (es.map enc)) (hz : es.length ≤ 40000) (hs : ∀ e ∈ es, Turn1 g tt te vs σ H enc p F e) : EvDs (tLc (iList K tl) g tt te vs) σ H ((es.filter p).map F) := fun H0 e0 Q q =>
  h H0 e0 _ fun a xs H1 e1 ha x => ⟨a, rfl, ⟨xs, SqL.of ha⟩, fun Dl hD =>
    lc_list (xs := xs) (Cd H1 p F es Dl) ⟨hD, Ex.new hD, [], upd_same, by rw [List.take_zero]; exact .nil⟩ (fun i H' _ c => SqL.of (c.2.1 _ _ ha)) (fun i v H' hv c => by
      obtain ⟨d, hd, y⟩ := x.to hv
      rw [List.getElem?_map] at hd
      obtain ⟨e, he, rfl⟩ := Option.map_eq_some_iff.mp hd
      exact hs e (List.mem_of_getElem? he) v H' ((e0.trans e1).trans c.2.1) (y.mono c.2.1) _ fun σ2 H3 e3 hw ht hte => ⟨hw, cd_turn c he hz e3 ht hte⟩)
      (fun H' c => by
        obtain ⟨c1, c2, acc, c3, c4⟩ := c
        have hl := x.len
        rw [List.length_map] at hl
        rw [hl, List.take_length] at c4
        exact q Dl acc H' (fresh_back e1 c1) (e1.trans c2) c3 c4)⟩
theorem eds_lcT (p : α → Bool) (F : α → PyData) (h : EvD tl σ H (.tuple (es.map enc))) (hz : es.length ≤ 40000) (hs : ∀ e ∈ es, Turn1 g tt te vs σ H enc p F e) : EvDs (tLc (iTup K tl) g tt te vs) σ H ((es.filter p).map F) := fun H0 e0 Q q =>
  h H0 e0 _ fun u H1 e1 hu => by
    obtain ⟨a, xs, rfl, ha, x⟩ := hu.tup
    exact ⟨a, rfl, ⟨xs, SqT.of ha⟩, fun Dl hD =>
    lc_tup (xs := xs) (Cd H1 p F es Dl) ⟨hD, Ex.new hD, [], upd_same, by rw [List.take_zero]; exact .nil⟩ (fun i H' _ c => SqT.of (c.2.1 _ _ ha)) (fun i v H' hv c => by
      obtain ⟨d, hd, y⟩ := x.to hv
      rw [List.getElem?_map] at hd
      obtain ⟨e, he, rfl⟩ := Option.map_eq_some_iff.mp hd
      exact hs e (List.mem_of_getElem? he) v H' ((e0.trans e1).trans c.2.1) (y.mono c.2.1) _ fun σ2 H3 e3 hw ht hte => ⟨hw, cd_turn c he hz e3 ht hte⟩)
      (fun H' c => by
        obtain ⟨c1, c2, acc, c3, c4⟩ := c
        have hl := x.len
        rw [List.length_map] at hl
        rw [hl, List.take_length] at c4
        exact q Dl acc H' (fresh_back e1 c1) (e1.trans c2) c3 c4)⟩
theorem eds_lcR {ta : TA} {m : Nat} (p : Nat → Bool) (F : Nat → PyData) (h : EvA ta σ H [.int (m : Int)]) (hz : m ≤ 40000) (hs : ∀ i, i < m → Turn1 g tt te vs σ H (fun i : Nat => PyData.int (i : Int)) p F i) : EvDs (tLc (iRng1 ta) g tt te vs) σ H (((List.range m).filter p).map F) := fun H0 e0 Q q =>
  h H0 e0 _ fun H1 e1 => ⟨(m : Int), rfl, by omega, by omega, fun Dl hD =>
    lc_range (lo := 0) (n := (m : Int).toNat) (Cd H1 p F (List.range m) Dl) ⟨hD, Ex.new hD, [], upd_same, by rw [List.take_zero]; exact .nil⟩ (fun i H' hi c => by
      rw [show (0 : Int) + (i : Int) = (i : Int) from Int.zero_add _]
      have hm : i < m := by omega
      exact hs i hm (.int (i : Int)) H' ((e0.trans e1).trans c.2.1) (TDs.int _ .nil) _ fun σ2 H3 e3 hw ht hte => ⟨hw, cd_turn c (List.getElem?_range hm) (by rw [List.length_range]; exact hz) e3 ht hte⟩)
      (fun H' c => by
        obtain ⟨c1, c2, acc, c3, c4⟩ := c
        rw [Int.toNat_natCast, List.take_of_length_le (by rw [List.length_range]; exact Nat.le_refl _)] at c4
        exact q Dl acc H' (fresh_back e1 c1) (e1.trans c2) c3 c4)⟩
/-- the target a name -/
theorem turn_nm {j : Nat} {e : α} (hw : ∀ x, wipe ((wipe σ vs).set j (some x)) vs = wipe σ vs) (ht : ∀ v H1, Ex H H1 → TD1 H1 v (enc e) → EvT tt ((wipe σ vs).set j (some v)) H1 (p e)) (he : ∀ v H1, Ex H H1 → TD1 H1 v (enc e) → p e = true → EvD te ((wipe σ vs).set j (some v)) H1 (F e)) : Turn1 (gName j) tt te vs σ H enc p F e :=
  fun v H1 e1 x kk k => k _ H1 (Ex.refl _) (hw v) (ht v H1 e1 x) (he v H1 e1 x)
/-- the target two names -/
theorem turn_t2 {i1 i2 : Nat} {e : α} {d1 d2 : PyData} (henc : enc e = .tuple [d1, d2]) (hw : ∀ x y, wipe (((wipe σ vs).set i1 (some x)).set i2 (some y)) vs = wipe σ vs)
    (ht : ∀ u v H1, Ex H H1 → TD1 H1 u d1 → TD1 H1 v d2 → EvT tt (((wipe σ vs).set i1 (some u)).set i2 (some v)) H1 (p e)) (he : ∀ u v H1, Ex H H1 → TD1 H1 u d1 → TD1 H1 v d2 → p e = true → EvD te (((wipe σ vs).set i1 (some u)).set i2 (some v)) H1 (F e)) :
    Turn1 (gTup K 2 (gCons (gName i1) (gCons (gName i2) gNil))) tt te vs σ H enc p F e := fun v H1 e1 x kk k => by
  rw [henc] at x
  obtain ⟨a, xs, rfl, ha, y⟩ := x.tup
  obtain ⟨u1, ys, rfl, x1, y⟩ := y.inv
  obtain ⟨u2, zs, rfl, x2, y⟩ := y.inv
  cases y.inv0
  exact ⟨a, _, rfl, SqT.of ha, rfl, u1, _, rfl, u2, _, rfl, rfl, k _ H1 (Ex.refl _) (hw u1 u2) (ht u1 u2 H1 e1 x1 x2) (he u1 u2 H1 e1 x1 x2)⟩
theorem filt_all (es : List α) : es.filter (fun _ => true) = es := List.filter_eq_self.mpr fun _ _ => rfl
end
end Q
set_option Elab.async false
set_option linter.all false
set_option maxRecDepth 100000
set_option maxHeartbeats 2000000
/-! boxes -/
namespace PB
open PySem
structure Bx where
  l : Int
  b : Int
  r : Int
  t : Int
def Bx.ok (x : Bx) : Prop := x.l ≤ x.r ∧ x.b ≤ x.t
def apW (x o : Bx) : Option Str := if x.r < o.l then some "left" else if x.l > o.r then some "right" else if x.t < o.b then some "below" else if x.b > o.t then some "above" else none
def meets (x o : Bx) : Bool := (apW x o).isNone
def boxD (x : Bx) : PyData := .tuple [.int x.l, .int x.b, .int x.r, .int x.t]
def entD (e : Int × Bx) : PyData := .tuple [.int e.1, boxD e.2]
def wordD : Option Str → PyData
  | some w => .str w
  | none => .none
theorem meets_iff {x o : Bx} : meets x o = true ↔ o.l ≤ x.r ∧ x.l ≤ o.r ∧ o.b ≤ x.t ∧ x.b ≤ o.t := by
  unfold meets apW
  split
  · simp; omega
  · split
    · simp; omega
    · split
      · simp; omega
      · split
        · simp; omega
        · simp; omega
end PB
namespace Q
open PySem L2 PySem.Spec PyProof.Rows PySem.Calls
open Evl PB
abbrev sIsBox : Stmt := top 12
abbrev sApart : Stmt := top 14
abbrev sIsEnt : Stmt := top 19
section
variable {K : PySem.W.Frag} {σ : L2.St} {H : Hp} {te : TE} {D : Ends} {tz : TS} {E : XK}
/-- a, b, c, d = e -/
theorem q_unp4 {i1 i2 i3 i4 : Nat} {d1 d2 d3 d4 : PyData} (h : EvD te σ H (.tuple [d1, d2, d3, d4])) (k : ∀ v1 v2 v3 v4 H1, Ex H H1 → TD1 H1 v1 d1 → TD1 H1 v2 d2 → TD1 H1 v3 d3 → TD1 H1 v4 d4 → tz D ((((σ.set i1 (some v1)).set i2 (some v2)).set i3 (some v3)).set i4 (some v4)) H1) :
    tSeq (tAsg te (gTup K 4 (gCons (gName i1) (gCons (gName i2) (gCons (gName i3) (gCons (gName i4) gNil)))))) tz D σ H := h H (Ex.refl H) _ fun v H1 e x => by
  obtain ⟨a, xs, rfl, ha, y⟩ := x.tup
  obtain ⟨u1, y1, rfl, x1, y⟩ := y.inv
  obtain ⟨u2, y2, rfl, x2, y⟩ := y.inv
  obtain ⟨u3, y3, rfl, x3, y⟩ := y.inv
  obtain ⟨u4, y4, rfl, x4, y⟩ := y.inv
  cases y.inv0
  exact ⟨a, _, rfl, SqT.of ha, rfl, u1, _, rfl, u2, _, rfl, u3, _, rfl, u4, _, rfl, rfl, k u1 u2 u3 u4 H1 e x1 x2 x3 x4⟩
theorem q_unpB {i1 i2 i3 i4 : Nat} {x : Bx} (h : EvD te σ H (boxD x)) (k : ∀ H1, Ex H H1 → tz D ((((σ.set i1 (some (.int x.l))).set i2 (some (.int x.b))).set i3 (some (.int x.r))).set i4 (some (.int x.t))) H1) :
    tSeq (tAsg te (gTup K 4 (gCons (gName i1) (gCons (gName i2) (gCons (gName i3) (gCons (gName i4) gNil)))))) tz D σ H := q_unp4 h fun v1 v2 v3 v4 H1 e x1 x2 x3 x4 => by
  cases x1.int
  cases x2.int
  cases x3.int
  cases x4.int
  exact k H1 e
theorem et_isiT {T U : String} {b : Bool} {i : Nat} {v : V} (h : σ[i]? = some (some v)) (t : TyX K H v (.type U)) (e : PySem.W.kitOne K (.type U) (.type T) = some b) (hm : ∀ H1, Ex H H1 → TyX K H1 v (.type U)) : EvT (tB (tCB (rIsi K) (tCons (tVar i) (tCons (tC (.ty T)) tNil)))) σ H b := et_B fun H1 e1 Q q =>
  ⟨v, h, _, _, _, _, _, rfl, .ty _, hm H1 e1, e, q H1 (Ex.refl _)⟩
/-- isinstance(x, tuple) of a tuple -/
theorem et_isTup {i : Nat} {v : V} {ds : List PyData} (h : σ[i]? = some (some v)) (x : TD1 H v (.tuple ds)) : EvT (tB (tCB (rIsi K) (tCons (tVar i) (tCons (tC (.ty "tuple")) tNil)))) σ H true := by
  obtain ⟨a, xs, rfl, ha, _⟩ := x.tup
  exact et_isiT h (.base (.tup ha)) (kit_ty (by decide +kernel)) fun H1 e1 => .base (.tup (e1 _ _ ha))
end
def spIsBox : Sp := fun vs H Q _ => ∃ (v : V) (x : Bx), vs = [v] ∧ TD1 H v (boxD x) ∧ x.ok ∧ ∀ H', Ex H H' → Q (.bl true) H'
def spIsEnt : Sp := fun vs H Q _ => ∃ (v : V) (e : Int × Bx), vs = [v] ∧ TD1 H v (entD e) ∧ e.2.ok ∧ ∀ H', Ex H H' → Q (.bl true) H'
def spApart : Sp := fun vs H Q _ => ∃ (u v : V) (x o : Bx), vs = [u, v] ∧ TD1 H u (boxD x) ∧ TD1 H v (boxD o) ∧ ∀ w H', Ex H H' → TD1 H' w (wordD (apW x o)) → Q w H'
section
variable {P : Program} {w : World} {K : PySem.W.Frag} {mg : Str → Option Value} {base : Heap}
structure TAl (mg : Str → Option Value) : Prop where
  all : mg "all" = none
theorem scIsBox : FnScope ["value", "left", "bottom", "right", "top", "end"] ["value"] (defScope sIsBox) := ⟨rfl, rfl, rfl, by decide +kernel, rfl, by decide +kernel, by decide +kernel⟩
theorem ev_isint {σ : L2.St} {H : Hp} {te : TE} {n : Int} {E : XK} (h : Ev te σ H (.int n)) : Ev (tCall spIsInt [] E (tCons te tNil)) σ H (.bl true) := ev_call (ea_cons h ea_nil) fun H1 e Q q E => ⟨_, _, rfl, .int _, q H1 (Ex.refl _)⟩
theorem ok_isbox {f : Addr} {fd : FuncData} (F : Fun K "is_box" "is_box" sIsBox f fd) (T : TI mg) (A : TAl mg) (CI : Cl P w K mg base 1 "is_integer" spIsInt) : FnOk P w K mg base CX0 2 f fd ["value"] spIsBox := by
  refine F.ok scIsBox (fun vs H Q E h => ?_) (fun cdv A' outer s H vs Q E hr h => ?_)
  · obtain ⟨v, x, rfl, _⟩ := h
    rfl
  · obtain ⟨v, x, rfl, hx, ho, k⟩ := h
    refine ⟨_, (pss_cons (ps_if (pw_or (pt_not (pt_val (pe_callB call_isi (by rfl) T.isi PyProof.Rows.boot_isinstance (pa_cons (pv 0) (pa_cons (pe_bltn (v := .ty "tuple") (by rfl) T.tuple (by decide +kernel) rfl) pa_nil))))) (pw_or (pt_cmpR op_ne (pe_callB call_len_seq (by rfl) T.len PySem.boot_len (pa_cons (pv 0) pa_nil)) pe_int (nomark _)) (pw_or1 (pt_not (pt_val (pe_callB (cr_all rfl) (by rfl) A.all (by decide +kernel) (pa_cons (pe_lc (own := [("end", 5)]) (g := gName 5) (by rfl) scIsBox.nd (pi_tup (pv 0))
            (blkOk_by (own := [("end", 5)]) (N := ["value", "left", "bottom", "right", "top", "end"]) (sc := defScope sIsBox) (by decide +kernel))
            (fun _ _ _ _ _ => pg_name (i := 5) scIsBox.nd rfl (Or.inl rfl)) (fun _ _ _ _ _ => pts_nil)
            (te := tCall spIsInt [] E0 (tCons (tVar 5) tNil)) (fun _ _ _ _ _ => by exact (pe_cl CI hr (by decide) (by rfl) (by exact (pa_cons (pv 5) pa_nil))))) pa_nil))))))).pt pss_never pss_nil)
      (pss_cons (ps_asg (pv 0) (pg_tup (by rfl) (pgs_cons (pg_name (i := 1) scIsBox.nd rfl (.inl rfl)) (pgs_cons (pg_name (i := 2) scIsBox.nd rfl (.inl rfl)) (pgs_cons (pg_name (i := 3) scIsBox.nd rfl (.inl rfl)) (pgs_cons (pg_name (i := 4) scIsBox.nd rfl (.inl rfl)) pgs_nil))))))
      (pss_one (ps_ret (pe_and (pe_cmpR op_le (pv 1) (pv 3) (nomark _)) (pe_one (pe_cmpR op_le (pv 2) (pv 4) (nomark _)))))))), ?_⟩
    refine q_not (et_or (et_not (a := true) (et_isTup rfl hx)) fun _ => et_or (b := false) (et_is (et_test (ev_op (ev_lenT (ed_var rfl hx)) ev_c (rv_ne rfl))) rfl) fun _ => et_not (et_B (ev_is (ev_all (bs := [true, true, true, true]) (eds_lcT (es := [x.l, x.b, x.r, x.t]) (enc := PyData.int) (fun _ => true) (fun _ => PyData.bool true) (ed_var rfl hx) (by show 4 ≤ 40000; decide) fun n _ => turn_nm (fun _ => rfl) (fun v H1 e1 y => et_yes) (fun v H1 e1 y _ => ed_of (ev_isint (by
        cases y.int
        exact ev_var rfl)) (TDs.bl true .nil)))) rfl))) fun H1 e1 => ?_
    refine q_unpB (ed_var rfl (hx.mono e1)) fun H2 e2 => ?_
    refine s_ret (ev_is (ev_andV (ev_op (ev_var rfl) (ev_var rfl) rv_I0) fun _ => ev_op (ev_var rfl) (ev_var rfl) rv_I0) ?_) fun H3 e3 => k H3 ((e1.trans e2).trans e3)
    rw [decide_eq_true ho.1, decide_eq_true ho.2]
    rfl
end
end Q
set_option Elab.async false
set_option linter.all false
set_option maxRecDepth 100000
set_option maxHeartbeats 2000000
/-! boxes apart, entries, boxes around boxes -/
namespace PB
open PySem
def minL : List Int → Int
  | [] => 0
  | n :: ns => ns.foldl min n
def maxL : List Int → Int
  | [] => 0
  | n :: ns => ns.foldl max n
theorem minL_aux : ∀ (l : List Int) (a : Int), (l.foldl min a = a ∨ l.foldl min a ∈ l) ∧ l.foldl min a ≤ a ∧ ∀ x ∈ l, l.foldl min a ≤ x
  | [], a => ⟨.inl rfl, Int.le_refl _, fun x hx => nomatch hx⟩
  | y :: l, a => by
    obtain ⟨h1, h2, h3⟩ := minL_aux l (min a y)
    refine ⟨?_, ?_, fun x hx => ?_⟩
    · show l.foldl min (min a y) = a ∨ l.foldl min (min a y) ∈ y :: l
      rcases h1 with h1 | h1
      · rw [h1]
        by_cases c : a ≤ y
        · exact .inl (by omega)
        · exact .inr (by rw [show min a y = y by omega]; exact List.mem_cons_self)
      · exact .inr (List.mem_cons_of_mem _ h1)
    · show l.foldl min (min a y) ≤ a
      omega
    · show l.foldl min (min a y) ≤ x
      rcases List.mem_cons.mp hx with rfl | hx
      · omega
      · exact h3 x hx
theorem maxL_aux : ∀ (l : List Int) (a : Int), (l.foldl max a = a ∨ l.foldl max a ∈ l) ∧ a ≤ l.foldl max a ∧ ∀ x ∈ l, x ≤ l.foldl max a
  | [], a => ⟨.inl rfl, Int.le_refl _, fun x hx => nomatch hx⟩
  | y :: l, a => by
    obtain ⟨h1, h2, h3⟩ := maxL_aux l (max a y)
    refine ⟨?_, ?_, fun x hx => ?_⟩
    · show l.foldl max (max a y) = a ∨ l.foldl max (max a y) ∈ y :: l
      rcases h1 with h1 | h1
      · rw [h1]
        by_cases c : y ≤ a
        · exact .inl (by omega)
        · exact .inr (by rw [show max a y = y by omega]; exact List.mem_cons_self)
      · exact .inr (List.mem_cons_of_mem _ h1)
    · show a ≤ l.foldl max (max a y)
      omega
    · show x ≤ l.foldl max (max a y)
      rcases List.mem_cons.mp hx with rfl | hx
      · omega
      · exact h3 x hx
theorem minL_in {ns : List Int} (h : ns ≠ []) : minL ns ∈ ns ∧ ∀ x ∈ ns, minL ns ≤ x := by
  match ns, h with
  | n :: ns, _ =>
    obtain ⟨h1, h2, h3⟩ := minL_aux ns n
    refine ⟨?_, fun x hx => ?_⟩
    · rcases h1 with h1 | h1
      · show ns.foldl min n ∈ _
        rw [h1]
        exact List.mem_cons_self
      · exact List.mem_cons_of_mem _ h1
    · rcases List.mem_cons.mp hx with rfl | hx
      · exact h2
      · exact h3 x hx
theorem maxL_in {ns : List Int} (h : ns ≠ []) : maxL ns ∈ ns ∧ ∀ x ∈ ns, x ≤ maxL ns := by
  match ns, h with
  | n :: ns, _ =>
    obtain ⟨h1, h2, h3⟩ := maxL_aux ns n
    refine ⟨?_, fun x hx => ?_⟩
    · rcases h1 with h1 | h1
      · show ns.foldl max n ∈ _
        rw [h1]
        exact List.mem_cons_self
      · exact List.mem_cons_of_mem _ h1
    · rcases List.mem_cons.mp hx with rfl | hx
      · exact h2
      · exact h3 x hx
def joint (bs : List Bx) : Bx := ⟨minL (bs.map (·.l)), minL (bs.map (·.b)), maxL (bs.map (·.r)), maxL (bs.map (·.t))⟩
/-- b lies within x -/
def inB (b x : Bx) : Prop := x.l ≤ b.l ∧ x.b ≤ b.b ∧ b.r ≤ x.r ∧ b.t ≤ x.t
theorem joint_in {bs : List Bx} {b : Bx} (h : b ∈ bs) : inB b (joint bs) := by
  have m : ∀ f : Bx → Int, f b ∈ bs.map f := fun f => List.mem_map.mpr ⟨b, h, rfl⟩
  have n : ∀ f : Bx → Int, bs.map f ≠ [] := fun f z => by
    have := m f
    rw [z] at this
    cases this
  exact ⟨(minL_in (n _)).2 _ (m _), (minL_in (n _)).2 _ (m _), (maxL_in (n _)).2 _ (m _), (maxL_in (n _)).2 _ (m _)⟩
theorem joint_ok {bs : List Bx} (h : bs ≠ []) (k : ∀ b ∈ bs, b.ok) : (joint bs).ok := by
  match bs, h with
  | b :: r, _ =>
    obtain ⟨h1, h2, h3, h4⟩ := joint_in (bs := b :: r) List.mem_cons_self
    obtain ⟨k1, k2⟩ := k b List.mem_cons_self
    exact ⟨by omega, by omega⟩
theorem meets_up {x y X Y : Bx} (h : meets x y = true) (hx : inB x X) (hy : inB y Y) : meets X Y = true := by
  rw [meets_iff] at *
  obtain ⟨a1, a2, a3, a4⟩ := hx
  obtain ⟨b1, b2, b3, b4⟩ := hy
  omega
end PB
namespace Q
open PySem L2 PySem.Spec PyProof.Rows PySem.Calls
open Evl PB
abbrev sAround : Stmt := top 15
abbrev sLJoint : Stmt := top 48
def spAround : Sp := fun vs H Q _ => ∃ (L : Addr) (xs : List V) (bs : List Bx), vs = [.ref L] ∧ H L = some (.lst xs) ∧ TDs H xs (bs.map boxD) ∧ bs ≠ [] ∧ bs.length ≤ 40000 ∧ ∀ v H', Ex H H' → TD1 H' v (boxD (joint bs)) → Q v H'
section
variable {K : PySem.W.Frag} {σ : L2.St} {H : Hp} {te tl ta tb : TE} {D : Ends} {tz : TS} {E : XK} {ns : List Int} {a b : PyData}
theorem ev_minN (h : EvDs te σ H (ns.map PyData.int)) (hn : ns ≠ []) : Ev (tCB (rMin K) (tCons te tNil)) σ H (.int (minL ns)) := fun H1 e Q q =>
  h H1 e _ fun p xs H2 _ e2 hp x => by
    rw [x.ints_inv] at hp
    refine ⟨p, ns, rfl, SqL.of hp, List.length_pos_iff.mpr hn, fun m hm hle => ?_⟩
    have z := minL_in hn
    have : m = minL ns := Int.le_antisymm (hle _ z.1) (z.2 _ hm)
    rw [this]
    exact q H2 e2
theorem ev_maxN (h : EvDs te σ H (ns.map PyData.int)) (hn : ns ≠ []) : Ev (tCB (rMax K) (tCons te tNil)) σ H (.int (maxL ns)) := fun H1 e Q q =>
  h H1 e _ fun p xs H2 _ e2 hp x => by
    rw [x.ints_inv] at hp
    refine ⟨p, ns, rfl, SqL.of hp, List.length_pos_iff.mpr hn, fun m hm hle => ?_⟩
    have z := maxL_in hn
    have : m = maxL ns := Int.le_antisymm (z.2 _ hm) (hle _ z.1)
    rw [this]
    exact q H2 e2
/-- [box[k] for box in boxes] -/
theorem eds_side {bs : List Bx} {k : Int} {j : Nat} (f : Bx → Int) (hf : ∀ b, 0 ≤ k ∧ [PyData.int b.l, .int b.b, .int b.r, .int b.t][k.toNat]? = some (.int (f b))) (hw : ∀ x, wipe ((wipe σ [j]).set j (some x)) [j] = wipe σ [j]) (hj : ∀ x, ((wipe σ [j]).set j (some x))[j]? = some (some x))
    (h : EvLd tl σ H (bs.map boxD)) (hl : bs.length ≤ 40000) : EvDs (tLc (iList K tl) (gName j) tYes (tOp (rIxT K) (tVar j) (tC (.int k))) [j]) σ H ((bs.map f).map PyData.int) := by
  have z := eds_lc (K := K) (tt := tYes) (g := gName j) (te := tOp (rIxT K) (tVar j) (tC (.int k))) (vs := [j]) (fun _ => true) (fun b : Bx => PyData.int (f b)) h hl fun b _ => turn_nm hw (fun _ _ _ _ => et_yes) fun v H1 e1 x _ => ed_ix (ed_var (hj v) x) (hf b)
  rw [filt_all] at z
  rw [List.map_map]
  exact z
end
section
variable {P : Program} {w : World} {K : PySem.W.Frag} {mg : Str → Option Value} {base : Heap}
structure TMm (mg : Str → Option Value) : Prop where
  min : mg "min" = none
  max : mg "max" = none
theorem ev_isbox {σ : L2.St} {H : Hp} {te : TE} {x : Bx} {E : XK} (h : EvD te σ H (boxD x)) (ho : x.ok) : Ev (tCall spIsBox [] E (tCons te tNil)) σ H (.bl true) := ev_callD (da_cons h da_nil) fun vs H1 e t Q q => by
  obtain ⟨v, ys, rfl, hv, t⟩ := t.inv
  cases t.inv0
  exact ⟨v, x, rfl, hv, ho, fun H' e' => q H' e'⟩
theorem scIsEnt : FnScope ["value"] ["value"] (defScope sIsEnt) := ⟨rfl, rfl, rfl, by decide +kernel, rfl, by decide +kernel, by decide +kernel⟩
theorem ok_isent {f : Addr} {fd : FuncData} (F : Fun K "is_entry" "is_entry" sIsEnt f fd) (T : TI mg) (CI : Cl P w K mg base 1 "is_integer" spIsInt) (CB : Cl P w K mg base 2 "is_box" spIsBox) : FnOk P w K mg base CX0 3 f fd ["value"] spIsEnt := by
  refine F.ok scIsEnt (fun vs H Q E h => ?_) (fun cdv A' outer s H vs Q E hr h => ?_)
  · obtain ⟨v, x, rfl, _⟩ := h
    rfl
  · obtain ⟨v, x, rfl, hx, ho, k⟩ := h
    refine ⟨_, pss_one (ps_ret (pe_and (pe_callB call_isi (by rfl) T.isi PyProof.Rows.boot_isinstance (pa_cons (pv 0) (pa_cons (pe_bltn (v := .ty "tuple") (by rfl) T.tuple (by decide +kernel) rfl) pa_nil))) (pe_and (pe_cmpR op_eq (pe_callB call_len_seq (by rfl) T.len PySem.boot_len (pa_cons (pv 0) pa_nil)) pe_int (nomark _)) (pe_and (pe_cl CI hr (by decide) (by rfl) (pa_cons ((pe_ix ix_tup (pv 0) pe_int (fun _ _ => rfl))) pa_nil)) (pe_one (pe_cl CB hr (by decide) (by rfl) (pa_cons ((pe_ix ix_tup (pv 0) pe_int (fun _ _ => rfl))) pa_nil))))))), ?_⟩
    obtain ⟨a, xs, rfl, ha, _⟩ := id hx.tup
    refine s_ret (ev_is (ev_andV (b := true) (a := true) (fun H1 e1 Q q => ⟨_, rfl, _, _, _, _, _, rfl, .ty _, .base (.tup (e1 _ _ ha)), kit_ty (by decide +kernel), q H1 (Ex.refl _)⟩) fun _ => ev_is (ev_andV (a := true) (b := true) (ev_is (ev_op (ev_lenT (ed_var rfl hx)) ev_c (rv_eq rfl)) rfl) fun _ => ev_is (ev_andV (ev_isint (ev_ofD (n := x.1) (ed_ix (ed_var rfl hx) ⟨by decide, rfl⟩))) fun _ => ev_isbox (ed_ix (ed_var rfl hx) ⟨by decide, rfl⟩) ho) rfl) rfl) rfl) fun H1 e1 => k H1 e1
theorem scApart : FnScope ["box", "other_box", "left", "bottom", "right", "top", "other_left", "other_bottom", "other_right", "other_top"] ["box", "other_box"] (defScope sApart) := ⟨rfl, rfl, rfl, by decide +kernel, rfl, by decide +kernel, by decide +kernel⟩
theorem ok_apart {f : Addr} {fd : FuncData} (F : Fun K "apart_word" "apart_word" sApart f fd) : FnOk P w K mg base CX0 1 f fd ["box", "other_box"] spApart := by
  refine F.ok scApart (fun vs H Q E h => ?_) (fun cdv A' outer s H vs Q E hr h => ?_)
  · obtain ⟨u, v, x, o, rfl, _⟩ := h
    rfl
  · obtain ⟨u, v, x, o, rfl, hx, ho, k⟩ := h
    refine ⟨_, (pss_cons (ps_asg (pv 0) (pg_tup (by rfl) (pgs_cons (pg_name (i := 2) scApart.nd rfl (.inl rfl)) (pgs_cons (pg_name (i := 3) scApart.nd rfl (.inl rfl)) (pgs_cons (pg_name (i := 4) scApart.nd rfl (.inl rfl)) (pgs_cons (pg_name (i := 5) scApart.nd rfl (.inl rfl)) pgs_nil))))))
      (pss_cons (ps_asg (pv 1) (pg_tup (by rfl) (pgs_cons (pg_name (i := 6) scApart.nd rfl (.inl rfl)) (pgs_cons (pg_name (i := 7) scApart.nd rfl (.inl rfl)) (pgs_cons (pg_name (i := 8) scApart.nd rfl (.inl rfl)) (pgs_cons (pg_name (i := 9) scApart.nd rfl (.inl rfl)) pgs_nil))))))
      (pss_cons (ps_if (pt_cmpR op_lt (pv 4) (pv 6) (nomark _)) (pss_one (ps_ret pe_str)) pss_nil)
      (pss_cons (ps_if (pt_cmpR op_gt (pv 2) (pv 8) (nomark _)) (pss_one (ps_ret pe_str)) pss_nil)
      (pss_cons (ps_if (pt_cmpR op_lt (pv 5) (pv 7) (nomark _)) (pss_one (ps_ret pe_str)) pss_nil)
      (pss_cons (ps_if (pt_cmpR op_gt (pv 3) (pv 9) (nomark _)) (pss_one (ps_ret pe_str)) pss_nil)
      (pss_one (ps_ret pe_non)))))))), ?_⟩
    refine q_unpB (ed_var rfl hx) fun H1 e1 => ?_
    refine q_unpB (ed_var rfl (ho.mono e1)) fun H2 e2 => ?_
    unfold apW at k
    refine q_when (et_test (ev_op (ev_var rfl) (ev_var rfl) rv_I0)) (fun z H3 e3 => ?_) (fun z H3 e3 => ?_)
    · rw [if_pos (of_decide_eq_true z)] at k
      exact s_ret ev_c fun H4 e4 => k _ H4 (((e1.trans e2).trans e3).trans e4) (TDs.str _ .nil)
    rw [if_neg (of_decide_eq_false z)] at k
    refine q_when (et_test (ev_op (ev_var rfl) (ev_var rfl) rv_I0)) (fun z H4 e4 => ?_) (fun z H4 e4 => ?_)
    · rw [if_pos (of_decide_eq_true z)] at k
      exact s_ret ev_c fun H5 e5 => k _ H5 ((((e1.trans e2).trans e3).trans e4).trans e5) (TDs.str _ .nil)
    rw [if_neg (of_decide_eq_false z)] at k
    have e14 := ((e1.trans e2).trans e3).trans e4
    refine q_when (et_test (ev_op (ev_var rfl) (ev_var rfl) rv_I0)) (fun z H5 e5 => ?_) (fun z H5 e5 => ?_)
    · rw [if_pos (of_decide_eq_true z)] at k
      exact s_ret ev_c fun H6 e6 => k _ H6 ((e14.trans e5).trans e6) (TDs.str _ .nil)
    rw [if_neg (of_decide_eq_false z)] at k
    refine q_when (et_test (ev_op (ev_var rfl) (ev_var rfl) rv_I0)) (fun z H6 e6 => ?_) (fun z H6 e6 => ?_)
    · rw [if_pos (of_decide_eq_true z)] at k
      exact s_ret ev_c fun H7 e7 => k _ H7 (((e14.trans e5).trans e6).trans e7) (TDs.str _ .nil)
    rw [if_neg (of_decide_eq_false z)] at k
    exact s_ret ev_c fun H7 e7 => k _ H7 (((e14.trans e5).trans e6).trans e7) (TDs.non .nil)
theorem scAround : FnScope ["boxes", "left", "bottom", "right", "top", "box"] ["boxes"] (defScope sAround) := ⟨rfl, rfl, rfl, by decide +kernel, rfl, by decide +kernel, by decide +kernel⟩
theorem ok_around {f : Addr} {fd : FuncData} (F : Fun K "box_around" "box_around" sAround f fd) (T : TMm mg) : FnOk P w K mg base CX0 1 f fd ["boxes"] spAround := by
  refine F.ok scAround (fun vs H Q E h => ?_) (fun cdv A' outer s H vs Q E hr h => ?_)
  · obtain ⟨L, xs, bs, rfl, _⟩ := h
    rfl
  · obtain ⟨L, xs, bs, rfl, hL, x, hn, hl, k⟩ := h
    have nm : ∀ f : Bx → Int, bs.map f ≠ [] := fun f z => hn (List.map_eq_nil_iff.mp z)
    refine ⟨_, (pss_cons (ps_par (i := 1) (j := 2) (by rfl) scAround.nd rfl rfl (by decide) rfl rfl (pa_cons (pe_callB (cr_min rfl) (by rfl) T.min (by decide +kernel) (pa_cons (pe_lc (own := [("box", 5)]) (g := gName 5) (by rfl) scAround.nd (pi_list (pv 0)) (blkOk_by (own := [("box", 5)]) (N := ["boxes", "left", "bottom", "right", "top", "box"]) (sc := defScope sAround) (by decide +kernel)) (fun _ _ _ _ _ => pg_name (i := 5) scAround.nd rfl (Or.inl rfl)) (fun _ _ _ _ _ => pts_nil) (te := tOp (rIxT K) (tVar 5) (tC (.int 0))) (fun _ _ _ _ _ => by exact (pe_ix ix_tup (pv 5) pe_int (fun _ _ => rfl)))) pa_nil)) (pa_cons (pe_callB (cr_min rfl) (by rfl) T.min (by decide +kernel) (pa_cons (pe_lc (own := [("box", 5)]) (g := gName 5) (by rfl) scAround.nd (pi_list (pv 0)) (blkOk_by (own := [("box", 5)]) (N := ["boxes", "left", "bottom", "right", "top", "box"]) (sc := defScope sAround) (by decide +kernel)) (fun _ _ _ _ _ => pg_name (i := 5) scAround.nd rfl (Or.inl rfl)) (fun _ _ _ _ _ => pts_nil) (te := tOp (rIxT K) (tVar 5) (tC (.int 1))) (fun _ _ _ _ _ => by exact (pe_ix ix_tup (pv 5) pe_int (fun _ _ => rfl)))) pa_nil)) pa_nil)) (by rfl))
      (pss_cons (ps_par (i := 3) (j := 4) (by rfl) scAround.nd rfl rfl (by decide) rfl rfl (pa_cons (pe_callB (cr_max rfl) (by rfl) T.max (by decide +kernel) (pa_cons (pe_lc (own := [("box", 5)]) (g := gName 5) (by rfl) scAround.nd (pi_list (pv 0)) (blkOk_by (own := [("box", 5)]) (N := ["boxes", "left", "bottom", "right", "top", "box"]) (sc := defScope sAround) (by decide +kernel)) (fun _ _ _ _ _ => pg_name (i := 5) scAround.nd rfl (Or.inl rfl)) (fun _ _ _ _ _ => pts_nil) (te := tOp (rIxT K) (tVar 5) (tC (.int 2))) (fun _ _ _ _ _ => by exact (pe_ix ix_tup (pv 5) pe_int (fun _ _ => rfl)))) pa_nil)) (pa_cons (pe_callB (cr_max rfl) (by rfl) T.max (by decide +kernel) (pa_cons (pe_lc (own := [("box", 5)]) (g := gName 5) (by rfl) scAround.nd (pi_list (pv 0)) (blkOk_by (own := [("box", 5)]) (N := ["boxes", "left", "bottom", "right", "top", "box"]) (sc := defScope sAround) (by decide +kernel)) (fun _ _ _ _ _ => pg_name (i := 5) scAround.nd rfl (Or.inl rfl)) (fun _ _ _ _ _ => pts_nil) (te := tOp (rIxT K) (tVar 5) (tC (.int 3))) (fun _ _ _ _ _ => by exact (pe_ix ix_tup (pv 5) pe_int (fun _ _ => rfl)))) pa_nil)) pa_nil)) (by rfl))
      (pss_one (ps_ret (pe_tup (pa_cons (pv 1) (pa_cons (pv 2) (pa_cons (pv 3) (pa_cons (pv 4) pa_nil))))))))), ?_⟩
    refine q_par (ev_minN (eds_side (·.l) (fun b => ⟨by decide, rfl⟩) (fun _ => rfl) (fun _ => rfl) (ld_of (ev_var rfl) hL x) hl) (nm _)) (ev_minN (eds_side (·.b) (fun b => ⟨by decide, rfl⟩) (fun _ => rfl) (fun _ => rfl) (ld_of (ev_var rfl) hL x) hl) (nm _)) fun H1 e1 => ?_
    refine q_par (ev_maxN (eds_side (·.r) (fun b => ⟨by decide, rfl⟩) (fun _ => rfl) (fun _ => rfl) (ld_of (ev_var rfl) (e1 _ _ hL) (x.mono e1)) hl) (nm _)) (ev_maxN (eds_side (·.t) (fun b => ⟨by decide, rfl⟩) (fun _ => rfl) (fun _ => rfl) (ld_of (ev_var rfl) (e1 _ _ hL) (x.mono e1)) hl) (nm _)) fun H2 e2 => ?_
    exact s_retD (d := boxD (joint bs)) (ed_tup (da_cons (ed_int (ev_var rfl)) (da_cons (ed_int (ev_var rfl)) (da_cons (ed_int (ev_var rfl)) (da_cons (ed_int (ev_var rfl)) da_nil)))) (by show 4 ≤ 100000; decide)) fun v H3 e3 y => k v H3 ((e1.trans e2).trans e3) y
end
end Q
set_option Elab.async false
set_option linter.all false
set_option maxRecDepth 100000
set_option maxHeartbeats 2000000
/-! the law's own boxes -/
namespace Q
open PySem L2 PySem.Spec PyProof.Rows PySem.Calls
open Evl PB
theorem lay_bs : ∀ bs : List Bx, PyData.canLayAll0 (bs.map boxD) = true
  | [] => rfl
  | b :: bs => by
    show ((boxD b).canLay0 && PyData.canLayAll0 (bs.map boxD)) = true
    rw [lay_bs bs]
    rfl
theorem dep_bs : ∀ bs : List Bx, PyData.depthAll (bs.map boxD) ≤ 5
  | [] => Nat.zero_le _
  | b :: bs => Nat.max_le.mpr ⟨(by simp [boxD, PyData.depth, PyData.depthAll]), dep_bs bs⟩
theorem shaped_bs (bs : List Bx) : SeqAt.shaped (.list (bs.map boxD)) = true := by
  unfold SeqAt.shaped
  have h1 : (PyData.list (bs.map boxD)).canLay0 = true := lay_bs bs
  have h2 : (PyData.list (bs.map boxD)).depth ≤ 64 := by
    have := dep_bs bs
    simp only [PyData.depth]
    omega
  rw [h1, decide_eq_true h2]
  rfl
section
variable {P : Program} {w : World} {K : PySem.W.Frag} {mg : Str → Option Value} {base : Heap}
theorem scLJoint : FnScope ["boxes", "low", "box"] ["boxes"] (defScope sLJoint) := ⟨rfl, rfl, rfl, by decide +kernel, rfl, by decide +kernel, by decide +kernel⟩
/-- two tuples put together -/
theorem ed_cat {σ : L2.St} {H : Hp} {ta tb : TE} {as bs : List PyData} (h1 : EvD ta σ H (.tuple as)) (h2 : EvD tb σ H (.tuple bs)) (na : as ≠ []) (nb : bs ≠ []) (hl : as.length + bs.length ≤ 100000) : EvD (tOp (rCatT K) ta tb) σ H (.tuple (as ++ bs)) := fun H1 e Q q =>
  h1 H1 e _ fun u H2 e2 x => h2 H2 (e.trans e2) _ fun v H3 e3 y => by
    obtain ⟨a, xs, rfl, ha, t⟩ := (x.mono e3).tup
    obtain ⟨b, ys, rfl, hb, s⟩ := y.tup
    have l1 := t.len
    have l2 := s.len
    have n1 : xs ≠ [] := fun z => na (List.length_eq_zero_iff.mp (by rw [← l1, z]; rfl))
    have n2 : ys ≠ [] := fun z => nb (List.length_eq_zero_iff.mp (by rw [← l2, z]; rfl))
    exact ⟨a, b, xs, ys, rfl, rfl, SqT.of ha, SqT.of hb, n1, sz_of (by omega), fun z => absurd z n2, fun _ p hp => q (.ref p) _ ((e2.trans e3).trans (Ex.new hp)) (TD1.mk upd_same ((t.app s).mono (Ex.new hp)))⟩
theorem ok_ljoint {f : Addr} {fd : FuncData} (F : Fun K "_law_joint_box" "_law_joint_box" sLJoint f fd) (T : TMm mg) : FnOk P w K mg base CX0 1 f fd ["boxes"] spAround := by
  refine F.ok scLJoint (fun vs H Q E h => ?_) (fun cdv A' outer s H vs Q E hr h => ?_)
  · obtain ⟨L, xs, bs, rfl, _⟩ := h
    rfl
  · obtain ⟨L, xs, bs, rfl, hL, x, hn, hl, k⟩ := h
    have hu := hr.units
    have nm : ∀ f : Bx → Int, bs.map f ≠ [] := fun f z => hn (List.map_eq_nil_iff.mp z)
    refine ⟨_, (pss_cons (ps_if (pt_cmpR (op_eqD hu) (pv 0) (pe_lst pa_nil) (nomark _)) pss_never pss_nil)
      (pss_cons (ps_set (i := 1) scLJoint.nd rfl (Or.inl rfl) (pe_tup (pa_cons (pe_callB (cr_min rfl) (by rfl) T.min (by decide +kernel) (pa_cons (pe_lc (own := [("box", 2)]) (g := gName 2) (by rfl) scLJoint.nd (pi_list (pv 0)) (blkOk_by (own := [("box", 2)]) (N := ["boxes", "low", "box"]) (sc := defScope sLJoint) (by decide +kernel)) (fun _ _ _ _ _ => pg_name (i := 2) scLJoint.nd rfl (Or.inl rfl)) (fun _ _ _ _ _ => pts_nil) (te := tOp (rIxT K) (tVar 2) (tC (.int 0))) (fun _ _ _ _ _ => by exact (pe_ix ix_tup (pv 2) pe_int (fun _ _ => rfl)))) pa_nil)) (pa_cons (pe_callB (cr_min rfl) (by rfl) T.min (by decide +kernel) (pa_cons (pe_lc (own := [("box", 2)]) (g := gName 2) (by rfl) scLJoint.nd (pi_list (pv 0)) (blkOk_by (own := [("box", 2)]) (N := ["boxes", "low", "box"]) (sc := defScope sLJoint) (by decide +kernel)) (fun _ _ _ _ _ => pg_name (i := 2) scLJoint.nd rfl (Or.inl rfl)) (fun _ _ _ _ _ => pts_nil) (te := tOp (rIxT K) (tVar 2) (tC (.int 1))) (fun _ _ _ _ _ => by exact (pe_ix ix_tup (pv 2) pe_int (fun _ _ => rfl)))) pa_nil)) pa_nil))))
      (pss_one (ps_ret (pe_op op_catT (pv 1) (pe_tup (pa_cons (pe_callB (cr_max rfl) (by rfl) T.max (by decide +kernel) (pa_cons (pe_lc (own := [("box", 2)]) (g := gName 2) (by rfl) scLJoint.nd (pi_list (pv 0)) (blkOk_by (own := [("box", 2)]) (N := ["boxes", "low", "box"]) (sc := defScope sLJoint) (by decide +kernel)) (fun _ _ _ _ _ => pg_name (i := 2) scLJoint.nd rfl (Or.inl rfl)) (fun _ _ _ _ _ => pts_nil) (te := tOp (rIxT K) (tVar 2) (tC (.int 2))) (fun _ _ _ _ _ => by exact (pe_ix ix_tup (pv 2) pe_int (fun _ _ => rfl)))) pa_nil)) (pa_cons (pe_callB (cr_max rfl) (by rfl) T.max (by decide +kernel) (pa_cons (pe_lc (own := [("box", 2)]) (g := gName 2) (by rfl) scLJoint.nd (pi_list (pv 0)) (blkOk_by (own := [("box", 2)]) (N := ["boxes", "low", "box"]) (sc := defScope sLJoint) (by decide +kernel)) (fun _ _ _ _ _ => pg_name (i := 2) scLJoint.nd rfl (Or.inl rfl)) (fun _ _ _ _ _ => pts_nil) (te := tOp (rIxT K) (tVar 2) (tC (.int 3))) (fun _ _ _ _ _ => by exact (pe_ix ix_tup (pv 2) pe_int (fun _ _ => rfl)))) pa_nil)) pa_nil)))))))), ?_⟩
    refine q_not (et_test fun H1 e1 Q q => ⟨_, rfl, Nat.zero_le _, fun l hl0 => ⟨.list (bs.map boxD), .list [], .lst (SqL.of (Ex.new hl0 _ _ (e1 _ _ hL))) ((x.mono (e1.trans (Ex.new hl0))).dp), .lst (SqL.of upd_same) .nil, shaped_bs bs, rfl, ?_⟩⟩) fun H1 e1 => ?_
    · have z : PyData.eqv (.list (bs.map boxD)) (.list []) = false := by
        match bs, hn with
        | b :: r, _ => simp [PyData.eqv, PyData.eqvAll]
      rw [z]
      exact q _ (Ex.new hl0)
    refine q_asgD (d := .tuple [.int (joint bs).l, .int (joint bs).b]) (ed_tup (da_cons (ed_int (ev_minN (eds_side (·.l) (fun b => ⟨by decide, rfl⟩) (fun _ => rfl) (fun _ => rfl) (ld_of (ev_var rfl) (e1 _ _ hL) (x.mono e1)) hl) (nm _))) (da_cons (ed_int (ev_minN (eds_side (·.b) (fun b => ⟨by decide, rfl⟩) (fun _ => rfl) (fun _ => rfl) (ld_of (ev_var rfl) (e1 _ _ hL) (x.mono e1)) hl) (nm _))) da_nil)) (by show 2 ≤ 100000; decide)) fun lo H2 e2 y => ?_
    have e12 := e1.trans e2
    exact s_retD (d := boxD (joint bs)) (ed_cat (bs := [.int (joint bs).r, .int (joint bs).t]) (ed_var rfl y) (ed_tup (da_cons (ed_int (ev_maxN (eds_side (·.r) (fun b => ⟨by decide, rfl⟩) (fun _ => rfl) (fun _ => rfl) (ld_of (ev_var rfl) (e12 _ _ hL) (x.mono e12)) hl) (nm _))) (da_cons (ed_int (ev_maxN (eds_side (·.t) (fun b => ⟨by decide, rfl⟩) (fun _ => rfl) (fun _ => rfl) (ld_of (ev_var rfl) (e12 _ _ hL) (x.mono e12)) hl) (nm _))) da_nil)) (by show 2 ≤ 100000; decide)) (by simp) (by simp) (by show 4 ≤ 100000; decide)) fun v H3 e3 z => k v H3 (e12.trans e3) z
end
end Q
set_option Elab.async false
set_option linter.all false
set_option maxRecDepth 100000
set_option maxHeartbeats 2000000
/-! walks over what is told, comprehensions over them, of one clause and of two -/
namespace Q
open PySem L2 PySem.Spec PyProof.Rows PySem.Calls
open Evl PB
/-- a walk that gives what is told, from this heap on -/
structure DW (J : It) (H1 : Hp) (ds : List PyData) : Prop where
  ex : ∃ (G : Hp → Prop) (Y : Nat → Hp → V → Hp → Prop), Walk J ds.length G Y ∧ (∀ H', Ex H1 H' → G H') ∧ ∀ (i : Nat) x H H', i < ds.length → Ex H1 H → Y i H x H' → Ex H H' ∧ ∃ d, ds[i]? = some d ∧ TD1 H' x d
theorem dw_list {K : PySem.W.Frag} {H1 : Hp} {a : Addr} {xs : List V} {ds : List PyData} (ha : H1 a = some (.lst xs)) (x : TDs H1 xs ds) : DW (Itl K a) H1 ds := by
  refine ⟨_, _, x.len ▸ walk_list (K := K) (a := a) (xs := xs), fun H' e => SqL.of (e _ _ ha), fun i v H H' hi e y => ?_⟩
  obtain ⟨rfl, hv⟩ := y
  obtain ⟨d, hd, t⟩ := x.to hv
  exact ⟨Ex.refl _, d, hd, t.mono e⟩
theorem dw_tup {K : PySem.W.Frag} {H1 : Hp} {a : Addr} {xs : List V} {ds : List PyData} (ha : H1 a = some (.tup xs)) (x : TDs H1 xs ds) : DW (Itt K a) H1 ds := by
  refine ⟨_, _, x.len ▸ walk_tup (K := K) (a := a) (xs := xs), fun H' e => SqT.of (e _ _ ha), fun i v H H' hi e y => ?_⟩
  obtain ⟨rfl, hv⟩ := y
  obtain ⟨d, hd, t⟩ := x.to hv
  exact ⟨Ex.refl _, d, hd, t.mono e⟩
/-- each with its index -/
def numD (ds : List PyData) : List PyData := (List.range ds.length).map fun (i : Nat) => PyData.tuple [.int (i : Int), ds.getD i .none]
theorem numD_len (ds : List PyData) : (numD ds).length = ds.length := by
  unfold numD
  rw [List.length_map, List.length_range]
theorem numD_at {ds : List PyData} {i : Nat} {d : PyData} (h : ds[i]? = some d) : (numD ds)[i]? = some (.tuple [.int (i : Int), d]) := by
  have hlt := (List.getElem?_eq_some_iff.mp h).1
  unfold numD
  rw [List.getElem?_map, List.getElem?_range hlt]
  show some (PyData.tuple [PyData.int (i : Int), ds.getD i PyData.none]) = _
  rw [List.getD_eq_getElem?_getD, h]
  rfl
theorem pair_td {H H' : Hp} {v x y : V} {T : Addr} {d e : PyData} (hn : H T = none) (he : H' = upd H T (.tup [x, y])) (hx : TD1 H x d) (hy : TD1 H y e) : Ex H H' ∧ TD1 H' (.ref T) (.tuple [d, e]) := by
  subst he
  exact ⟨Ex.new hn, TD1.mk upd_same ((TDs.cons hx (TDs.cons hy .nil)).mono (Ex.new hn))⟩
theorem dw_enum {K : PySem.W.Frag} {H1 : Hp} {a : Addr} {xs : List V} {ds : List PyData} (ha : H1 a = some (.lst xs)) (x : TDs H1 xs ds) : DW (Ite K a) H1 (numD ds) := by
  refine ⟨_, _, (by rw [numD_len]; exact x.len ▸ walk_enum (K := K) (a := a) (xs := xs)), fun H' e => SqL.of (e _ _ ha), fun i v H H' hi e y => ?_⟩
  obtain ⟨T, u, z, rfl, hT, hH, hu, hz⟩ := y
  cases hu
  obtain ⟨d, hd, t⟩ := x.to hz
  obtain ⟨e2, t2⟩ := pair_td (v := .ref T) hT hH (TDs.int (i : Int) .nil) (t.mono e)
  exact ⟨e2, _, numD_at hd, t2⟩
theorem dw_zip {K : PySem.W.Frag} {H1 : Hp} {a b : Addr} {xs ys : List V} {α : Type} {f g : α → PyData} {es : List α} (ha : H1 a = some (.lst xs)) (hb : H1 b = some (.lst ys)) (x : TDs H1 xs (es.map f)) (y : TDs H1 ys (es.map g)) : DW (Itz K a b) H1 (es.map fun e => .tuple [f e, g e]) := by
  have l1 := x.len
  have l2 := y.len
  rw [List.length_map] at l1 l2
  refine ⟨_, _, walk_zip (K := K) (a := a) (b := b) (xs := xs) (ys := ys) (by rw [List.length_map]; omega), fun H' e => ⟨SqL.of (e _ _ ha), SqL.of (e _ _ hb)⟩, fun i v H H' hi e q => ?_⟩
  obtain ⟨T, u, z, rfl, hT, hH, hu, hz⟩ := q
  obtain ⟨d, hd, t⟩ := x.to hu
  obtain ⟨c, hc, s⟩ := y.to hz
  rw [List.getElem?_map] at hd hc
  obtain ⟨α1, he, rfl⟩ := Option.map_eq_some_iff.mp hd
  rw [he] at hc
  cases hc
  obtain ⟨e2, t2⟩ := pair_td (v := .ref T) hT hH (t.mono e) (s.mono e)
  exact ⟨e2, _, by rw [List.getElem?_map, he]; rfl, t2⟩
/-- something walked that gives what is told -/
def EvI (wi : L2.TI) (σ : L2.St) (H : Hp) (ds : List PyData) : Prop := ∀ H1, Ex H H1 → ∀ R : It → Hp → Prop, (∀ J H2, Ex H1 H2 → DW J H2 ds → R J H2) → wi σ H1 R
section
variable {K : PySem.W.Frag} {σ : L2.St} {H H' : Hp} {ta : TA} {te tl tb : TE} {ds : List PyData} {wi wi1 : L2.TI}
theorem EvI.mono (e : Ex H H') (h : EvI wi σ H ds) : EvI wi σ H' ds := fun H1 a R q => h H1 (e.trans a) R q
theorem ei_list (h : EvLd tl σ H ds) : EvI (iList K tl) σ H ds := fun H1 e R q => h H1 e _ fun a xs H2 e2 ha x => ⟨a, rfl, ⟨xs, SqL.of ha⟩, q _ H2 e2 (dw_list ha x)⟩
theorem ei_tup (h : EvD tl σ H (.tuple ds)) : EvI (iTup K tl) σ H ds := fun H1 e R q => h H1 e _ fun v H2 e2 hv => by
  obtain ⟨a, xs, rfl, ha, x⟩ := hv.tup
  exact ⟨a, rfl, ⟨xs, SqT.of ha⟩, q _ H2 e2 (dw_tup ha x)⟩
theorem ei_enum (h : EvLd tl σ H ds) : EvI (iEnum K (tCons tl tNil)) σ H (numD ds) := fun H1 e R q => h H1 e _ fun a xs H2 e2 ha x => ⟨a, xs, rfl, SqL.of ha, q _ H2 e2 (dw_enum ha x)⟩
theorem ei_zip {α : Type} {f g : α → PyData} {es : List α} (h1 : EvLd tl σ H (es.map f)) (h2 : EvLd tb σ H (es.map g)) : EvI (iZip K (tCons tl (tCons tb tNil))) σ H (es.map fun e => .tuple [f e, g e]) := fun H1 e R q =>
  h1 H1 e _ fun a xs H2 e2 ha x => h2 H2 (e.trans e2) _ fun b ys H3 e3 hb y => ⟨a, b, xs, ys, rfl, SqL.of (e3 _ _ ha), SqL.of hb, q _ H3 (e2.trans e3) (dw_zip (e3 _ _ ha) hb (x.mono e3) y)⟩
end
/-- the comprehension's list as it grows behind what stands there -/
def Cb {α : Type} (H : Hp) (b : List PyData) (p : α → Bool) (F : α → PyData) (es : List α) (Dl : Addr) (i : Nat) (H' : Hp) : Prop := H Dl = none ∧ Ex H H' ∧ ∃ acc : List V, H' Dl = some (.lst acc) ∧ TDs H' acc (b ++ ((es.take i).filter p).map F)
section
variable {α : Type} {enc : α → PyData} {es : List α} {p : α → Bool} {F : α → PyData} {b0 : List PyData}
variable {K : PySem.W.Frag} {σ : L2.St} {H : Hp} {te tl : TE} {tt : TT} {g : TG} {vs : List Nat} {wi : L2.TI}
theorem cb_turn {H1 H' H3 : Hp} {Dl : Addr} {i : Nat} {e : α} {σ2 : L2.St} (c : Cb H1 b0 p F es Dl i H') (hi : es[i]? = some e) (hz : b0.length + es.length ≤ 50000) (e3 : Ex H' H3) (ht : EvT tt σ2 H3 (p e)) (he : p e = true → EvD te σ2 H3 (F e)) :
    tt σ2 H3 fun b H4 => if b = true then te σ2 H4 fun y H5 => ∃ acc, H5 Dl = some (.lst acc) ∧ acc.length < sizeLine ∧ Cb H1 b0 p F es Dl (i + 1) (upd H5 Dl (.lst (acc ++ [y]))) else Cb H1 b0 p F es Dl (i + 1) H4 := by
  obtain ⟨c1, c2, acc, c3, c4⟩ := c
  have hlt := (List.getElem?_eq_some_iff.mp hi).1
  refine ht H3 (Ex.refl _) _ fun H4 e4 => ?_
  have e34 := e3.trans e4
  cases hp : p e with
  | true =>
    show te σ2 H4 fun y H5 => ∃ acc, H5 Dl = some (.lst acc) ∧ acc.length < sizeLine ∧ Cb H1 b0 p F es Dl (i + 1) (upd H5 Dl (.lst (acc ++ [y])))
    refine he hp H4 e4 _ fun y H5 e5 x => ⟨acc, (e34.trans e5) _ _ c3, sz_lt ?_, c1, Ex.mut (c2.trans (e34.trans e5)) c1, acc ++ [y], upd_same, ?_⟩
    · rw [c4.len, List.length_append, List.length_map]
      have := List.length_filter_le p (es.take i)
      rw [List.length_take] at this
      omega
    · rw [take_snoc hi, List.filter_append, List.map_append]
      have hf : [e].filter p = [e] := by rw [List.filter_cons, if_pos hp]; rfl
      rw [hf, ← List.append_assoc]
      exact ((c4.mono (e34.trans e5)).app x).by (upd_tup ((e34.trans e5) _ _ c3))
  | false =>
    show Cb H1 b0 p F es Dl (i + 1) H4
    refine ⟨c1, c2.trans e34, acc, e34 _ _ c3, ?_⟩
    rw [take_snoc hi, List.filter_append, List.map_append]
    have hf : [e].filter p = [] := by rw [List.filter_cons, if_neg (by rw [hp]; decide)]; rfl
    rw [hf, List.map_nil, List.append_nil]
    exact c4.mono e34
theorem eds_it (p : α → Bool) (F : α → PyData) (h : EvI wi σ H (es.map enc)) (hz : es.length ≤ 40000) (hs : ∀ e ∈ es, Turn1 g tt te vs σ H enc p F e) : EvDs (tLc wi g tt te vs) σ H ((es.filter p).map F) := fun H0 e0 Q q =>
  h H0 e0 _ fun J H1 e1 dw Dl hD => by
    obtain ⟨G, Y, w, hG, hY⟩ := dw.ex
    rw [List.length_map] at w hY
    refine lc_it w (Cb H1 [] p F es Dl) ⟨hD, Ex.new hD, [], upd_same, by rw [List.take_zero]; exact .nil⟩ (fun i H' _ c => hG H' c.2.1) (fun i x H2 H3 hi c y => ?_) fun H' c => ?_
    · obtain ⟨e3, d, hd, t⟩ := hY i x H2 H3 hi c.2.1 y
      rw [List.getElem?_map] at hd
      obtain ⟨e, he, rfl⟩ := Option.map_eq_some_iff.mp hd
      exact hs e (List.mem_of_getElem? he) x H3 ((e0.trans e1).trans (c.2.1.trans e3)) t _ fun σ2 H4 e4 hw ht hte => ⟨hw, cb_turn c he (by show 0 + es.length ≤ 50000; omega) (e3.trans e4) ht hte⟩
    · obtain ⟨c1, c2, acc, c3, c4⟩ := c
      rw [List.take_length] at c4
      exact q Dl acc H' (fresh_back e1 c1) (e1.trans c2) c3 c4
/-- as it was but for the list at D -/
def Mx (D : Addr) (H H' : Hp) : Prop := ∀ l o, l ≠ D → H l = some o → H' l = some o
def TKp (H H' : Hp) : Prop := ∀ a xs, H a = some (.tup xs) → H' a = some (.tup xs)
theorem Mx.tk {D : Addr} {H H' : Hp} {xs : List V} (m : Mx D H H') (h : H D = some (.lst xs)) : TKp H H' := fun a ys ha => m a _ (fun z => by
  rw [z, h] at ha
  cases ha) ha
structure DWm (Dl : Addr) (J : It) (H1 : Hp) (ds : List PyData) : Prop where
  ex : ∃ (G : Hp → Prop) (Y : Nat → Hp → V → Hp → Prop), Walk J ds.length G Y ∧ (∀ H', Mx Dl H1 H' → G H') ∧ ∀ (i : Nat) x H H', i < ds.length → Mx Dl H1 H → Y i H x H' → Ex H H' ∧ ∃ d, ds[i]? = some d ∧ TD1 H' x d
theorem dwm_list {K : PySem.W.Frag} {H1 : Hp} {a Dl : Addr} {xs ys : List V} {ds : List PyData} (ha : H1 a = some (.lst xs)) (x : TDs H1 xs ds) (hD : H1 Dl = some (.lst ys)) (na : a ≠ Dl) : DWm Dl (Itl K a) H1 ds := by
  refine ⟨_, _, x.len ▸ walk_list (K := K) (a := a) (xs := xs), fun H' e => SqL.of (e _ _ na ha), fun i v H H' hi e y => ?_⟩
  obtain ⟨rfl, hv⟩ := y
  obtain ⟨d, hd, t⟩ := x.to hv
  exact ⟨Ex.refl _, d, hd, t.by (e.tk hD)⟩
theorem dwm_tup {K : PySem.W.Frag} {H1 : Hp} {a Dl : Addr} {xs ys : List V} {ds : List PyData} (ha : H1 a = some (.tup xs)) (x : TDs H1 xs ds) (hD : H1 Dl = some (.lst ys)) : DWm Dl (Itt K a) H1 ds := by
  refine ⟨_, _, x.len ▸ walk_tup (K := K) (a := a) (xs := xs), fun H' e => SqT.of (e.tk hD _ _ ha), fun i v H H' hi e y => ?_⟩
  obtain ⟨rfl, hv⟩ := y
  obtain ⟨d, hd, t⟩ := x.to hv
  exact ⟨Ex.refl _, d, hd, t.by (e.tk hD)⟩
/-- something walked within a comprehension's turn -/
def EvIm (wi : L2.TI) (σ : L2.St) (H : Hp) (ds : List PyData) : Prop := ∀ H1, Ex H H1 → ∀ Dl, (∃ xs, H1 Dl = some (.lst xs)) → ∀ R : It → Hp → Prop, (∀ J H2, Ex H1 H2 → DWm Dl J H2 ds → R J H2) → wi σ H1 R
theorem em_new {K : PySem.W.Frag} {σ : L2.St} {H : Hp} {tl : TE} {ds : List PyData} (h : EvDs tl σ H ds) : EvIm (iList K tl) σ H ds := fun H1 e Dl ⟨ys, hD⟩ R q => h H1 e _ fun a xs H2 hn e2 ha x => ⟨a, rfl, ⟨xs, SqL.of ha⟩, q _ H2 e2 (dwm_list ha x (e2 _ _ hD) fun z => by
  rw [z, hD] at hn
  cases hn)⟩
theorem em_tup {K : PySem.W.Frag} {σ : L2.St} {H : Hp} {tl : TE} {ds : List PyData} (h : EvD tl σ H (.tuple ds)) : EvIm (iTup K tl) σ H ds := fun H1 e Dl ⟨ys, hD⟩ R q => h H1 e _ fun v H2 e2 hv => by
  obtain ⟨a, xs, rfl, ha, x⟩ := hv.tup
  exact ⟨a, rfl, ⟨xs, SqT.of ha⟩, q _ H2 e2 (dwm_tup ha x (e2 _ _ hD))⟩
/-- the outer turn of two clauses: the target, then the inner walk with its own turns -/
def Turn2 {β : Type} (g : TG) (wi1 : L2.TI) (g1 : TG) (tt1 : TT) (te : TE) (vs vs1 : List Nat) (σ : L2.St) (H : Hp) (enc : α → PyData) (enc1 : β → PyData) (sub : α → List β) (p1 : α → β → Bool) (F1 : α → β → PyData) (e : α) : Prop := ∀ v H1, Ex H H1 → TD1 H1 v (enc e) → ∀ kk : L2.St → Hp → Prop,
  (∀ σ2 H2, Ex H1 H2 → wipe σ2 vs = wipe σ vs → EvIm wi1 σ2 H2 ((sub e).map enc1) → (∀ f ∈ sub e, ∀ H3, TKp H2 H3 → Turn1 g1 tt1 te vs1 σ2 H3 enc1 (p1 e) (F1 e) f) → kk σ2 H2) → g v (wipe σ vs) H1 kk
theorem flat_len {β : Type} (R : α → List β) {c : Nat} : ∀ {l : List α}, (∀ e ∈ l, (R e).length ≤ c) → (l.flatMap R).length ≤ l.length * c
  | [], _ => by simp
  | e :: l, h => by
    rw [List.flatMap_cons, List.length_append, List.length_cons, Nat.add_mul, Nat.one_mul]
    have h1 := flat_len R (l := l) fun x hx => h x (List.mem_cons_of_mem _ hx)
    have h2 := h e List.mem_cons_self
    omega
theorem Mx.upd {D : Addr} {H H' : Hp} {o : HO} (m : Mx D H H') : Mx D H (upd H' D o) := fun l u n q => by
  rw [upd_ne n]
  exact m l u n q
/-- what has been put in by the outer turns -/
def Co (H : Hp) (R : α → List PyData) (es : List α) (Dl : Addr) (i : Nat) (H' : Hp) : Prop := H Dl = none ∧ Ex H H' ∧ ∃ acc : List V, H' Dl = some (.lst acc) ∧ TDs H' acc ((es.take i).flatMap R)
/-- .. within a turn -/
def Ci {β : Type} (H H5 : Hp) (b0 : List PyData) (p : β → Bool) (F : β → PyData) (es : List β) (Dl : Addr) (i : Nat) (H' : Hp) : Prop := Cb H b0 p F es Dl i H' ∧ Mx Dl H5 H'
theorem ci_turn {β : Type} {b0 : List PyData} {p : β → Bool} {F : β → PyData} {es : List β} {H1 H5 H' H3 : Hp} {Dl : Addr} {i : Nat} {e : β} {σ2 : L2.St} (c : Ci H1 H5 b0 p F es Dl i H') (hi : es[i]? = some e) (hz : b0.length + es.length ≤ 50000) (e3 : Ex H' H3) (ht : EvT tt σ2 H3 (p e)) (he : p e = true → EvD te σ2 H3 (F e)) :
    tt σ2 H3 fun b H4 => if b = true then te σ2 H4 fun y H6 => ∃ acc, H6 Dl = some (.lst acc) ∧ acc.length < sizeLine ∧ Ci H1 H5 b0 p F es Dl (i + 1) (upd H6 Dl (.lst (acc ++ [y]))) else Ci H1 H5 b0 p F es Dl (i + 1) H4 := by
  obtain ⟨⟨c1, c2, acc, c3, c4⟩, c5⟩ := c
  have hlt := (List.getElem?_eq_some_iff.mp hi).1
  refine ht H3 (Ex.refl _) _ fun H4 e4 => ?_
  have e34 := e3.trans e4
  cases hp : p e with
  | true =>
    show te σ2 H4 fun y H6 => ∃ acc, H6 Dl = some (.lst acc) ∧ acc.length < sizeLine ∧ Ci H1 H5 b0 p F es Dl (i + 1) (upd H6 Dl (.lst (acc ++ [y])))
    refine he hp H4 e4 _ fun y H6 e6 x => ⟨acc, (e34.trans e6) _ _ c3, sz_lt ?_, ⟨c1, Ex.mut (c2.trans (e34.trans e6)) c1, acc ++ [y], upd_same, ?_⟩, Mx.upd fun l o n q => (e34.trans e6) _ _ (c5 l o n q)⟩
    · rw [c4.len, List.length_append, List.length_map]
      have := List.length_filter_le p (es.take i)
      rw [List.length_take] at this
      omega
    · rw [take_snoc hi, List.filter_append, List.map_append]
      have hf : [e].filter p = [e] := by rw [List.filter_cons, if_pos hp]; rfl
      rw [hf, ← List.append_assoc]
      exact ((c4.mono (e34.trans e6)).app x).by (upd_tup ((e34.trans e6) _ _ c3))
  | false =>
    show Ci H1 H5 b0 p F es Dl (i + 1) H4
    refine ⟨⟨c1, c2.trans e34, acc, e34 _ _ c3, ?_⟩, fun l o n q => e34 _ _ (c5 l o n q)⟩
    rw [take_snoc hi, List.filter_append, List.map_append]
    have hf : [e].filter p = [] := by rw [List.filter_cons, if_neg (by rw [hp]; decide)]; rfl
    rw [hf, List.map_nil, List.append_nil]
    exact c4.mono e34
theorem eds_it2 {β : Type} {enc1 : β → PyData} {wi1 : L2.TI} {g1 : TG} {tt1 : TT} {vs1 : List Nat} {sub : α → List β} {p1 : α → β → Bool} {F1 : α → β → PyData} (h : EvI wi σ H (es.map enc)) (hz : es.length ≤ 300) (hz1 : ∀ e ∈ es, (sub e).length ≤ 100)
    (hs : ∀ e ∈ es, Turn2 g wi1 g1 tt1 te vs vs1 σ H enc enc1 sub p1 F1 e) : EvDs (tLc2 wi g tYes wi1 g1 tt1 te vs vs1) σ H (es.flatMap fun e => ((sub e).filter (p1 e)).map (F1 e)) := fun H0 e0 Q q =>
  h H0 e0 _ fun J H1 e1 dw Dl hD => by
    obtain ⟨G, Y, w, hG, hY⟩ := dw.ex
    rw [List.length_map] at w hY
    have hR : ∀ e ∈ es, (((sub e).filter (p1 e)).map (F1 e)).length ≤ 100 := fun e he => by
      rw [List.length_map]
      exact Nat.le_trans (List.length_filter_le _ _) (hz1 e he)
    refine ⟨fun i m H' => m = es.length - i ∧ i ≤ es.length ∧ Co H1 (fun e => ((sub e).filter (p1 e)).map (F1 e)) es Dl i H', ⟨es.length, by simp, Nat.zero_le _, hD, Ex.new hD, [], upd_same, by rw [List.take_zero]; exact .nil⟩, ?_⟩
    rintro i m H2 ⟨rfl, hi, c⟩
    obtain ⟨c1, c2, acc, c3, c4⟩ := c
    by_cases hlt : i < es.length
    · refine .inr ⟨w.goes i H2 hlt (hG H2 c2), Co H1 (fun e => ((sub e).filter (p1 e)).map (F1 e)) es Dl (i + 1), fun H' c' => ⟨es.length - (i + 1), by omega, rfl, hlt, c'⟩, fun x H3 y => ?_⟩
      obtain ⟨e3, d, hd, t⟩ := hY i x H2 H3 hlt c2 (w.yields i H2 x H3 hlt (hG H2 c2) y)
      rw [List.getElem?_map] at hd
      obtain ⟨e, he, rfl⟩ := Option.map_eq_some_iff.mp hd
      have hem := List.mem_of_getElem? he
      have b0 : ((es.take i).flatMap fun e => ((sub e).filter (p1 e)).map (F1 e)).length ≤ 30000 := by
        have z := flat_len (fun e => ((sub e).filter (p1 e)).map (F1 e)) (c := 100) (l := es.take i) fun a ha => hR a (List.mem_of_mem_take ha)
        rw [List.length_take] at z
        omega
      refine hs e hem x H3 ((e0.trans e1).trans (c2.trans e3)) t _ fun σ2 H4 e4 hw hi1 ht1 => ⟨hw, yes_ite ?_⟩
      have e24 := e3.trans e4
      refine hi1 H4 (Ex.refl _) Dl ⟨acc, e24 _ _ c3⟩ _ fun J1 H5 e5 dw1 => ?_
      obtain ⟨G1, Y1, w1, hG1, hY1⟩ := dw1.ex
      rw [List.length_map] at w1 hY1
      have e25 := e24.trans e5
      have l1 := hz1 e hem
      refine ⟨fun j k H' => k = (sub e).length - j ∧ j ≤ (sub e).length ∧ Ci H1 H5 ((es.take i).flatMap fun e => ((sub e).filter (p1 e)).map (F1 e)) (p1 e) (F1 e) (sub e) Dl j H', ⟨(sub e).length, by simp, Nat.zero_le _, ⟨c1, c2.trans e25, acc, e25 _ _ c3, ?_⟩, fun l o _ q => q⟩, ?_⟩
      · rw [List.take_zero, List.filter_nil, List.map_nil, List.append_nil]
        exact c4.mono e25
      · rintro j k H6 ⟨rfl, hj, ci⟩
        by_cases hjl : j < (sub e).length
        · refine .inr ⟨w1.goes j H6 hjl (hG1 H6 ci.2), Ci H1 H5 _ (p1 e) (F1 e) (sub e) Dl (j + 1), fun H' c' => ⟨(sub e).length - (j + 1), by omega, rfl, hjl, c'⟩, fun x1 H7 y1 => ?_⟩
          obtain ⟨e7, d1, hd1, t1⟩ := hY1 j x1 H6 H7 hjl ci.2 (w1.yields j H6 x1 H7 hjl (hG1 H6 ci.2) y1)
          rw [List.getElem?_map] at hd1
          obtain ⟨f, hf, rfl⟩ := Option.map_eq_some_iff.mp hd1
          have tk : TKp H4 H7 := fun a xs ha => e7 _ _ (ci.2.tk (e25 _ _ c3) _ _ (e5 _ _ ha))
          exact ht1 f (List.mem_of_getElem? hf) H7 tk x1 H7 (Ex.refl _) t1 _ fun σ3 H8 e8 hw3 htt hte => ⟨hw3, ci_turn ci hf (by omega) (e7.trans e8) htt hte⟩
        · have ej : j = (sub e).length := by omega
          subst ej
          refine .inl ⟨w1.stops H6 (hG1 H6 ci.2), ?_⟩
          obtain ⟨⟨d1, d2, acc2, d3, d4⟩, _⟩ := ci
          rw [List.take_length] at d4
          refine ⟨d1, d2, acc2, d3, ?_⟩
          rw [take_snoc he, List.flatMap_append, List.flatMap_cons, List.flatMap_nil, List.append_nil]
          exact d4
    · have e : i = es.length := by omega
      subst e
      rw [List.take_length] at c4
      exact .inl ⟨w.stops H2 (hG H2 c2), q Dl acc H2 (fresh_back e1 c1) (e1.trans c2) c3 c4⟩
end
end Q
set_option Elab.async false
set_option linter.all false
set_option maxRecDepth 100000
set_option maxHeartbeats 2000000
/-! forms of equal depth, entries, leaves -/
namespace PB
open PySem
def Fm : Nat → Type
  | 0 => List (Int × Bx)
  | n + 1 => List (Bx × Fm n)
def brs {n : Nat} (f : Fm (n + 1)) : List (Bx × Fm n) := f
def lfs (f : Fm 0) : List (Int × Bx) := f
def wd : Nat → Str
  | 0 => "leaf"
  | _ + 1 => "node"
def formD : (n : Nat) → Fm n → PyData
  | 0, es => .tuple [.str "leaf", .tuple (List.map entD (lfs es))]
  | n + 1, bs => .tuple [.str "node", .tuple (List.map (fun p : Bx × Fm n => PyData.tuple [boxD p.1, formD n p.2]) (brs bs))]
def ents : (n : Nat) → Fm n → List (Int × Bx)
  | 0, es => es
  | n + 1, bs => List.flatMap (fun p : Bx × Fm n => ents n p.2) (brs bs)
def leaves : (n : Nat) → Fm n → Nat
  | 0, _ => 1
  | n + 1, bs => (List.map (fun p : Bx × Fm n => leaves n p.2) (brs bs)).sum
def width : (n : Nat) → Fm n → Nat
  | 0, es => (lfs es).length
  | _ + 1, bs => (brs bs).length
def thin : (n : Nat) → Fm n → Prop
  | 0, es => (lfs es).length ≤ 4
  | n + 1, bs => (brs bs).length ≤ 4 ∧ ∀ p : Bx × Fm n, p ∈ brs bs → thin n p.2
def boxesOk : (n : Nat) → Fm n → Prop
  | 0, es => ∀ e : Int × Bx, e ∈ lfs es → e.2.ok
  | n + 1, bs => ∀ p : Bx × Fm n, p ∈ brs bs → p.1.ok ∧ boxesOk n p.2
def least : (n : Nat) → Fm n → Prop
  | 0, _ => True
  | n + 1, bs => ∀ p : Bx × Fm n, p ∈ brs bs → ents n p.2 ≠ [] ∧ p.1 = joint ((ents n p.2).map (·.2)) ∧ least n p.2
def sizes : (n : Nat) → Fm n → Prop
  | 0, es => (lfs es).length ≤ 4
  | n + 1, bs => 2 ≤ (brs bs).length ∧ (brs bs).length ≤ 4 ∧ ∀ p : Bx × Fm n, p ∈ brs bs → 2 ≤ width n p.2 ∧ sizes n p.2
theorem sizes_thin : ∀ (n : Nat) (f : Fm n), sizes n f → thin n f
  | 0, _, h => h
  | n + 1, _, h => ⟨h.2.1, fun p hp => sizes_thin n p.2 (h.2.2 p hp).2⟩
theorem flat_le {α β : Type} (R : α → List β) {c : Nat} : ∀ {l : List α}, (∀ e ∈ l, (R e).length ≤ c) → (l.flatMap R).length ≤ l.length * c
  | [], _ => by simp
  | e :: l, h => by
    rw [List.flatMap_cons, List.length_append, List.length_cons, Nat.add_mul, Nat.one_mul]
    have h1 := flat_le R (l := l) fun x hx => h x (List.mem_cons_of_mem _ hx)
    have h2 := h e List.mem_cons_self
    omega
theorem ents_len : ∀ (n : Nat) (f : Fm n), thin n f → (ents n f).length ≤ 4 ^ (n + 1)
  | 0, _, h => h
  | n + 1, bs, h => by
    have z := flat_le (fun p : Bx × Fm n => ents n p.2) (c := 4 ^ (n + 1)) (l := brs bs) fun p hp => ents_len n p.2 (h.2 p hp)
    have h4 : (brs bs).length ≤ 4 := h.1
    have : (brs bs).length * 4 ^ (n + 1) ≤ 4 * 4 ^ (n + 1) := Nat.mul_le_mul_right _ h4
    show (List.flatMap (fun p : Bx × Fm n => ents n p.2) (brs bs)).length ≤ 4 ^ (n + 1 + 1)
    rw [Nat.pow_succ 4 (n + 1)]
    omega
theorem flat_filt {α β γ : Type} (R : α → List β) (f : β → γ) : ∀ l : List α, (l.flatMap fun e => ((R e).filter fun _ => true).map f) = (l.flatMap R).map f
  | [] => rfl
  | e :: l => by
    rw [List.flatMap_cons, List.flatMap_cons, List.map_append, flat_filt R f l, List.filter_eq_self.mpr fun _ _ => rfl]
theorem sum_le {α : Type} (R : α → Nat) {c : Nat} : ∀ {l : List α}, (∀ e ∈ l, R e ≤ c) → (l.map R).sum ≤ l.length * c
  | [], _ => by simp
  | e :: l, h => by
    rw [List.map_cons, List.sum_cons, List.length_cons, Nat.add_mul, Nat.one_mul]
    have h1 := sum_le R (l := l) fun x hx => h x (List.mem_cons_of_mem _ hx)
    have h2 := h e List.mem_cons_self
    omega
theorem leaves_le : ∀ (n : Nat) (f : Fm n), thin n f → leaves n f ≤ 4 ^ n
  | 0, _, _ => Nat.le_refl _
  | n + 1, bs, h => by
    have z := sum_le (fun p : Bx × Fm n => leaves n p.2) (c := 4 ^ n) (l := brs bs) fun p hp => leaves_le n p.2 (h.2 p hp)
    have h4 : (brs bs).length ≤ 4 := h.1
    have : (brs bs).length * 4 ^ n ≤ 4 * 4 ^ n := Nat.mul_le_mul_right _ h4
    show (List.map (fun p : Bx × Fm n => leaves n p.2) (brs bs)).sum ≤ 4 ^ (n + 1)
    rw [Nat.pow_succ]
    omega
theorem pow4 {n : Nat} (h : n ≤ 2) : 4 ^ (n + 1) ≤ 64 := by
  match n, h with
  | 0, _ => decide
  | 1, _ => decide
  | 2, _ => decide
theorem pow4' {n : Nat} (h : n ≤ 3) : 4 ^ n ≤ 64 := by
  match n, h with
  | 0, _ => decide
  | 1, _ => decide
  | 2, _ => decide
  | 3, _ => decide
theorem rep_flat {α : Type} (R : α → Nat) (x : Int) : ∀ l : List α, (l.flatMap fun e => (List.replicate (R e) x).map (· + 1)) = List.replicate (l.map R).sum (x + 1)
  | [] => rfl
  | e :: l => by
    rw [List.flatMap_cons, rep_flat R x l, List.map_replicate, List.map_cons, List.sum_cons, List.replicate_append_replicate]
end PB
namespace Q
open PySem L2 PySem.Spec PyProof.Rows PySem.Calls
open Evl PB
abbrev sEnts : Stmt := top 22
abbrev sLeafD : Stmt := top 23
/-- nothing is asked with no calls left -/
theorem none_left {P : Program} {w : World} {K : PySem.W.Frag} {mg : Str → Option Value} {base : Heap} {f : Addr} {fd : FuncData} {ps : List Str} {sp : Sp} (no : ∀ vs H Q E, ¬ sp vs H Q E) (k : Nat) : FnOk P w K mg base CX0 k f fd ps sp :=
  ⟨fun vs H Q E h => absurd h (no vs H Q E), fun A outer s H args us vs Q E _ _ _ _ h => absurd h (no vs H Q E)⟩
def spEnts (m : Nat) : Sp := fun vs H Q _ => ∃ (n : Nat) (f : Fm n) (v : V), n < m ∧ vs = [v] ∧ TD1 H v (formD n f) ∧ thin n f ∧ n ≤ 3 ∧ ∀ l xs H', H l = none → Ex H H' → H' l = some (.lst xs) → TDs H' xs ((ents n f).map entD) → Q (.ref l) H'
def spLeafD (m : Nat) : Sp := fun vs H Q _ => ∃ (n : Nat) (f : Fm n) (v : V), n < m ∧ vs = [v] ∧ TD1 H v (formD n f) ∧ thin n f ∧ n ≤ 3 ∧ ∀ l xs H', H l = none → Ex H H' → H' l = some (.lst xs) → TDs H' xs ((List.replicate (leaves n f) (n : Int)).map PyData.int) → Q (.ref l) H'
section
variable {K : PySem.W.Frag} {σ : L2.St} {H : Hp} {te : TE} {D : Ends} {tz : TS} {E : XK}
/-- word, members = form -/
theorem q_unp2 {i1 i2 : Nat} {d1 d2 : PyData} (h : EvD te σ H (.tuple [d1, d2])) (k : ∀ v1 v2 H1, Ex H H1 → TD1 H1 v1 d1 → TD1 H1 v2 d2 → tz D ((σ.set i1 (some v1)).set i2 (some v2)) H1) : tSeq (tAsg te (gTup K 2 (gCons (gName i1) (gCons (gName i2) gNil)))) tz D σ H := h H (Ex.refl H) _ fun v H1 e x => by
  obtain ⟨a, xs, rfl, ha, y⟩ := x.tup
  obtain ⟨u1, y1, rfl, x1, y⟩ := y.inv
  obtain ⟨u2, y2, rfl, x2, y⟩ := y.inv
  cases y.inv0
  exact ⟨a, _, rfl, SqT.of ha, rfl, u1, _, rfl, u2, _, rfl, rfl, k u1 u2 H1 e x1 x2⟩
theorem ev_eqW {a b : Str} (h : Ev te σ H (.str a)) : Ev (tOp rEq te (tC (.str b))) σ H (.bl (decide (V.str a = V.str b))) := ev_op h ev_c (rv_eq rfl)
/-- list(tuple) -/
theorem eds_listT {ds : List PyData} (h : EvD te σ H (.tuple ds)) : EvDs (tCB (rListS K) (tCons te tNil)) σ H ds := fun H1 e Q q =>
  h H1 e _ fun v H2 e2 x => by
    obtain ⟨a, xs, rfl, ha, y⟩ := x.tup
    exact ⟨a, xs, rfl, .inr (SqT.of ha), fun l hl => q l xs _ (fresh_back e2 hl) (e2.trans (Ex.new hl)) upd_same (y.mono (Ex.new hl))⟩
theorem eds_ents {m n : Nat} {f : Fm n} (h : EvD te σ H (formD n f)) (hm : n < m) (ht : thin n f) (h3 : n ≤ 3) : EvDs (tCall (spEnts m) [] E (tCons te tNil)) σ H ((ents n f).map entD) := fun H1 e Q q =>
  h H1 e _ fun v H2 e2 x => ⟨n, f, v, hm, rfl, x, ht, h3, fun l xs H3 hl e3 h3 y => q l xs H3 (fresh_back e2 hl) (e2.trans e3) h3 y⟩
theorem eds_leafD {m n : Nat} {f : Fm n} (h : EvD te σ H (formD n f)) (hm : n < m) (ht : thin n f) (h3 : n ≤ 3) : EvDs (tCall (spLeafD m) [] E (tCons te tNil)) σ H ((List.replicate (leaves n f) (n : Int)).map PyData.int) := fun H1 e Q q =>
  h H1 e _ fun v H2 e2 x => ⟨n, f, v, hm, rfl, x, ht, h3, fun l xs H3 hl e3 h3 y => q l xs H3 (fresh_back e2 hl) (e2.trans e3) h3 y⟩
end
section
variable {P : Program} {w : World} {K : PySem.W.Frag} {mg : Str → Option Value} {base : Heap}
theorem scEnts : FnScope ["form", "word", "members", "_", "inner", "entry"] ["form"] (defScope sEnts) := ⟨rfl, rfl, rfl, by decide +kernel, rfl, by decide +kernel, by decide +kernel⟩
theorem ok_ents {f : Addr} {fd : FuncData} {m : Nat} (F : Fun K "entries_of" "entries_of" sEnts f fd) (T : TB mg) (C : Cl P w K mg base m "entries_of" (spEnts m)) : FnOk P w K mg base CX0 (m + 1) f fd ["form"] (spEnts (m + 1)) := by
  refine F.ok scEnts (fun vs H Q E h => ?_) (fun cdv A' outer s H vs Q E hr h => ?_)
  · obtain ⟨n, g, v, _, rfl, _⟩ := h
    rfl
  · obtain ⟨n, g, v, hn, rfl, hx, ht, h3, k⟩ := h
    refine ⟨_, (pss_cons (ps_asg (pv 0) (pg_tup (by rfl) (pgs_cons (pg_name (i := 1) scEnts.nd rfl (.inl rfl)) (pgs_cons (pg_name (i := 2) scEnts.nd rfl (.inl rfl)) pgs_nil))))
      (pss_cons (ps_if (pt_cmpR op_eq (pv 1) pe_str (nomark _)) (pss_one (ps_ret (pe_callTy call_list_of (by rfl) T.list (by decide +kernel) (pa_cons (pv 2) pa_nil)))) pss_nil)
      (pss_one (ps_ret (pe_lc2 (own := [("_", 3), ("inner", 4), ("entry", 5)]) (vs1 := [5]) (g := gTup K 2 (gCons (gName 3) (gCons (gName 4) gNil))) (g1 := gName 5) (by rfl) scEnts.nd (pi_tup (pv 2))
            (blkOk_by (own := [("_", 3), ("inner", 4), ("entry", 5)]) (N := ["form", "word", "members", "_", "inner", "entry"]) (sc := defScope sEnts) (by decide +kernel)) (by decide)
            (fun _ _ _ _ _ => by exact (pg_tup (by rfl) (pgs_cons (pg_name (i := 3) scEnts.nd rfl (Or.inl rfl)) (pgs_cons (pg_name (i := 4) scEnts.nd rfl (Or.inl rfl)) pgs_nil)))) (fun _ _ _ _ _ => pts_nil)
            (wi1 := iList K (tCall (spEnts m) [] E0 (tCons (tVar 4) tNil))) (fun _ _ _ _ _ => by exact (pi_list (pe_cl C hr (Nat.le_refl _) (by rfl) (by exact (pa_cons (pv 4) pa_nil)))))
            (fun _ _ _ _ _ => pg_name (i := 5) scEnts.nd rfl (Or.inl rfl)) (fun _ _ _ _ _ => pts_nil) (te := tVar 5) (fun _ _ _ _ _ => by exact (pv 5))))))), ?_⟩
    match n, g, hn, hx, ht, h3, k with
    | 0, es, hn, hx, ht, h3, k =>
      refine q_unp2 (ed_var rfl hx) fun v1 v2 H1 e1 x1 x2 => ?_
      cases x1.str
      refine q_when (b := true) (et_is (et_test (ev_eqW (ev_var rfl))) (by decide)) (fun _ H2 e2 => ?_) (fun z => nomatch z)
      exact s_retDs (eds_listT (ed_var rfl (x2.mono e2))) fun l xs H3 hl e3 h4 y => k l xs H3 (fresh_back (e1.trans e2) hl) ((e1.trans e2).trans e3) h4 y
    | n + 1, bs, hn, hx, ht, h3, k =>
      refine q_unp2 (ed_var rfl hx) fun v1 v2 H1 e1 x1 x2 => ?_
      cases x1.str
      refine q_when (b := false) (et_is (et_test (ev_eqW (ev_var rfl))) (by decide)) (fun z => nomatch z) (fun _ H2 e2 => ?_)
      have z := eds_it2 (σ := [some v, some (.str "node"), some v2, none, none, none]) (H := H2) (g := gTup K 2 (gCons (gName 3) (gCons (gName 4) gNil))) (te := tVar 5) (g1 := gName 5) (tt1 := tYes) (vs := [3, 4, 5]) (vs1 := [5]) (wi := iTup K (tVar 2)) (wi1 := iList K (tCall (spEnts m) [] E0 (tCons (tVar 4) tNil)))
        (es := brs bs) (enc := fun p => PyData.tuple [boxD p.1, formD n p.2]) (enc1 := entD) (sub := fun p => ents n p.2) (p1 := fun _ _ => true) (F1 := fun _ e => entD e) (ei_tup (ed_var rfl (x2.mono e2))) (Nat.le_trans ht.1 (by decide)) (fun p hp => Nat.le_trans (ents_len n p.2 (ht.2 p hp)) (Nat.le_trans (pow4 (by omega)) (by decide))) (fun p hp => ?_)
      · refine s_retDs z fun l xs H3 hl e3 h4 y => k l xs H3 (fresh_back (e1.trans e2) hl) ((e1.trans e2).trans e3) h4 ?_
        rw [flat_filt (fun p : Bx × Fm n => ents n p.2) entD (brs bs)] at y
        exact y
      · intro v H3 e3 x kk kq
        obtain ⟨a, xs, rfl, ha, y⟩ := x.tup
        obtain ⟨u1, ys, rfl, y1, y⟩ := y.inv
        obtain ⟨u2, zs, rfl, y2, y⟩ := y.inv
        cases y.inv0
        refine ⟨a, _, rfl, SqT.of ha, rfl, u1, _, rfl, u2, _, rfl, rfl, kq _ H3 (Ex.refl _) rfl (em_new (eds_ents (ed_var rfl y2) (by omega) (ht.2 p hp) (by omega))) fun e he H4 tk => turn_nm (fun _ => rfl) (fun _ _ _ _ => et_yes) fun v H5 e5 x5 _ => ed_var rfl x5⟩
end
end Q
set_option Elab.async false
set_option linter.all false
set_option maxRecDepth 100000
set_option maxHeartbeats 2000000
/-! depths of leaves; what is built -/
namespace Q
open PySem L2 PySem.Spec PyProof.Rows PySem.Calls
open Evl PB
abbrev sBuilt : Stmt := top 20
abbrev sBranch : Stmt := top 26
def spBuilt (m : Nat) : Sp := fun vs H Q _ => ∃ (n : Nat) (f : Fm n) (v : V), n < m ∧ vs = [v] ∧ TD1 H v (formD n f) ∧ thin n f ∧ boxesOk n f ∧ ∀ H', Ex H H' → Q (.bl true) H'
def spBranch (m : Nat) : Sp := fun vs H Q _ => ∃ (n : Nat) (f : Fm n) (x : Bx) (v : V), n < m ∧ vs = [v] ∧ TD1 H v (.tuple [boxD x, formD n f]) ∧ x.ok ∧ thin n f ∧ boxesOk n f ∧ ∀ H', Ex H H' → Q (.bl true) H'
section
variable {K : PySem.W.Frag} {σ : L2.St} {H : Hp} {te tl : TE} {g : TG} {vs : List Nat} {E : XK} {wi : L2.TI}
/-- all([.. for x in ..]) -/
theorem ev_allLc {α : Type} {enc : α → PyData} {es : List α} (h : EvI wi σ H (es.map enc)) (hz : es.length ≤ 40000) (hs : ∀ e ∈ es, Turn1 g tYes te vs σ H enc (fun _ => true) (fun _ => PyData.bool true) e) : Ev (tCB (rAll K) (tCons (tLc wi g tYes te vs) tNil)) σ H (.bl true) := by
  have z := eds_it (te := te) (fun _ => true) (fun _ => PyData.bool true) h hz hs
  have e : (es.filter fun _ => true).map (fun _ => PyData.bool true) = (List.replicate es.length true).map PyData.bool := by
    rw [filt_all, List.map_replicate]
    exact List.map_const'
  rw [e] at z
  refine ev_is (ev_all z) ?_
  congr 1
  rw [List.all_eq_true]
  intro b hb
  exact (List.mem_replicate.mp hb).2
theorem ed_true (h : Ev te σ H (.bl true)) : EvD te σ H (.bool true) := ed_of h (TDs.bl true .nil)
end
section
variable {P : Program} {w : World} {K : PySem.W.Frag} {mg : Str → Option Value} {base : Heap}
theorem scLeafD : FnScope ["form", "word", "members", "_", "inner", "depth"] ["form"] (defScope sLeafD) := ⟨rfl, rfl, rfl, by decide +kernel, rfl, by decide +kernel, by decide +kernel⟩
theorem ok_leafD {f : Addr} {fd : FuncData} {m : Nat} (F : Fun K "leaf_depths" "leaf_depths" sLeafD f fd) (C : Cl P w K mg base m "leaf_depths" (spLeafD m)) : FnOk P w K mg base CX0 (m + 1) f fd ["form"] (spLeafD (m + 1)) := by
  refine F.ok scLeafD (fun vs H Q E h => ?_) (fun cdv A' outer s H vs Q E hr h => ?_)
  · obtain ⟨n, g, v, _, rfl, _⟩ := h
    rfl
  · obtain ⟨n, g, v, hn, rfl, hx, ht, h3, k⟩ := h
    refine ⟨_, (pss_cons (ps_asg (pv 0) (pg_tup (by rfl) (pgs_cons (pg_name (i := 1) scLeafD.nd rfl (.inl rfl)) (pgs_cons (pg_name (i := 2) scLeafD.nd rfl (.inl rfl)) pgs_nil))))
      (pss_cons (ps_if (pt_cmpR op_eq (pv 1) pe_str (nomark _)) (pss_one (ps_ret (pe_lst (pa_cons (pe_int) pa_nil)))) pss_nil)
      (pss_one (ps_ret (pe_lc2 (own := [("_", 3), ("inner", 4), ("depth", 5)]) (vs1 := [5]) (g := gTup K 2 (gCons (gName 3) (gCons (gName 4) gNil))) (g1 := gName 5) (by rfl) scLeafD.nd (pi_tup (pv 2))
            (blkOk_by (own := [("_", 3), ("inner", 4), ("depth", 5)]) (N := ["form", "word", "members", "_", "inner", "depth"]) (sc := defScope sLeafD) (by decide +kernel)) (by decide)
            (fun _ _ _ _ _ => by exact (pg_tup (by rfl) (pgs_cons (pg_name (i := 3) scLeafD.nd rfl (Or.inl rfl)) (pgs_cons (pg_name (i := 4) scLeafD.nd rfl (Or.inl rfl)) pgs_nil)))) (fun _ _ _ _ _ => pts_nil)
            (wi1 := iList K (tCall (spLeafD m) [] E0 (tCons (tVar 4) tNil))) (fun _ _ _ _ _ => by exact (pi_list (pe_cl C hr (Nat.le_refl _) (by rfl) (by exact (pa_cons (pv 4) pa_nil)))))
            (fun _ _ _ _ _ => pg_name (i := 5) scLeafD.nd rfl (Or.inl rfl)) (fun _ _ _ _ _ => pts_nil) (te := tOp (rI0 fun i j => .int (i + j)) (tVar 5) (tC (.int 1))) (fun _ _ _ _ _ => by exact (pe_op op_add (pv 5) pe_int))))))), ?_⟩
    match n, g, hn, hx, ht, h3, k with
    | 0, es, hn, hx, ht, h3, k =>
      refine q_unp2 (ed_var rfl hx) fun v1 v2 H1 e1 x1 x2 => ?_
      cases x1.str
      refine q_when (b := true) (et_is (et_test (ev_eqW (ev_var rfl))) (by decide)) (fun _ H2 e2 => ?_) (fun z => nomatch z)
      exact s_retDs (eds_lst (da_cons (ed_int ev_c) da_nil) (by show 1 ≤ 100000; decide)) fun l xs H3 hl e3 h4 y => k l xs H3 (fresh_back (e1.trans e2) hl) ((e1.trans e2).trans e3) h4 y
    | n + 1, bs, hn, hx, ht, h3, k =>
      refine q_unp2 (ed_var rfl hx) fun v1 v2 H1 e1 x1 x2 => ?_
      cases x1.str
      refine q_when (b := false) (et_is (et_test (ev_eqW (ev_var rfl))) (by decide)) (fun z => nomatch z) (fun _ H2 e2 => ?_)
      have z := eds_it2 (σ := [some v, some (.str "node"), some v2, none, none, none]) (H := H2) (g := gTup K 2 (gCons (gName 3) (gCons (gName 4) gNil))) (te := tOp (rI0 fun i j => .int (i + j)) (tVar 5) (tC (.int 1))) (g1 := gName 5) (tt1 := tYes) (vs := [3, 4, 5]) (vs1 := [5]) (wi := iTup K (tVar 2)) (wi1 := iList K (tCall (spLeafD m) [] E0 (tCons (tVar 4) tNil)))
        (es := brs bs) (enc := fun p => PyData.tuple [boxD p.1, formD n p.2]) (enc1 := PyData.int) (sub := fun p => List.replicate (leaves n p.2) (n : Int)) (p1 := fun _ _ => true) (F1 := fun _ i => PyData.int (i + 1)) (ei_tup (ed_var rfl (x2.mono e2))) (Nat.le_trans ht.1 (by decide)) (fun p hp => by
          rw [List.length_replicate]
          exact Nat.le_trans (leaves_le n p.2 (ht.2 p hp)) (Nat.le_trans (pow4' (by omega)) (by decide))) (fun p hp => ?_)
      · refine s_retDs z fun l xs H3 hl e3 h4 y => k l xs H3 (fresh_back (e1.trans e2) hl) ((e1.trans e2).trans e3) h4 ?_
        rw [flat_filt (fun p : Bx × Fm n => List.replicate (leaves n p.2) (n : Int)) (fun i => PyData.int (i + 1)) (brs bs)] at y
        have e : (List.flatMap (fun p : Bx × Fm n => List.replicate (leaves n p.2) (n : Int)) (brs bs)).map (fun i => PyData.int (i + 1)) = (List.replicate (leaves (n + 1) bs) (((n + 1 : Nat)) : Int)).map PyData.int := by
          have z2 := rep_flat (fun p : Bx × Fm n => leaves n p.2) (n : Int) (brs bs)
          have e3 : (((n + 1 : Nat)) : Int) = (n : Int) + 1 := by omega
          rw [e3]
          show _ = (List.replicate (List.map (fun p : Bx × Fm n => leaves n p.2) (brs bs)).sum ((n : Int) + 1)).map PyData.int
          rw [← z2, List.map_flatMap, List.map_flatMap]
          congr 1
          funext p
          rw [List.map_map]
          rfl
        rw [← e]
        exact y
      · intro v H3 e3 x kk kq
        obtain ⟨a, xs, rfl, ha, y⟩ := x.tup
        obtain ⟨u1, ys, rfl, y1, y⟩ := y.inv
        obtain ⟨u2, zs, rfl, y2, y⟩ := y.inv
        cases y.inv0
        refine ⟨a, _, rfl, SqT.of ha, rfl, u1, _, rfl, u2, _, rfl, rfl, kq _ H3 (Ex.refl _) rfl (em_new (eds_leafD (ed_var rfl y2) (by omega) (ht.2 p hp) (by omega))) fun i hi H4 tk => turn_nm (fun _ => rfl) (fun _ _ _ _ => et_yes) fun v H5 e5 x5 _ => by
          cases x5.int
          exact ed_int (ev_op (ev_var rfl) ev_c rv_I0)⟩
theorem scBuilt : FnScope ["value", "word", "members", "member"] ["value"] (defScope sBuilt) := ⟨rfl, rfl, rfl, by decide +kernel, rfl, by decide +kernel, by decide +kernel⟩
theorem ev_isent {σ : L2.St} {H : Hp} {te : TE} {e : Int × Bx} {E : XK} (h : EvD te σ H (entD e)) (ho : e.2.ok) : Ev (tCall spIsEnt [] E (tCons te tNil)) σ H (.bl true) := ev_callD (da_cons h da_nil) fun vs H1 e1 t Q q => by
  obtain ⟨v, ys, rfl, hv, t⟩ := t.inv
  cases t.inv0
  exact ⟨v, e, rfl, hv, ho, fun H' e' => q H' e'⟩
theorem ev_branch {σ : L2.St} {H : Hp} {te : TE} {E : XK} {m n : Nat} {f : Fm n} {x : Bx} (h : EvD te σ H (.tuple [boxD x, formD n f])) (hn : n < m) (ho : x.ok) (ht : thin n f) (hb : boxesOk n f) : Ev (tCall (spBranch m) [] E (tCons te tNil)) σ H (.bl true) := ev_callD (da_cons h da_nil) fun vs H1 e1 t Q q => by
  obtain ⟨v, ys, rfl, hv, t⟩ := t.inv
  cases t.inv0
  exact ⟨n, f, x, v, hn, rfl, hv, ho, ht, hb, fun H' e' => q H' e'⟩
theorem ev_built {σ : L2.St} {H : Hp} {te : TE} {E : XK} {m n : Nat} {f : Fm n} (h : EvD te σ H (formD n f)) (hn : n < m) (ht : thin n f) (hb : boxesOk n f) : Ev (tCall (spBuilt m) [] E (tCons te tNil)) σ H (.bl true) := ev_callD (da_cons h da_nil) fun vs H1 e1 t Q q => by
  obtain ⟨v, ys, rfl, hv, t⟩ := t.inv
  cases t.inv0
  exact ⟨n, f, v, hn, rfl, hv, ht, hb, fun H' e' => q H' e'⟩
theorem et_isTD {σ : L2.St} {H : Hp} {te : TE} {ds : List PyData} (h : EvD te σ H (.tuple ds)) : EvT (tB (tCB (rIsi K) (tCons te (tCons (tC (.ty "tuple")) tNil)))) σ H true := et_B fun H1 e1 Q q => h H1 e1 _ fun v H2 e2 x => by
  obtain ⟨a, xs, rfl, ha, _⟩ := x.tup
  exact ⟨_, _, _, _, _, rfl, .ty _, .base (.tup ha), kit_ty (by decide +kernel), q H2 e2⟩
theorem ok_built {f : Addr} {fd : FuncData} {m : Nat} (F : Fun K "is_built" "is_built" sBuilt f fd) (T : TI mg) (A : TAl mg) (CE : Cl P w K mg base 3 "is_entry" spIsEnt) (C : Cl P w K mg base (2 * m + 5) "_is_branch" (spBranch m)) : FnOk P w K mg base CX0 (2 * m + 6) f fd ["value"] (spBuilt (m + 1)) := by
  refine F.ok scBuilt (fun vs H Q E h => ?_) (fun cdv A' outer s H vs Q E hr h => ?_)
  · obtain ⟨n, g, v, _, rfl, _⟩ := h
    rfl
  · obtain ⟨n, g, v, hn, rfl, hx, ht, hb, k⟩ := h
    refine ⟨_, (pss_cons (ps_if (pw_or (pt_not (pt_val (pe_callB call_isi (by rfl) T.isi PyProof.Rows.boot_isinstance (pa_cons (pv 0) (pa_cons (pe_bltn (v := .ty "tuple") (by rfl) T.tuple (by decide +kernel) rfl) pa_nil))))) (pw_or (pt_cmpR op_ne (pe_callB call_len_seq (by rfl) T.len PySem.boot_len (pa_cons (pv 0) pa_nil)) pe_int (nomark _)) (pw_or1 (pt_not (pt_val (pe_callB call_isi (by rfl) T.isi PyProof.Rows.boot_isinstance (pa_cons ((pe_ix ix_tup (pv 0) pe_int (fun _ _ => rfl))) (pa_cons (pe_bltn (v := .ty "tuple") (by rfl) T.tuple (by decide +kernel) rfl) pa_nil)))))))).pt pss_never pss_nil)
      (pss_cons (ps_asg (pv 0) (pg_tup (by rfl) (pgs_cons (pg_name (i := 1) scBuilt.nd rfl (.inl rfl)) (pgs_cons (pg_name (i := 2) scBuilt.nd rfl (.inl rfl)) pgs_nil))))
      (pss_cons (ps_if (pt_cmpR op_eq (pv 1) pe_str (nomark _)) (pss_one (ps_ret (pe_callB (cr_all rfl) (by rfl) A.all (by decide +kernel) (pa_cons (pe_lc (own := [("member", 3)]) (g := gName 3) (by rfl) scBuilt.nd (pi_tup (pv 2))
            (blkOk_by (own := [("member", 3)]) (N := ["value", "word", "members", "member"]) (sc := defScope sBuilt) (by decide +kernel))
            (fun _ _ _ _ _ => pg_name (i := 3) scBuilt.nd rfl (Or.inl rfl)) (fun _ _ _ _ _ => pts_nil)
            (te := tCall spIsEnt [] E0 (tCons (tVar 3) tNil)) (fun _ _ _ _ _ => by exact (pe_cl CE hr (by omega) (by rfl) (by exact (pa_cons (pv 3) pa_nil))))) pa_nil)))) pss_nil)
      (pss_one (ps_ret (pe_and (pe_cmpR op_eq (pv 1) pe_str (nomark _)) (pe_one (pe_callB (cr_all rfl) (by rfl) A.all (by decide +kernel) (pa_cons (pe_lc (own := [("member", 3)]) (g := gName 3) (by rfl) scBuilt.nd (pi_tup (pv 2))
            (blkOk_by (own := [("member", 3)]) (N := ["value", "word", "members", "member"]) (sc := defScope sBuilt) (by decide +kernel))
            (fun _ _ _ _ _ => pg_name (i := 3) scBuilt.nd rfl (Or.inl rfl)) (fun _ _ _ _ _ => pts_nil)
            (te := tCall (spBranch m) [] E0 (tCons (tVar 3) tNil)) (fun _ _ _ _ _ => by exact (pe_cl C hr (Nat.le_refl _) (by rfl) (by exact (pa_cons (pv 3) pa_nil))))) pa_nil))))))))), ?_⟩
    have l2 : ∀ {n : Nat} {g : Fm n}, ∃ d1 d2, formD n g = .tuple [d1, .tuple d2] := fun {n g} => by
      cases n with
      | zero => exact ⟨_, _, rfl⟩
      | succ n => exact ⟨_, _, rfl⟩
    obtain ⟨d1, d2, ed⟩ := l2 (n := n) (g := g)
    have hx' := hx
    rw [ed] at hx'
    refine q_not (et_or (et_not (a := true) (et_isTup rfl hx')) fun _ => et_or (b := false) (et_is (et_test (ev_op (ev_lenT (ed_var rfl hx')) ev_c (rv_ne rfl))) rfl) fun _ => et_not (et_isTD (ed_ix (ed_var rfl hx') ⟨by decide, rfl⟩))) fun H1 e1 => ?_
    clear hx' ed
    match n, g, hn, hx, ht, hb with
    | 0, es, hn, hx, ht, hb =>
      refine q_unp2 (ed_var rfl (hx.mono e1)) fun v1 v2 H2 e2 x1 x2 => ?_
      cases x1.str
      refine q_when (b := true) (et_is (et_test (ev_eqW (ev_var rfl))) (by decide)) (fun _ H3 e3 => ?_) (fun z => nomatch z)
      exact s_ret (ev_allLc (es := lfs es) (enc := entD) (ei_tup (ed_var rfl (x2.mono e3))) (Nat.le_trans ht (by decide)) fun e he => turn_nm (fun _ => rfl) (fun _ _ _ _ => et_yes) fun u H4 e4 x4 _ => ed_true (ev_isent (ed_var rfl x4) (hb e he))) fun H4 e4 => k H4 (((e1.trans e2).trans e3).trans e4)
    | n + 1, bs, hn, hx, ht, hb =>
      refine q_unp2 (ed_var rfl (hx.mono e1)) fun v1 v2 H2 e2 x1 x2 => ?_
      cases x1.str
      refine q_when (b := false) (et_is (et_test (ev_eqW (ev_var rfl))) (by decide)) (fun z => nomatch z) (fun _ H3 e3 => ?_)
      exact s_ret (ev_is (ev_andV (a := true) (ev_is (ev_eqW (ev_var rfl)) rfl) fun _ => ev_allLc (es := brs bs) (enc := fun p => PyData.tuple [boxD p.1, formD n p.2]) (ei_tup (ed_var rfl (x2.mono e3))) (Nat.le_trans ht.1 (by decide)) fun p hp => turn_nm (fun _ => rfl) (fun _ _ _ _ => et_yes) fun u H4 e4 x4 _ => ed_true (ev_branch (ed_var rfl x4) (by omega) (hb p hp).1 (ht.2 p hp) (hb p hp).2)) rfl) fun H4 e4 => k H4 (((e1.trans e2).trans e3).trans e4)
theorem scBranch : FnScope ["value"] ["value"] (defScope sBranch) := ⟨rfl, rfl, rfl, by decide +kernel, rfl, by decide +kernel, by decide +kernel⟩
theorem ok_branch {f : Addr} {fd : FuncData} {m : Nat} (F : Fun K "_is_branch" "_is_branch" sBranch f fd) (T : TI mg) (CB : Cl P w K mg base 2 "is_box" spIsBox) (C : Cl P w K mg base (2 * m + 4) "is_built" (spBuilt m)) : FnOk P w K mg base CX0 (2 * m + 5) f fd ["value"] (spBranch m) := by
  refine F.ok scBranch (fun vs H Q E h => ?_) (fun cdv A' outer s H vs Q E hr h => ?_)
  · obtain ⟨n, g, x, v, _, rfl, _⟩ := h
    rfl
  · obtain ⟨n, g, x, v, hn, rfl, hx, ho, ht, hb, k⟩ := h
    refine ⟨_, pss_one (ps_ret (pe_and (pe_callB call_isi (by rfl) T.isi PyProof.Rows.boot_isinstance (pa_cons (pv 0) (pa_cons (pe_bltn (v := .ty "tuple") (by rfl) T.tuple (by decide +kernel) rfl) pa_nil))) (pe_and (pe_cmpR op_eq (pe_callB call_len_seq (by rfl) T.len PySem.boot_len (pa_cons (pv 0) pa_nil)) pe_int (nomark _)) (pe_and (pe_cl CB hr (by omega) (by rfl) (pa_cons ((pe_ix ix_tup (pv 0) pe_int (fun _ _ => rfl))) pa_nil)) (pe_one (pe_cl C hr (Nat.le_refl _) (by rfl) (pa_cons ((pe_ix ix_tup (pv 0) pe_int (fun _ _ => rfl))) pa_nil))))))), ?_⟩
    obtain ⟨a, xs, rfl, ha, _⟩ := id hx.tup
    refine s_ret (ev_is (ev_andV (b := true) (a := true) (fun H1 e1 Q q => ⟨_, rfl, _, _, _, _, _, rfl, .ty _, .base (.tup (e1 _ _ ha)), kit_ty (by decide +kernel), q H1 (Ex.refl _)⟩) fun _ => ev_is (ev_andV (a := true) (b := true) (ev_is (ev_op (ev_lenT (ed_var rfl hx)) ev_c (rv_eq rfl)) rfl) fun _ => ev_is (ev_andV (ev_isbox (ed_ix (ed_var rfl hx) ⟨by decide, rfl⟩) ho) fun _ => ev_built (ed_ix (ed_var rfl hx) ⟨by decide, rfl⟩) hn ht hb) rfl) rfl) rfl) fun H1 e1 => k H1 e1
end
end Q
set_option Elab.async false
set_option linter.all false
set_option maxRecDepth 100000
set_option maxHeartbeats 2000000
/-! least boxes, right sizes -/
namespace Q
open PySem L2 PySem.Spec PyProof.Rows PySem.Calls
open Evl PB
abbrev sLeast : Stmt := top 24
abbrev sSizes : Stmt := top 25
abbrev sIsAr : Stmt := top 27
def spIsAr (m : Nat) : Sp := fun vs H Q _ => ∃ (n : Nat) (f : Fm n) (x : Bx) (u v : V), n < m ∧ vs = [u, v] ∧ TD1 H u (boxD x) ∧ TD1 H v (formD n f) ∧ thin n f ∧ n ≤ 3 ∧ ents n f ≠ [] ∧ x = joint ((ents n f).map (·.2)) ∧ ∀ H', Ex H H' → Q (.bl true) H'
def spLeast (m : Nat) : Sp := fun vs H Q _ => ∃ (n : Nat) (f : Fm n) (v : V), n < m ∧ vs = [v] ∧ TD1 H v (formD n f) ∧ thin n f ∧ n ≤ 3 ∧ least n f ∧ ∀ H', Ex H H' → Q (.bl true) H'
def spSizes (m : Nat) : Sp := fun vs H Q _ => ∃ (n : Nat) (f : Fm n) (v : V), n < m ∧ vs = [v] ∧ TD1 H v (formD n f) ∧ sizes n f ∧ ∀ H', Ex H H' → Q (.bl true) H'
section
variable {K : PySem.W.Frag} {σ : L2.St} {H : Hp} {te tl ta tb tc : TE} {E : XK} {d : PyData} {m n : Nat} {f : Fm n} {x : Bx}
theorem shaped_box (x : Bx) : SeqAt.shaped (boxD x) = true := rfl
theorem ev_eqSame (h1 : EvD ta σ H d) (h2 : EvD tb σ H d) (hs : SeqAt.shaped d = true) : Ev (tOp (rEqD K) ta tb) σ H (.bl true) := fun H1 e Q q =>
  h1 H1 e _ fun u H2 e2 a => h2 H2 (e.trans e2) _ fun v H3 e3 b => ⟨d, d, (a.mono e3).dp, b.dp, hs, hs, by
    rw [SeqAt.eqv_refl d (SeqAt.canLay_of_shaped hs)]
    exact q H3 (e2.trans e3)⟩
theorem ed_around {bs : List Bx} (h : EvDs te σ H (bs.map boxD)) (hn : bs ≠ []) (hl : bs.length ≤ 40000) : EvD (tCall spAround [] E (tCons te tNil)) σ H (boxD (joint bs)) := fun H1 e Q q =>
  h H1 e _ fun l xs H2 _ e2 hl2 a => ⟨l, xs, bs, rfl, hl2, a, hn, hl, fun v H3 e3 b => q v H3 (e2.trans e3) b⟩
theorem ed_aroundV {bs : List Bx} {L : Addr} {xs : List V} (h : Ev te σ H (.ref L)) (hL : H L = some (.lst xs)) (a : TDs H xs (bs.map boxD)) (hn : bs ≠ []) (hl : bs.length ≤ 40000) : EvD (tCall spAround [] E (tCons te tNil)) σ H (boxD (joint bs)) := fun H1 e Q q =>
  h H1 e _ fun H2 e2 => ⟨L, xs, bs, rfl, (e.trans e2) _ _ hL, a.mono (e.trans e2), hn, hl, fun v H3 e3 b => q v H3 (e2.trans e3) b⟩
theorem ev_isar (h1 : EvD ta σ H (boxD x)) (h2 : EvD tb σ H (formD n f)) (hm : n < m) (ht : thin n f) (h3 : n ≤ 3) (hn : ents n f ≠ []) (hj : x = joint ((ents n f).map (·.2))) : Ev (tCall (spIsAr m) [] E (tCons ta (tCons tb tNil))) σ H (.bl true) := ev_callD (da_cons h1 (da_cons h2 da_nil)) fun vs H1 e1 t Q q => by
  obtain ⟨u, ys, rfl, hu, t⟩ := t.inv
  obtain ⟨v, zs, rfl, hv, t⟩ := t.inv
  cases t.inv0
  exact ⟨n, f, x, u, v, hm, rfl, hu, hv, ht, h3, hn, hj, fun H' e' => q H' e'⟩
theorem ev_least (h : EvD te σ H (formD n f)) (hm : n < m) (ht : thin n f) (h3 : n ≤ 3) (hl : least n f) : Ev (tCall (spLeast m) [] E (tCons te tNil)) σ H (.bl true) := ev_callD (da_cons h da_nil) fun vs H1 e1 t Q q => by
  obtain ⟨v, ys, rfl, hv, t⟩ := t.inv
  cases t.inv0
  exact ⟨n, f, v, hm, rfl, hv, ht, h3, hl, fun H' e' => q H' e'⟩
theorem ev_sizes (h : EvD te σ H (formD n f)) (hm : n < m) (hl : sizes n f) : Ev (tCall (spSizes m) [] E (tCons te tNil)) σ H (.bl true) := ev_callD (da_cons h da_nil) fun vs H1 e1 t Q q => by
  obtain ⟨v, ys, rfl, hv, t⟩ := t.inv
  cases t.inv0
  exact ⟨n, f, v, hm, rfl, hv, hl, fun H' e' => q H' e'⟩
theorem ev_chain2 {n m l : Int} (ha : Ev ta σ H (.int n)) (hb : Ev tb σ H (.int m)) (hc : Ev tc σ H (.int l)) (h1 : n ≤ m) (h2 : m ≤ l) : Ev (tChain (rI0 fun i j => .bl (decide (i ≤ j))) (rI0 fun i j => .bl (decide (i ≤ j))) ta tb tc) σ H (.bl true) := fun H1 e Q q =>
  ha H1 e _ fun H2 e2 => hb H2 (e.trans e2) _ fun H3 e3 => ⟨n, m, rfl, rfl, _, rfl, by
    rw [if_pos (decide_eq_true h1)]
    refine hc H3 ((e.trans e2).trans e3) _ fun H4 e4 => ⟨m, l, rfl, rfl, ?_⟩
    show Q (.bl (decide (m ≤ l))) H4
    rw [decide_eq_true h2]
    exact q H4 ((e2.trans e3).trans e4)⟩
theorem membs : ∀ {n : Nat} {f : Fm n}, ∃ d2, formD n f = .tuple [.str (wd n), .tuple d2] ∧ d2.length = width n f
  | 0, es => ⟨_, rfl, by rw [List.length_map]; rfl⟩
  | n + 1, bs => ⟨_, rfl, by rw [List.length_map]; rfl⟩
end
section
variable {P : Program} {w : World} {K : PySem.W.Frag} {mg : Str → Option Value} {base : Heap}
theorem scIsAr : FnScope ["box", "form", "boxes", "_", "own"] ["box", "form"] (defScope sIsAr) := ⟨rfl, rfl, rfl, by decide +kernel, rfl, by decide +kernel, by decide +kernel⟩
theorem ok_isar {f : Addr} {fd : FuncData} {m : Nat} (F : Fun K "_is_around" "_is_around" sIsAr f fd) (T : TI mg) (CE : Cl P w K mg base m "entries_of" (spEnts m)) (CA : Cl P w K mg base 1 "box_around" spAround) : FnOk P w K mg base CX0 (m + 2) f fd ["box", "form"] (spIsAr m) := by
  refine F.ok scIsAr (fun vs H Q E h => ?_) (fun cdv A' outer s H vs Q E hr h => ?_)
  · obtain ⟨n, g, x, u, v, _, rfl, _⟩ := h
    rfl
  · obtain ⟨n, g, x, u, v, hn, rfl, hu, hv, ht, h3, hne, hj, k⟩ := h
    have hun := hr.units
    refine ⟨_, (pss_cons (ps_setLc (i := 2) (own := [("_", 3), ("own", 4)]) (g := gTup K 2 (gCons (gName 3) (gCons (gName 4) gNil))) (by rfl) scIsAr.nd rfl rfl (sw_true rfl rfl rfl (by decide +kernel)) (pi_list (pe_cl CE hr (by omega) (by rfl) (pa_cons (pv 1) pa_nil)))
            (blkOk_by (own := [("_", 3), ("own", 4)]) (N := ["box", "form", "boxes", "_", "own"]) (sc := defScope sIsAr) (by decide +kernel))
            (fun _ _ _ _ _ => by exact (pg_tup (by rfl) (pgs_cons (pg_name (i := 3) scIsAr.nd rfl (Or.inl rfl)) (pgs_cons (pg_name (i := 4) scIsAr.nd rfl (Or.inl rfl)) pgs_nil)))) (fun _ _ _ _ _ => pts_nil)
            (te := tVar 4) (fun _ _ _ _ _ => by exact (pv 4)))
      (pss_one (ps_ret (pe_and (pe_cmpR op_gt (pe_callB call_len_seq (by rfl) T.len PySem.boot_len (pa_cons (pv 2) pa_nil)) pe_int (nomark _)) (pe_one (pe_cmpR (op_eqD hun) (pe_cl CA hr (by omega) (by rfl) (pa_cons (pv 2) pa_nil)) (pv 0) (nomark _))))))), ?_⟩
    have el := ents_len n g ht
    have p4 : 4 ^ (n + 1) ≤ 256 := by
      match n, h3 with
      | 0, _ => decide
      | 1, _ => decide
      | 2, _ => decide
      | 3, _ => decide
    refine q_asgDs (ds := ((ents n g).map (·.2)).map boxD) ?_ fun l xs H1 e1 _ hl y => ?_
    · have z := eds_it (te := tVar 4) (g := gTup K 2 (gCons (gName 3) (gCons (gName 4) gNil))) (tt := tYes) (vs := [3, 4]) (wi := iList K (tCall (spEnts m) [] E0 (tCons (tVar 1) tNil))) (σ := [some u, some v, none, none, none]) (H := H) (es := ents n g) (enc := entD) (fun _ => true) (fun e => boxD e.2) (ei_list (ld_new (eds_ents (ed_var rfl hv) hn ht h3))) (by omega) (fun e he => turn_t2 (d1 := .int e.1) (d2 := boxD e.2) rfl (fun _ _ => rfl) (fun _ _ _ _ _ _ => et_yes) fun u1 v1 H2 e2 y1 y2 _ => ed_var rfl y2)
      rw [filt_all] at z
      rw [List.map_map]
      exact z
    · have ln : (ents n g).map (·.2) ≠ [] := fun z => hne (List.map_eq_nil_iff.mp z)
      have lp : 0 < (ents n g).length := List.length_pos_iff.mpr hne
      refine s_ret (ev_is (ev_andV (a := true) (ev_is (ev_op (ev_lenL (ld_of (ev_var rfl) hl y)) ev_c rv_I0) ?_) fun _ => ev_eqSame (ed_aroundV (ev_var rfl) hl y ln (by rw [List.length_map]; omega)) (ed_var rfl (hj ▸ hu.mono e1)) (shaped_box _)) rfl) fun H2 e2 => k H2 (e1.trans e2)
      rw [List.length_map, List.length_map, decide_eq_true (by omega)]
theorem scLeast : FnScope ["form", "word", "members", "box", "inner"] ["form"] (defScope sLeast) := ⟨rfl, rfl, rfl, by decide +kernel, rfl, by decide +kernel, by decide +kernel⟩
theorem ok_least {f : Addr} {fd : FuncData} {m : Nat} (F : Fun K "has_least_boxes" "has_least_boxes" sLeast f fd) (A : TAl mg) (CI : Cl P w K mg base (m + 2) "_is_around" (spIsAr m)) (C : Cl P w K mg base (m + 3) "has_least_boxes" (spLeast m)) : FnOk P w K mg base CX0 (m + 4) f fd ["form"] (spLeast (m + 1)) := by
  refine F.ok scLeast (fun vs H Q E h => ?_) (fun cdv A' outer s H vs Q E hr h => ?_)
  · obtain ⟨n, g, v, _, rfl, _⟩ := h
    rfl
  · obtain ⟨n, g, v, hn, rfl, hx, ht, h3, hl, k⟩ := h
    refine ⟨_, (pss_cons (ps_asg (pv 0) (pg_tup (by rfl) (pgs_cons (pg_name (i := 1) scLeast.nd rfl (.inl rfl)) (pgs_cons (pg_name (i := 2) scLeast.nd rfl (.inl rfl)) pgs_nil))))
      (pss_one (ps_ret (pe_or (pe_cmpR op_eq (pv 1) pe_str (nomark _)) (pe_one (pe_callB (cr_all rfl) (by rfl) A.all (by decide +kernel) (pa_cons (pe_lc (own := [("box", 3), ("inner", 4)]) (g := gTup K 2 (gCons (gName 3) (gCons (gName 4) gNil))) (by rfl) scLeast.nd (pi_tup (pv 2))
            (blkOk_by (own := [("box", 3), ("inner", 4)]) (N := ["form", "word", "members", "box", "inner"]) (sc := defScope sLeast) (by decide +kernel))
            (fun _ _ _ _ _ => by exact (pg_tup (by rfl) (pgs_cons (pg_name (i := 3) scLeast.nd rfl (Or.inl rfl)) (pgs_cons (pg_name (i := 4) scLeast.nd rfl (Or.inl rfl)) pgs_nil)))) (fun _ _ _ _ _ => pts_nil)
            (te := tAndV (tCall (spIsAr m) [] E0 (tCons (tVar 3) (tCons (tVar 4) tNil))) (tCall (spLeast m) [] E0 (tCons (tVar 4) tNil))) (fun _ _ _ _ _ => by exact (pe_and (pe_cl CI hr (by omega) (by rfl) (by exact (pa_cons (pv 3) (pa_cons (pv 4) pa_nil)))) (pe_one (pe_cl C hr (Nat.le_refl _) (by rfl) (by exact (pa_cons (pv 4) pa_nil))))))) pa_nil))))))), ?_⟩
    match n, g, hn, hx, ht, h3, hl with
    | 0, es, hn, hx, ht, h3, hl =>
      refine q_unp2 (ed_var rfl hx) fun v1 v2 H1 e1 x1 x2 => ?_
      cases x1.str
      exact s_ret (ev_is (ev_orV (a := true) (b := true) (ev_is (ev_eqW (ev_var rfl)) rfl) fun z => nomatch z) rfl) fun H2 e2 => k H2 (e1.trans e2)
    | n + 1, bs, hn, hx, ht, h3, hl =>
      refine q_unp2 (ed_var rfl hx) fun v1 v2 H1 e1 x1 x2 => ?_
      cases x1.str
      exact s_ret (ev_is (ev_orV (a := false) (ev_is (ev_eqW (ev_var rfl)) (by decide)) fun _ => ev_allLc (es := brs bs) (enc := fun p => PyData.tuple [boxD p.1, formD n p.2]) (ei_tup (ed_var rfl x2)) (Nat.le_trans ht.1 (by decide)) fun p hp => turn_t2 (d1 := boxD p.1) (d2 := formD n p.2) rfl (fun _ _ => rfl) (fun _ _ _ _ _ _ => et_yes) fun u1 u2 H2 e2 y1 y2 _ => ed_true (ev_is (ev_andV (ev_isar (ed_var rfl y1) (ed_var rfl y2) (by omega) (ht.2 p hp) (by omega) (hl p hp).1 (hl p hp).2.1) fun _ => ev_least (ed_var rfl y2) (by omega) (ht.2 p hp) (by omega) (hl p hp).2.2) rfl)) rfl) fun H2 e2 => k H2 (e1.trans e2)
theorem scSizes : FnScope ["form", "word", "members", "_", "inner"] ["form"] (defScope sSizes) := ⟨rfl, rfl, rfl, by decide +kernel, rfl, by decide +kernel, by decide +kernel⟩
structure TGl (mg : Str → Option Value) : Prop where
  most : ∃ t, mg "_MOST" = some (.int 4 t)
  least : ∃ t, mg "_LEAST" = some (.int 2 t)
  max : ∃ t, mg "MAX_ENTRIES" = some (.int 300 t)
theorem ok_sizes {f : Addr} {fd : FuncData} {m : Nat} (F : Fun K "has_right_sizes" "has_right_sizes" sSizes f fd) (T : TI mg) (A : TAl mg) (G : TGl mg) (C : Cl P w K mg base m "has_right_sizes" (spSizes m)) : FnOk P w K mg base CX0 (m + 1) f fd ["form"] (spSizes (m + 1)) := by
  obtain ⟨t4, g4⟩ := G.most
  obtain ⟨t2, g2⟩ := G.least
  refine F.ok scSizes (fun vs H Q E h => ?_) (fun cdv A' outer s H vs Q E hr h => ?_)
  · obtain ⟨n, g, v, _, rfl, _⟩ := h
    rfl
  · obtain ⟨n, g, v, hn, rfl, hx, hl, k⟩ := h
    refine ⟨_, (pss_cons (ps_asg (pv 0) (pg_tup (by rfl) (pgs_cons (pg_name (i := 1) scSizes.nd rfl (.inl rfl)) (pgs_cons (pg_name (i := 2) scSizes.nd rfl (.inl rfl)) pgs_nil))))
      (pss_cons (ps_if (pt_cmpR op_eq (pv 1) pe_str (nomark _)) (pss_one (ps_ret (pe_cmpR op_le (pe_callB call_len_seq (by rfl) T.len PySem.boot_len (pa_cons (pv 2) pa_nil)) (pe_glob (v := .int 4) (by rfl) g4 ⟨_, rfl⟩) (nomark _)))) pss_nil)
      (pss_cons (ps_if (pt_not (pt_chain op_le op_le (pe_glob (v := .int 2) (by rfl) g2 ⟨_, rfl⟩) (pe_callB call_len_seq (by rfl) T.len PySem.boot_len (pa_cons (pv 2) pa_nil)) (pe_glob (v := .int 4) (by rfl) g4 ⟨_, rfl⟩))) pss_never pss_nil)
      (pss_one (ps_ret (pe_callB (cr_all rfl) (by rfl) A.all (by decide +kernel) (pa_cons (pe_lc (own := [("_", 3), ("inner", 4)]) (g := gTup K 2 (gCons (gName 3) (gCons (gName 4) gNil))) (by rfl) scSizes.nd (pi_tup (pv 2))
            (blkOk_by (own := [("_", 3), ("inner", 4)]) (N := ["form", "word", "members", "_", "inner"]) (sc := defScope sSizes) (by decide +kernel))
            (fun _ _ _ _ _ => by exact (pg_tup (by rfl) (pgs_cons (pg_name (i := 3) scSizes.nd rfl (Or.inl rfl)) (pgs_cons (pg_name (i := 4) scSizes.nd rfl (Or.inl rfl)) pgs_nil)))) (fun _ _ _ _ _ => pts_nil)
            (te := tAndV (tOp (rI0 fun i j => .bl (decide (j ≤ i))) (tCB (rLn K) (tCons (tOp (rIxT K) (tVar 4) (tC (.int 1))) tNil)) (tC (.int 2))) (tCall (spSizes m) [] E0 (tCons (tVar 4) tNil))) (fun _ _ _ _ _ => by exact (pe_and (pe_cmpR op_ge (pe_callB call_len_seq (by rfl) T.len PySem.boot_len (by exact (pa_cons ((pe_ix ix_tup (pv 4) pe_int (fun _ _ => rfl))) pa_nil))) (pe_glob (v := .int 2) (by rfl) g2 ⟨_, rfl⟩) (nomark _)) (pe_one (pe_cl C hr (Nat.le_refl _) (by rfl) (by exact (pa_cons (pv 4) pa_nil))))))) pa_nil))))))), ?_⟩
    match n, g, hn, hx, hl with
    | 0, es, hn, hx, hl =>
      refine q_unp2 (ed_var rfl hx) fun v1 v2 H1 e1 x1 x2 => ?_
      cases x1.str
      refine q_when (b := true) (et_is (et_test (ev_eqW (ev_var rfl))) (by decide)) (fun _ H2 e2 => ?_) (fun z => nomatch z)
      refine s_ret (ev_is (ev_op (ev_lenT (ed_var rfl (x2.mono e2))) ev_c rv_I0) ?_) fun H3 e3 => k H3 ((e1.trans e2).trans e3)
      have h4 : (lfs es).length ≤ 4 := hl
      rw [List.length_map, decide_eq_true (by omega)]
    | n + 1, bs, hn, hx, hl =>
      refine q_unp2 (ed_var rfl hx) fun v1 v2 H1 e1 x1 x2 => ?_
      cases x1.str
      refine q_when (b := false) (et_is (et_test (ev_eqW (ev_var rfl))) (by decide)) (fun z => nomatch z) (fun _ H2 e2 => ?_)
      obtain ⟨l2, l4, hp⟩ := hl
      refine q_not (et_not (a := true) (et_test (ev_chain2 ev_c (ev_lenT (ed_var rfl (x2.mono e2))) ev_c (by rw [List.length_map]; omega) (by rw [List.length_map]; omega)))) fun H3 e3 => ?_
      exact s_ret (ev_allLc (es := brs bs) (enc := fun p => PyData.tuple [boxD p.1, formD n p.2]) (ei_tup (ed_var rfl (x2.mono (e2.trans e3)))) (Nat.le_trans l4 (by decide)) fun p hpm => turn_t2 (d1 := boxD p.1) (d2 := formD n p.2) rfl (fun _ _ => rfl) (fun _ _ _ _ _ _ => et_yes) fun u1 u2 H4 e4 y1 y2 _ => by
        obtain ⟨d2, ed, el⟩ := membs (n := n) (f := p.2)
        have y2' := y2
        rw [ed] at y2'
        obtain ⟨w2, sz⟩ := hp p hpm
        refine ed_true (ev_is (ev_andV (a := true) (ev_is (ev_op (ev_lenT (ed_ix (ed_var rfl y2') ⟨by decide, rfl⟩)) ev_c rv_I0) ?_) fun _ => ev_sizes (ed_var rfl y2) (by omega) sz) rfl)
        rw [el, decide_eq_true (by omega)]) fun H4 e4 => k H4 (((e1.trans e2).trans e3).trans e4)
end
end Q
set_option Elab.async false
set_option linter.all false
set_option maxRecDepth 100000
set_option maxHeartbeats 4000000
/-! a right form has no flaws -/
namespace PB
theorem leaves_pos : ∀ (n : Nat) (f : Fm n), sizes n f → 1 ≤ leaves n f
  | 0, _, _ => Nat.le_refl _
  | n + 1, bs, h => by
    obtain ⟨h2, _, hp⟩ := h
    show 1 ≤ (List.map (fun p : Bx × Fm n => leaves n p.2) (brs bs)).sum
    match hb : brs bs, h2 with
    | p :: r, _ =>
      have z := leaves_pos n p.2 (hp p (by rw [hb]; exact List.mem_cons_self)).2
      rw [List.map_cons, List.sum_cons]
      omega
end PB
namespace Q
open PySem L2 PySem.Spec PyProof.Rows PySem.Calls
open Evl PB
abbrev sFlaws : Stmt := top 39
/-- how many different ones -/
def diffN (ns : List Int) : Nat := (PyProof.Rows.firstMet (fun i => ns.getD i 0) ns.length).length
theorem diff_same (c : Nat) (x : Int) : diffN (List.replicate (c + 1) x) = 1 := by
  have aux : ∀ i, i ≤ c + 1 → 1 ≤ i → PyProof.Rows.firstMet (fun j => (List.replicate (c + 1) x).getD j 0) i = [x] := fun i => by
    induction i with
    | zero => intro _ h; omega
    | succ i ih =>
      intro h1 _
      rw [PyProof.Rows.firstMet_succ]
      have e : (List.replicate (c + 1) x).getD i 0 = x := by
        rw [List.getD_eq_getElem?_getD, List.getElem?_replicate, if_pos (by omega)]
        rfl
      rw [e]
      by_cases h0 : 1 ≤ i
      · rw [ih (by omega) h0]
        unfold step_dedup
        rw [if_pos (by simp)]
      · have : i = 0 := by omega
        subst this
        rfl
  unfold diffN
  rw [List.length_replicate, aux (c + 1) (Nat.le_refl _) (by omega)]
  rfl
theorem diff_nodup {ns : List Int} (h : ns.Nodup) : diffN ns = ns.length := by
  unfold diffN
  rw [RZ.firstMet_nodup h ns.length (Nat.le_refl _), List.take_length]
def tLenSetA (K : PySem.W.Frag) (ta : TE) : TE := fun σ H Q => ta σ H fun x H1 => ∃ (l : Addr) (ns : List Int), x = .ref l ∧ SqL K H1 l (ns.map V.int) ∧ ns.length ≤ 4000 ∧ Q (.int ((diffN ns : Nat) : Int)) H1
theorem pe_lenSetA {X : Cx} {a : Expr} {ta : TE} {p p2 q pos : Pos} (hg : Gl X "len") (hm : X.mg "len" = none) (hg2 : Gl X "set") (hm2 : X.mg "set" = none) (ha : PE X a ta) (hc : X.calm = true := by rfl)
    (na : starEach [a] X.env = (false, eval a X.env) :: starEach [] X.env := by rfl) : PE X (.Call (.Name "len" p) [.Call (.Name "set" p2) [a] [] q] [] pos) (tLenSetA X.K ta) := by
  refine ⟨fun pins s σ H Q I hh => ?_⟩
  refine Call_ (ld_blt I hg hm boot_len (PyProof.Rows.callWith_builtin1 (PyProof.Rows.args_cons ?_ rfl) rfl rfl))
  refine Call_ (ld_blt I hg2 hm2 boot_set (PyProof.Rows.callWith_type1 (PyProof.Rows.args_cons (thn (ha.run pins s σ H _ I hh) fun v s1 ⟨x, H1, I1, rx, qx⟩ => PyProof.Rows.args_nil ?_) na) na rfl))
  obtain ⟨l, ns, rfl, hq, hln, qx⟩ := qx
  cases rx
  obtain ⟨its, r, pl, hz⟩ := I1.list hq
  have ez : its.toArray.size = ns.length := by rw [List.size_toArray, ← r.length, List.length_map]
  refine call_set_list (I1.ok.hd hc) pl.isList (by simpa using RZ.intsAre_vals r) (by rw [ez]; unfold scanBound; omega) fun h2 tk hS hk => PyProof.Rows.args_nil ?_
  rw [ez] at hS
  obtain ⟨o, es, ep, t, ho, hex, hd, _, _, _, hf, hn⟩ := hS
  have hle : diffN ns ≤ ns.length := PyProof.Rows.firstMet_length_le _ _
  have hn2 : es.size = diffN ns := hn
  exact call_len_set ho hex hd hf (by rw [hn2] <;> omega) ⟨.int ((diffN ns : Nat) : Int), H1, Inv.tok (I1.kept fun b o e => hk b o (Heap.lt_size e) e) _, ⟨_, by rw [hn2]⟩, qx⟩
section
variable {K : PySem.W.Frag} {σ : L2.St} {H : Hp} {te : TE} {ns : List Int}
theorem ev_lenSet (h : EvLd te σ H (ns.map PyData.int)) (hl : ns.length ≤ 4000) : Ev (tLenSetA K te) σ H (.int ((diffN ns : Nat) : Int)) := fun H1 e Q q =>
  h H1 e _ fun p xs H2 e2 hp x => by
    rw [x.ints_inv] at hp
    exact ⟨p, ns, rfl, SqL.of hp, hl, q H2 e2⟩
theorem q_asgQ {i : Nat} {D : Ends} {tz : TS} (h : te σ H fun v H1 => tz D (σ.set i (some v)) H1) : tSeq (tAsg te (gName i)) tz D σ H := h
theorem ev_notV {b : Bool} (h : Ev te σ H (.bl b)) : Ev (tNotV te) σ H (.bl (!b)) := fun H1 e Q q => h H1 e _ fun H2 e2 => ⟨b, rfl, q H2 e2⟩
theorem no_ite {H : Hp} {A B : Hp → Prop} (h : B H) : (fun (b : Bool) H3 => if b = true then A H3 else B H3) false H := by
  show (if false = true then A H else B H)
  rw [if_neg (by decide)]
  exact h
/-- all told as untrue -/
theorem tp_cons {k : Str} {b : Bool} {tv : TE} {trs : List (TE × TE)} {Q : List (V × V) → Hp → Prop} (h : Ev tv σ H (.bl b)) (t : ∀ H1, Ex H H1 → tPairs trs σ H1 fun ps H2 => Q ((.str k, .bl b) :: ps) H2) : tPairs ((tC (.str k), tv) :: trs) σ H Q := h H (Ex.refl _) _ fun H1 e => t H1 e
end
def spFlaws : Sp := fun vs H Q _ => ∃ (n : Nat) (f : Fm n) (v : V), n ≤ 3 ∧ vs = [v] ∧ TD1 H v (formD n f) ∧ boxesOk n f ∧ least n f ∧ sizes n f ∧ ((ents n f).map (·.1)).Nodup ∧ ∀ t H', Ex H H' → H' t = some (.tup []) → Q (.ref t) H'
section
variable {P : Program} {w : World} {K : PySem.W.Frag} {mg : Str → Option Value} {base : Heap}
theorem scFlaws : FnScope ["value", "numbers", "told", "number", "_", "word"] ["value"] (defScope sFlaws) := ⟨rfl, rfl, rfl, by decide +kernel, rfl, by decide +kernel, by decide +kernel⟩
structure TSt (mg : Str → Option Value) : Prop where
  set : mg "set" = none
  len : mg "len" = none
  tuple : mg "tuple" = none
theorem ok_flaws {f : Addr} {fd : FuncData} (F : Fun K "form_flaws" "form_flaws" sFlaws f fd) (T : TSt mg) (G : TGl mg) (CB : Cl P w K mg base 12 "is_built" (spBuilt 4)) (CE : Cl P w K mg base 4 "entries_of" (spEnts 4)) (CD : Cl P w K mg base 4 "leaf_depths" (spLeafD 4)) (CL : Cl P w K mg base 7 "has_least_boxes" (spLeast 4)) (CS : Cl P w K mg base 4 "has_right_sizes" (spSizes 4)) :
    FnOk P w K mg base CX0 13 f fd ["value"] spFlaws := by
  obtain ⟨t3, g3⟩ := G.max
  refine F.ok scFlaws (fun vs H Q E h => ?_) (fun cdv A' outer s H vs Q E hr h => ?_)
  · obtain ⟨n, g, v, _, rfl, _⟩ := h
    rfl
  · obtain ⟨n, g, v, h3, rfl, hx, hb, hl, hz, nd, k⟩ := h
    have hu := hr.units
    have ht := sizes_thin n g hz
    refine ⟨_, (pss_cons (ps_if (pt_not (pt_val (pe_cl CB hr (by decide) (by rfl) (pa_cons (pv 0) pa_nil)))) pss_never pss_nil)
      (pss_cons (ps_setLc (i := 1) (own := [("number", 3), ("_", 4)]) (g := gTup K 2 (gCons (gName 3) (gCons (gName 4) gNil))) (by rfl) scFlaws.nd rfl rfl (sw_true rfl rfl rfl (by decide +kernel)) (pi_list (pe_cl CE hr (by decide) (by rfl) (pa_cons (pv 0) pa_nil)))
            (blkOk_by (own := [("number", 3), ("_", 4)]) (N := ["value", "numbers", "told", "number", "_", "word"]) (sc := defScope sFlaws) (by decide +kernel))
            (fun _ _ _ _ _ => by exact (pg_tup (by rfl) (pgs_cons (pg_name (i := 3) scFlaws.nd rfl (Or.inl rfl)) (pgs_cons (pg_name (i := 4) scFlaws.nd rfl (Or.inl rfl)) pgs_nil)))) (fun _ _ _ _ _ => pts_nil)
            (te := tVar 3) (fun _ _ _ _ _ => by exact (pv 3)))
      (pss_cons (ps_set (i := 2) scFlaws.nd rfl (Or.inr rfl) (pe_disp (pps_cons pe_str (pe_not (pe_cl CL hr (by decide) (by rfl) (pa_cons (pv 0) pa_nil))) (pps_cons pe_str (pe_cmpR op_gt (pe_lenSetA (by rfl) T.len (by rfl) T.set (pe_cl CD hr (by decide) (by rfl) (pa_cons (pv 0) pa_nil))) pe_int (nomark _))
          (pps_cons pe_str (pe_cmpR op_gt (pe_callB call_len_seq (by rfl) T.len PySem.boot_len (pa_cons (pv 1) pa_nil)) (pe_glob (v := .int 300) (by rfl) g3 ⟨_, rfl⟩) (nomark _)) (pps_cons pe_str (pe_not (pe_cl CS hr (by decide) (by rfl) (pa_cons (pv 0) pa_nil))) (pps_cons pe_str (pe_cmpR op_lt (pe_lenSetA (by rfl) T.len (by rfl) T.set (pv 1)) (pe_callB call_len_seq (by rfl) T.len PySem.boot_len (pa_cons (pv 1) pa_nil)) (nomark _)) pps_nil))))) (by rfl) (by rfl) (fun z => by cases z) (by decide)))
      (pss_one (ps_ret (pe_callTy call_tuple_of (by rfl) T.tuple (by decide +kernel) (pa_cons (pe_lock (pe_lc (own := [("word", 5)]) (g := gName 5) (by rfl) scFlaws.nd (pi_keys (pv 2))
            (blkOk_by (own := [("word", 5)]) (N := ["value", "numbers", "told", "number", "_", "word"]) (sc := defScope sFlaws) (by decide +kernel))
            (fun _ _ _ _ _ => pg_name (i := 5) scFlaws.nd rfl (Or.inl rfl)) (tt := tB (tDGet (tVar 2) (tVar 5))) (fun _ _ _ _ _ => by exact (pts_one (pt_val (pe_dget (hu_of hr) (pv 2) (pv 5) (fun _ _ => rfl)))))
            (te := tVar 5) (fun _ _ _ _ _ => by exact (pv 5)))) pa_nil))))))), ?_⟩
    have el := ents_len n g ht
    have p4 : 4 ^ (n + 1) ≤ 256 := by
      match n, h3 with
      | 0, _ => decide
      | 1, _ => decide
      | 2, _ => decide
      | 3, _ => decide
    have lp := leaves_pos n g hz
    have ll := leaves_le n g ht
    have p4' := pow4' h3
    refine q_not (et_not (a := true) (et_B (ev_built (ed_var rfl hx) (by omega) ht hb))) fun H1 e1 => ?_
    refine q_asgDs (ds := ((ents n g).map (·.1)).map PyData.int) ?_ fun ln xs H2 e2 _ hln y => ?_
    · have z := eds_it (te := tVar 3) (g := gTup K 2 (gCons (gName 3) (gCons (gName 4) gNil))) (tt := tYes) (vs := [3, 4]) (wi := iList K (tCall (spEnts 4) [] E0 (tCons (tVar 0) tNil))) (σ := [some v, none, none, none, none, none]) (H := H1) (es := ents n g) (enc := entD) (fun _ => true) (fun e => PyData.int e.1) (ei_list (ld_new (eds_ents (ed_var rfl (hx.mono e1)) (by omega) ht h3))) (by omega) (fun e he => turn_t2 (d1 := .int e.1) (d2 := boxD e.2) rfl (fun _ _ => rfl) (fun _ _ _ _ _ _ => et_yes) fun u1 v1 H2 e2 y1 y2 _ => ed_var rfl y1)
      rw [filt_all] at z
      rw [List.map_map]
      exact z
    have hx2 := hx.mono (e1.trans e2)
    refine q_asgQ fun p hp => ?_
    have eP := Ex.new (o := .dK []) hp
    have hp0 : upd H2 p (.dK []) p = some (.dK []) := upd_same
    have hln3 := eP _ _ hln
    have y3 := y.mono eP
    have hx3 := hx2.mono eP
    have e3 := (e1.trans e2).trans eP
    generalize upd H2 p (.dK []) = H3 at hp0 hln3 y3 hx3 e3 ⊢
    have lnm : ((ents n g).map (·.1)).length ≤ 256 := by rw [List.length_map]; omega
    have eqn : diffN ((ents n g).map (·.1)) = ((ents n g).map (·.1)).length := diff_nodup nd
    have one : diffN (List.replicate (leaves n g) (n : Int)) = 1 := by
      obtain ⟨c, hc⟩ : ∃ c, leaves n g = c + 1 := ⟨leaves n g - 1, by omega⟩
      rw [hc]
      exact diff_same c _
    refine tp_cons (b := false) (ev_is (ev_notV (ev_least (ed_var rfl hx3) (by omega) ht h3 hl)) rfl) fun H4 e4 => ?_
    refine tp_cons (b := false) (ev_is (ev_op (ev_lenSet (ld_new (eds_leafD (ed_var rfl (hx3.mono e4)) (by omega) ht h3)) (by rw [List.length_replicate]; omega)) ev_c rv_I0) (by rw [one]; rfl)) fun H5 e5 => ?_
    refine tp_cons (b := false) (ev_is (ev_op (ev_lenL (ld_of (ev_var rfl) (e5 _ _ (e4 _ _ hln3)) (y3.mono (e4.trans e5)))) ev_c rv_I0) (by rw [List.length_map, decide_eq_false (by omega)])) fun H6 e6 => ?_
    have e36 := (e4.trans e5).trans e6
    refine tp_cons (b := false) (ev_is (ev_notV (ev_sizes (ed_var rfl (hx3.mono e36)) (by omega) hz)) rfl) fun H7 e7 => ?_
    have e37 := e36.trans e7
    refine tp_cons (b := false) (ev_is (ev_op (ev_lenSet (ld_of (ev_var rfl) (e37 _ _ hln3) (y3.mono e37)) (by omega)) (ev_lenL (ld_of (ev_var rfl) (e37 _ _ hln3) (y3.mono e37))) rv_I0) (by rw [eqn]; simp only [List.length_map]; rw [decide_eq_false (by omega)])) fun H8 e8 => ?_
    have e38 := e37.trans e8
    have kv : ∃ kvs : List (Key × V), kvs = [(.inr "box", .bl false), (.inr "depth", .bl false), (.inr "many", .bl false), (.inr "size", .bl false), (.inr "twice", .bl false)] := ⟨_, rfl⟩
    obtain ⟨kvs, hkvs⟩ := kv
    refine ⟨e38 _ _ hp0, kvs, by rw [hkvs]; rfl, by rw [hkvs]; decide, ?_⟩
    have hm : mergeK [] kvs = kvs := by rw [hkvs]; rfl
    rw [hm]
    have hp9 : upd H8 p (.dK kvs) p = some (.dK kvs) := upd_same
    have nP : H p = none := fresh_back (e1.trans e2) hp
    have e9 : Ex H (upd H8 p (.dK kvs)) := Ex.mut (e3.trans e38) nP
    generalize upd H8 p (.dK kvs) = H9 at hp9 e9 ⊢
    -- the words whose flaw is there: none
    refine ⟨p, .dK kvs, hp9, trivial, fun od => ?_⟩
    refine ⟨_, rfl, p, od, rfl, .inl ⟨kvs, upd_same, fun Dl hD => ?_⟩⟩
    have nDp : Dl ≠ p := fun z => by
      rw [z, upd_same] at hD
      cases hD
    have hD9 : H9 Dl = none := by
      rw [upd_ne nDp] at hD
      exact hD
    refine lc_it walk_keys (fun i H' => H' p = some (.frz od (.dK kvs)) ∧ H' Dl = some (.lst []) ∧ ∀ l o, l ≠ p → H9 l = some o → H' l = some o) ⟨by rw [upd_ne (Ne.symm nDp)]; exact upd_same, upd_same, fun l o n1 q => by
      rw [upd_ne (ne_of_none q hD9), upd_ne n1]
      exact q⟩ (fun i H' _ c => c.1) (fun i x H' H'' hi c yy => ?_) fun H' c => ?_
    · obtain ⟨rfl, kk, u, hk, rfl⟩ := yy
      refine ⟨rfl, ?_⟩
      have hv : valV kvs kk = some (.bl false) := by
        rw [hkvs] at hk ⊢
        match i, hk with
        | 0, hk => cases hk; rfl
        | 1, hk => cases hk; rfl
        | 2, hk => cases hk; rfl
        | 3, hk => cases hk; rfl
        | 4, hk => cases hk; rfl
        | i + 5, hk => cases hk
      refine ⟨_, rfl, _, rfl, p, .bl false, rfl, .inl ⟨kvs, kk, .inr ⟨od, c.1⟩, rfl, hv.symm⟩, false, rfl, ?_⟩
      show (if (false : Bool) = true then _ else _)
      rw [if_neg (by decide)]
      exact c
    · refine ⟨c.1, Dl, [], rfl, .inl ⟨SqL.of (by rw [upd_ne nDp]; exact c.2.1), fun l hl9 => ?_⟩⟩
      have eF : Ex H9 (upd H' p (.dK kvs)) := fun l o q => by
        by_cases z : l = p
        · subst z
          rw [hp9] at q
          cases q
          exact upd_same
        · rw [upd_ne z]
          exact c.2.2 l o z q
      exact k l _ ((e9.trans eF).trans (Ex.new hl9)) upd_same
end
end Q
set_option Elab.async false
set_option linter.all false
set_option maxRecDepth 100000
set_option maxHeartbeats 4000000
/-! put in order along an axis -/
namespace Q
open PySem L2 PySem.Spec PyProof.Rows PySem.Calls
open Evl PB
abbrev sInOrd : Stmt := top 29
def prD (p : Bx × PyData) : PyData := .tuple [boxD p.1, p.2]
def sideOf (x : Bx) : Int → Int
  | 0 => x.l + x.r
  | _ => x.b + x.t
section
variable {K : PySem.W.Frag} {σ : L2.St} {H : Hp} {te tl tb : TE} {d : PyData} {ds : List PyData} {k : Int} {i : Nat} {D : Ends} {tz : TS}
theorem ed_ixV (h : EvD te σ H (.tuple ds)) (hi : Ev tb σ H (.int k)) (hk : 0 ≤ k ∧ ds[k.toNat]? = some d) : EvD (tOp (rIxT K) te tb) σ H d := fun H1 e Q q =>
  h H1 e _ fun v H2 e2 x => hi H2 (e.trans e2) _ fun H3 e3 => by
    obtain ⟨a, xs, rfl, ha, t⟩ := (x.mono e3).tup
    obtain ⟨u, hu, y⟩ := t.at hk.2
    have e4 : k = ((k.toNat : Nat) : Int) := by omega
    have z : atI xs ((k.toNat : Nat) : Int) = some u := atI_nat hu
    rw [← e4] at z
    exact ⟨a, xs, k, u, rfl, rfl, SqT.of ha, z, q u H3 (e2.trans e3) y⟩
/-- xs[i], xs a list of what is told -/
theorem ed_ixLV (h : EvLd te σ H ds) (hi : Ev tb σ H (.int k)) (hk : 0 ≤ k ∧ ds[k.toNat]? = some d) : EvD (tOp (rIxL K) te tb) σ H d := fun H1 e Q q =>
  h H1 e _ fun a xs H2 e2 ha t => hi H2 (e.trans e2) _ fun H3 e3 => by
    obtain ⟨u, hu, y⟩ := t.at hk.2
    have e4 : k = ((k.toNat : Nat) : Int) := by omega
    have z : atI xs ((k.toNat : Nat) : Int) = some u := atI_nat hu
    rw [← e4] at z
    exact ⟨a, xs, k, u, rfl, rfl, SqL.of (e3 _ _ ha), z, q u H3 (e2.trans e3) (y.mono e3)⟩
/-- sorted of tuples of d ints, told by a list of lists of ints -/
theorem go_sortI {nss : List (List Int)} {dd : Nat} (h : EvLd te σ H (nss.map fun ns => .tuple (ns.map PyData.int))) (hd : 1 ≤ dd) (hl : ∀ ns ∈ nss, ns.length = dd) {H1 : Hp} (e0 : Ex H H1) {Q : VK}
    (k : ∀ (r : Addr) (ys : List V) (mss : List (List Int)) H2, H1 r = none → Ex H1 H2 → H2 r = some (.lst ys) → TDs H2 ys (mss.map fun ns => .tuple (ns.map PyData.int)) → mss.Perm nss → mss.Pairwise (fun a b => Lx.lexL b a = false) → Q (.ref r) H2) : tCB (rSortLex K) (tCons te tNil) σ H1 Q :=
  h H1 e0 _ fun p xs H2 e hp tp => by
    -- what each value tells
    have one : ∀ x ∈ xs, ∃ a ns, x = V.ref a ∧ H2 a = some (.tup (ns.map V.int)) ∧ ns ∈ nss := fun x hx => by
      obtain ⟨j, hj⟩ := List.mem_iff_getElem?.mp hx
      obtain ⟨d, hd, t⟩ := tp.to hj
      rw [List.getElem?_map] at hd
      obtain ⟨ns, hns, rfl⟩ := Option.map_eq_some_iff.mp hd
      obtain ⟨a, ys, rfl, ha, t2⟩ := t.tup
      rw [t2.ints_inv] at ha
      exact ⟨a, ns, rfl, ha, List.mem_of_getElem? hns⟩
    let kf : V → List Int := fun v => match v with
      | .ref a => match H2 a with
        | some (.tup zs) => zs.map fun v => match v with | .int i => i | _ => 0
        | _ => []
      | _ => []
    have kfe : ∀ {a : Addr} {ns : List Int}, H2 a = some (.tup (ns.map V.int)) → kf (.ref a) = ns := fun {a ns} ha => by
      show (match H2 a with
        | some (.tup zs) => zs.map fun v => match v with | .int i => i | _ => 0
        | _ => []) = ns
      rw [ha]
      show (ns.map V.int).map _ = ns
      rw [List.map_map]
      exact List.map_id' ns
    refine ⟨p, xs, kf, dd, rfl, SqL.of hp, hd, fun x hx => ?_, fun ys r py pw hr => ?_⟩
    · obtain ⟨a, ns, rfl, ha, hm⟩ := one x hx
      rw [kfe ha]
      exact ⟨⟨a, rfl, SqT.of ha⟩, hl ns hm⟩
    · have eN := Ex.new (o := .lst ys) hr
      refine k r ys (ys.map kf) _ (fresh_back e hr) (e.trans eN) upd_same ?_ ?_ ?_
      · have aux : ∀ zs : List V, (∀ x ∈ zs, x ∈ xs) → TDs (upd H2 r (.lst ys)) zs ((zs.map kf).map fun ns => .tuple (ns.map PyData.int)) := fun zs => by
          induction zs with
          | nil => exact fun _ => .nil
          | cons z zs ih =>
            intro hz
            obtain ⟨a, ns, rfl, ha, hm⟩ := one z (hz z List.mem_cons_self)
            refine TDs.cons ?_ (ih fun x hx => hz x (List.mem_cons_of_mem _ hx))
            rw [kfe ha]
            exact TD1.mk (eN _ _ ha) (TDs.ints ns)
        exact aux ys fun x hx => py.mem_iff.mp hx
      · have e1 : xs.map kf = nss := by
          have l1 := tp.len
          rw [List.length_map] at l1
          refine List.ext_getElem? fun j => ?_
          rw [List.getElem?_map]
          cases hj : xs[j]? with
          | none =>
            have := List.getElem?_eq_none_iff.mp hj
            rw [List.getElem?_eq_none (by omega)]
            rfl
          | some x =>
            obtain ⟨d, hd, t⟩ := tp.to hj
            rw [List.getElem?_map] at hd
            obtain ⟨ns, hns, rfl⟩ := Option.map_eq_some_iff.mp hd
            obtain ⟨a, ys2, rfl, ha, t2⟩ := t.tup
            rw [t2.ints_inv] at ha
            show some (kf (.ref a)) = _
            rw [kfe ha, hns]
        rw [← e1]
        exact py.map kf
      · rw [List.pairwise_map]
        exact pw
theorem q_sortI {nss : List (List Int)} {dd : Nat} (h : EvDs te σ H (nss.map fun ns => .tuple (ns.map PyData.int))) (hd : 1 ≤ dd) (hl : ∀ ns ∈ nss, ns.length = dd)
    (k : ∀ (r : Addr) (ys : List V) (mss : List (List Int)) H1, Ex H H1 → H1 r = some (.lst ys) → TDs H1 ys (mss.map fun ns => .tuple (ns.map PyData.int)) → mss.Perm nss → mss.Pairwise (fun a b => Lx.lexL b a = false) → tz D (σ.set i (some (.ref r))) H1) : tSeq (tAsg (tCB (rSortLex K) (tCons te tNil)) (gName i)) tz D σ H :=
  go_sortI (ld_new h) hd hl (Ex.refl H) fun r ys mss H2 _ e h2 t pm pw => k r ys mss H2 e h2 t pm pw
end
def spInOrd : Sp := fun vs H Q _ => ∃ (L : Addr) (xs : List V) (ps : List (Bx × PyData)) (ax : Int), vs = [.ref L, .int ax] ∧ H L = some (.lst xs) ∧ TDs H xs (ps.map prD) ∧ ps.length ≤ 300 ∧ (ax = 0 ∨ ax = 1) ∧
  ∀ (l : Addr) (ys : List V) (qs : List (Bx × PyData)) H', H l = none → Ex H H' → H' l = some (.lst ys) → TDs H' ys (qs.map prD) → qs.Perm ps → Q (.ref l) H'
section
variable {P : Program} {w : World} {K : PySem.W.Frag} {mg : Str → Option Value} {base : Heap}
structure TSo (mg : Str → Option Value) : Prop where
  sorted : mg "sorted" = none
  enum : mg "enumerate" = none
  zip : mg "zip" = none
theorem scInOrd : FnScope ["pairs", "axis", "keys", "index", "box", "_"] ["pairs", "axis"] (defScope sInOrd) := ⟨rfl, rfl, rfl, by decide +kernel, rfl, by decide +kernel, by decide +kernel⟩
theorem ok_inord {f : Addr} {fd : FuncData} (F : Fun K "_in_order" "_in_order" sInOrd f fd) (T : TSo mg) : FnOk P w K mg base CX0 1 f fd ["pairs", "axis"] spInOrd := by
  refine F.ok scInOrd (fun vs H Q E h => ?_) (fun cdv A' outer s H vs Q E hr h => ?_)
  · obtain ⟨L, xs, ps, ax, rfl, _⟩ := h
    rfl
  · obtain ⟨L, xs, ps, ax, rfl, hL, x, hl, hax, k⟩ := h
    refine ⟨_, (pss_cons (ps_set (i := 2) scInOrd.nd rfl (Or.inl rfl) (pe_callB cr_sortLex (by rfl) T.sorted (by decide +kernel) (pa_cons (pe_lc (own := [("index", 3), ("box", 4), ("_", 5)]) (g := gTup K 2 (gCons (gName 3) (gCons (gTup K 2 (gCons (gName 4) (gCons (gName 5) gNil))) gNil))) (by rfl) scInOrd.nd (pi_enum (by rfl) T.enum (pa_cons (pv 0) pa_nil))
            (blkOk_by (own := [("index", 3), ("box", 4), ("_", 5)]) (N := ["pairs", "axis", "keys", "index", "box", "_"]) (sc := defScope sInOrd) (by decide +kernel))
            (fun _ _ _ _ _ => by exact (pg_tup (by rfl) (pgs_cons (pg_name (i := 3) scInOrd.nd rfl (Or.inl rfl)) (pgs_cons (pg_tup (by rfl) (pgs_cons (pg_name (i := 4) scInOrd.nd rfl (Or.inl rfl)) (pgs_cons (pg_name (i := 5) scInOrd.nd rfl (Or.inl rfl)) pgs_nil))) pgs_nil)))) (fun _ _ _ _ _ => pts_nil)
            (te := tTup (tCons (tOp (rI0 fun i j => .int (i + j)) (tOp (rIxT K) (tVar 4) (tVar 1)) (tOp (rIxT K) (tVar 4) (tOp (rI0 fun i j => .int (i + j)) (tVar 1) (tC (.int 2))))) (tCons (tVar 3) tNil))) (fun _ _ _ _ _ => by exact (pe_tup (by exact (pa_cons (pe_op op_add (pe_ix ix_tup (pv 4) (pv 1) (fun _ _ => rfl)) (pe_ix ix_tup (pv 4) (pe_op op_add (pv 1) pe_int) (fun _ _ => rfl))) (pa_cons (pv 3) pa_nil)))))) pa_nil)))
      (pss_one (ps_ret (pe_lc (own := [("_", 5), ("index", 3)]) (g := gTup K 2 (gCons (gName 5) (gCons (gName 3) gNil))) (by rfl) scInOrd.nd (pi_list (pv 2))
            (blkOk_by (own := [("_", 5), ("index", 3)]) (N := ["pairs", "axis", "keys", "index", "box", "_"]) (sc := defScope sInOrd) (by decide +kernel))
            (fun _ _ _ _ _ => by exact (pg_tup (by rfl) (pgs_cons (pg_name (i := 5) scInOrd.nd rfl (Or.inl rfl)) (pgs_cons (pg_name (i := 3) scInOrd.nd rfl (Or.inl rfl)) pgs_nil)))) (fun _ _ _ _ _ => pts_nil)
            (te := tOp (rIxL K) (tVar 0) (tVar 3)) (fun _ _ _ _ _ => by exact (pe_ix ix_list (pv 0) (pv 3) (fun _ _ => rfl))))))), ?_⟩
    have hxl := x.len
    rw [List.length_map] at hxl
    have dflt : ∀ i, i < ps.length → ps[i]? = some (ps.getD i (⟨0, 0, 0, 0⟩, .none)) := fun i hi => by rw [List.getD_eq_getElem?_getD, List.getElem?_eq_getElem hi]; rfl
    refine q_sortI (nss := (List.range ps.length).map fun (i : Nat) => [sideOf (ps.getD i (⟨0, 0, 0, 0⟩, .none)).1 ax, (i : Int)]) (dd := 2) ?_ (by decide) (fun ns hns => ?_) fun r ys mss H1 e1 hr t pm _ => ?_
    · have z := eds_it (te := tTup (tCons (tOp (rI0 fun i j => .int (i + j)) (tOp (rIxT K) (tVar 4) (tVar 1)) (tOp (rIxT K) (tVar 4) (tOp (rI0 fun i j => .int (i + j)) (tVar 1) (tC (.int 2))))) (tCons (tVar 3) tNil))) (g := gTup K 2 (gCons (gName 3) (gCons (gTup K 2 (gCons (gName 4) (gCons (gName 5) gNil))) gNil))) (tt := tYes) (vs := [3, 4, 5]) (wi := iEnum K (tCons (tVar 0) tNil)) (σ := [some (.ref L), some (.int ax), none, none, none, none]) (H := H)
        (es := List.range ps.length) (enc := fun (i : Nat) => PyData.tuple [.int (i : Int), prD (ps.getD i (⟨0, 0, 0, 0⟩, .none))]) (fun _ => true) (fun (i : Nat) => PyData.tuple [.int (sideOf (ps.getD i (⟨0, 0, 0, 0⟩, .none)).1 ax), .int (i : Int)]) ?_ (by rw [List.length_range]; omega) fun i hi => ?_
      · rw [filt_all] at z
        rw [List.map_map]
        exact z
      · have y := ei_enum (K := K) (ld_of (te := tVar 0) (σ := [some (.ref L), some (.int ax), none, none, none, none]) (ev_var rfl) hL x)
        have e : numD (ps.map prD) = (List.range ps.length).map fun (i : Nat) => PyData.tuple [.int (i : Int), prD (ps.getD i (⟨0, 0, 0, 0⟩, .none))] := by
          unfold numD
          rw [List.length_map]
          refine List.map_congr_left fun i hi => ?_
          have hi := List.mem_range.mp hi
          rw [List.getD_eq_getElem?_getD, List.getElem?_map, dflt i hi]
          rfl
        rw [e] at y
        exact y
      · intro v H2 e2 xv kk kq
        obtain ⟨a, zs, rfl, ha, y⟩ := xv.tup
        obtain ⟨u1, zs1, rfl, y1, y⟩ := y.inv
        obtain ⟨u2, zs2, rfl, y2, y⟩ := y.inv
        cases y.inv0
        cases y1.int
        obtain ⟨b, ws, rfl, hb, y⟩ := y2.tup
        obtain ⟨u3, ws1, rfl, y3, y⟩ := y.inv
        obtain ⟨u4, ws2, rfl, y4, y⟩ := y.inv
        cases y.inv0
        refine ⟨a, _, rfl, SqT.of ha, rfl, _, _, rfl, _, _, rfl, ⟨b, _, rfl, SqT.of hb, rfl, u3, _, rfl, u4, _, rfl, rfl, rfl, kq _ H2 (Ex.refl _) rfl et_yes fun _ => ?_⟩⟩
        refine ed_tup (da_cons (ed_int ?_) (da_cons (ed_int (ev_var rfl)) da_nil)) (by show 2 ≤ 100000; decide)
        rcases hax with rfl | rfl
        · exact ev_op (ev_ofD (ed_ixV (ed_var rfl y3) (ev_var rfl) ⟨by decide, rfl⟩)) (ev_ofD (ed_ixV (ed_var rfl y3) (ev_op (ev_var rfl) ev_c rv_I0) ⟨by decide, rfl⟩)) rv_I0
        · exact ev_op (ev_ofD (ed_ixV (ed_var rfl y3) (ev_var rfl) ⟨by decide, rfl⟩)) (ev_ofD (ed_ixV (ed_var rfl y3) (ev_op (ev_var rfl) ev_c rv_I0) ⟨by decide, rfl⟩)) rv_I0
    · obtain ⟨i, _, rfl⟩ := List.mem_map.mp hns
      rfl
    · have ml : mss.length = ps.length := by rw [pm.length_eq, List.length_map, List.length_range]
      have mem : ∀ ms ∈ mss, ∃ i : Nat, i < ps.length ∧ ms = [sideOf (ps.getD i (⟨0, 0, 0, 0⟩, .none)).1 ax, (i : Int)] := fun ms hms => by
        obtain ⟨i, hi, rfl⟩ := List.mem_map.mp (pm.mem_iff.mp hms)
        exact ⟨i, List.mem_range.mp hi, rfl⟩
      have z := eds_it (te := tOp (rIxL K) (tVar 0) (tVar 3)) (g := gTup K 2 (gCons (gName 5) (gCons (gName 3) gNil))) (tt := tYes) (vs := [5, 3]) (wi := iList K (tVar 2)) (σ := [some (.ref L), some (.int ax), some (.ref r), none, none, none]) (H := H1)
        (es := mss) (enc := fun ns => PyData.tuple (ns.map PyData.int)) (fun _ => true) (fun ms => prD (ps.getD (ms.getD 1 0).toNat (⟨0, 0, 0, 0⟩, .none))) (ei_list (ld_of (ev_var rfl) hr t)) (by omega) fun ms hms => ?_
      · rw [filt_all] at z
        refine s_retDs z fun l ws H2 hl2 e2 h2 y => k l ws (mss.map fun ms => ps.getD (ms.getD 1 0).toNat (⟨0, 0, 0, 0⟩, .none)) H2 (fresh_back e1 hl2) (e1.trans e2) h2 (by rw [List.map_map]; exact y) ?_
        have q1 := pm.map fun ms => ps.getD (ms.getD 1 0).toNat (⟨0, 0, 0, 0⟩, .none)
        have q2 : ((List.range ps.length).map fun (i : Nat) => [sideOf (ps.getD i (⟨0, 0, 0, 0⟩, .none)).1 ax, (i : Int)]).map (fun ms => ps.getD (ms.getD 1 0).toNat (⟨0, 0, 0, 0⟩, .none)) = ps := by
          rw [List.map_map]
          refine List.ext_getElem? fun j => ?_
          rw [List.getElem?_map]
          by_cases hj : j < ps.length
          · rw [List.getElem?_range hj, dflt j hj]
            rfl
          · rw [List.getElem?_eq_none (by rw [List.length_range]; omega), List.getElem?_eq_none (by omega)]
            rfl
        rw [q2] at q1
        exact q1
      · obtain ⟨i, hi, rfl⟩ := mem ms hms
        refine turn_t2 (d1 := .int (sideOf (ps.getD i (⟨0, 0, 0, 0⟩, .none)).1 ax)) (d2 := .int (i : Int)) rfl (fun _ _ => rfl) (fun _ _ _ _ _ _ => et_yes) fun u1 u2 H2 e2 y1 y2 _ => ?_
        cases y2.int
        refine ed_ixLV (ld_of (ev_var rfl) ((e1.trans e2) _ _ hL) (x.mono (e1.trans e2))) (ev_var rfl) ⟨by omega, ?_⟩
        rw [Int.toNat_natCast, List.getElem?_map, dflt i hi]
        rfl
end
end Q
set_option Elab.async false
set_option linter.all false
set_option maxRecDepth 100000
set_option maxHeartbeats 4000000
/-! parted into rows -/
namespace Q
open PySem L2 PySem.Spec PyProof.Rows PySem.Calls
open Evl PB
abbrev sParted : Stmt := top 30
abbrev sRowsOf : Stmt := top 28
/-- lists of what is told, in their places -/
inductive RwA (H : Hp) : List Addr → List (List PyData) → Prop where
  | nil : RwA H [] []
  | cons {a : Addr} {xs : List V} {ds : List PyData} {as : List Addr} {dss : List (List PyData)} (h : H a = some (.lst xs)) (t : TDs H xs ds) (r : RwA H as dss) : RwA H (a :: as) (ds :: dss)
theorem RwA.mono {H H' : Hp} (e : Ex H H') {as : List Addr} {dss : List (List PyData)} (h : RwA H as dss) : RwA H' as dss := by
  induction h with
  | nil => exact .nil
  | cons h t _ ih => exact .cons (e _ _ h) (t.mono e) ih
theorem RwA.mx {D : Addr} {H H' : Hp} {xs : List V} (m : Mx D H H') (hD : H D = some (.lst xs)) {as : List Addr} {dss : List (List PyData)} (h : RwA H as dss) (n : D ∉ as) : RwA H' as dss := by
  induction h with
  | nil => exact .nil
  | cons h t _ ih =>
    exact .cons (m _ _ (fun z => n (by rw [z]; exact List.mem_cons_self)) h) (t.by (m.tk hD)) (ih fun z => n (List.mem_cons_of_mem _ z))
theorem RwA.len {H : Hp} {as : List Addr} {dss : List (List PyData)} (h : RwA H as dss) : as.length = dss.length := by
  induction h with
  | nil => rfl
  | cons _ _ _ ih => rw [List.length_cons, List.length_cons, ih]
theorem RwA.snoc {H : Hp} {as : List Addr} {dss : List (List PyData)} {a : Addr} {xs : List V} {ds : List PyData} (h : RwA H as dss) (k : H a = some (.lst xs)) (t : TDs H xs ds) : RwA H (as ++ [a]) (dss ++ [ds]) := by
  induction h with
  | nil => exact .cons k t .nil
  | cons h t' _ ih => exact .cons h t' ih
theorem RwA.at {H : Hp} {as : List Addr} {dss : List (List PyData)} (h : RwA H as dss) : ∀ {i : Nat} {ds : List PyData}, dss[i]? = some ds → ∃ a xs, as[i]? = some a ∧ H a = some (.lst xs) ∧ TDs H xs ds := by
  induction h with
  | nil => intro i ds hi; simp at hi
  | @cons a xs ds as dss h t _ ih =>
    intro i es hi
    match i, hi with
    | 0, hi =>
      cases hi
      exact ⟨a, xs, rfl, h, t⟩
    | i + 1, hi => exact ih (i := i) (by simpa using hi)
/-- a new list of new lists -/
def EvRs (te : TE) (σ : L2.St) (H : Hp) (dss : List (List PyData)) : Prop := ∀ H1, Ex H H1 → ∀ Q : VK, (∀ p (as : List Addr) H2, H1 p = none → Ex H1 H2 → H2 p = some (.lst (as.map V.ref)) → (∀ a ∈ as, H1 a = none) → RwA H2 as dss → Q (.ref p) H2) → te σ H1 Q
def Cr (H : Hp) (F : Nat → List PyData) (Dl : Addr) (i : Nat) (H' : Hp) : Prop := H Dl = none ∧ Ex H H' ∧ ∃ as : List Addr, H' Dl = some (.lst (as.map V.ref)) ∧ (Dl ∉ as ∧ ∀ a ∈ as, H a = none) ∧ RwA H' as ((List.range i).map F)
theorem ers_lcR {σ : L2.St} {H : Hp} {te : TE} {ta : TA} {j m : Nat} {vs : List Nat} (F : Nat → List PyData) (h : EvA ta σ H [.int (m : Int)]) (hz : m ≤ 40000) (hw : ∀ x, wipe ((wipe σ vs).set j (some x)) vs = wipe σ vs)
    (hs : ∀ (i : Nat) H1, Ex H H1 → i < m → EvDs te ((wipe σ vs).set j (some (.int (i : Int)))) H1 (F i)) : EvRs (tLc (iRng1 ta) (gName j) tYes te vs) σ H ((List.range m).map F) := fun H0 e0 Q q =>
  h H0 e0 _ fun H1 e1 => ⟨(m : Int), rfl, by omega, by omega, fun Dl hD =>
    lc_range (lo := 0) (n := (m : Int).toNat) (Cr H1 F Dl) ⟨hD, Ex.new hD, [], upd_same, ⟨(by simp), fun a ha => nomatch ha⟩, .nil⟩ (fun i H' hi c => by
      obtain ⟨c1, c2, as, c3, ⟨c4, c6⟩, c5⟩ := c
      rw [show (0 : Int) + (i : Int) = (i : Int) from Int.zero_add _]
      refine ⟨hw _, yes_ite ?_⟩
      refine hs i H' ((e0.trans e1).trans c2) (by omega) H' (Ex.refl _) _ fun a xs H2 ha0 e2 ha x => ?_
      have nD : a ≠ Dl := fun z => by
        rw [z, c3] at ha0
        cases ha0
      have cl := c5.len
      rw [List.length_map, List.length_range] at cl
      have mx : Mx Dl H2 (upd H2 Dl (.lst (as.map V.ref ++ [V.ref a]))) := fun l o n q => by
        rw [upd_ne n]
        exact q
      refine ⟨as.map V.ref, e2 _ _ c3, sz_lt (by rw [List.length_map]; omega), c1, Ex.mut (c2.trans e2) c1, as ++ [a], by rw [upd_same, List.map_append]; rfl, ⟨(by
        intro z
        rcases List.mem_append.mp z with z | z
        · exact c4 z
        · exact nD (List.mem_singleton.mp z).symm), fun b hb => by
        rcases List.mem_append.mp hb with hb | hb
        · exact c6 b hb
        · rw [List.mem_singleton.mp hb]
          exact fresh_back c2 ha0⟩, ?_⟩
      rw [List.range_succ, List.map_append]
      refine RwA.snoc ((c5.mono e2).mx mx (e2 _ _ c3) c4) (mx _ _ nD ha) (x.by (mx.tk (e2 _ _ c3)))) (fun H' c => by
        obtain ⟨c1, c2, as, c3, c4, c5⟩ := c
        rw [Int.toNat_natCast] at c5
        exact q Dl as H' (fresh_back e1 c1) (e1.trans c2) c3 (fun a ha => fresh_back e1 (c4.2 a ha)) c5)⟩
/-- the rows: c of them -/
def parts (ds : List PyData) (c : Nat) : List (List PyData) := (List.range c).map fun i => (ds.drop (ds.length * i / c)).take (ds.length * (i + 1) / c - ds.length * i / c)
def spParted : Sp := fun vs H Q _ => ∃ (L : Addr) (xs : List V) (ds : List PyData) (c : Nat), vs = [.ref L, .int (c : Int)] ∧ H L = some (.lst xs) ∧ TDs H xs ds ∧ ds.length ≤ 300 ∧ 1 ≤ c ∧ c ≤ 300 ∧
  ∀ l (as : List Addr) H', H l = none → Ex H H' → H' l = some (.lst (as.map V.ref)) → (∀ a ∈ as, H a = none) → RwA H' as (parts ds c) → Q (.ref l) H'
theorem cut_mid (xs : List V) {a b : Nat} (h : a ≤ b) (hb : b ≤ xs.length) : cutV xs (some (a : Int)) (some (b : Int)) = (xs.drop a).take (b - a) := by
  unfold cutV
  rw [HT.sIx_nat, HT.sIx_nat, Nat.min_eq_left hb, Nat.min_eq_left (show a ≤ xs.length by omega)]
section
variable {K : PySem.W.Frag} {σ : L2.St} {H : Hp} {te tl ta tb : TE} {E : XK} {ds : List PyData} {xs : List V} {L : Addr}
theorem eds_slice {a b : Nat} (h : Ev te σ H (.ref L)) (hL : H L = some (.lst xs)) (x : TDs H xs ds) (ha : Ev ta σ H (.int (a : Int))) (hb : Ev tb σ H (.int (b : Int))) (hab : a ≤ b) (hl : b ≤ ds.length) : EvDs (tSl (rSlL K) te (tPart ta) (tPart tb)) σ H ((ds.drop a).take (b - a)) := fun H1 e Q q =>
  h H1 e _ fun H2 e2 => ha H2 (e.trans e2) _ fun H3 e3 => ⟨_, rfl, hb H3 ((e.trans e2).trans e3) _ fun H4 e4 => ⟨_, rfl, L, xs, rfl, SqL.of ((((e.trans e2).trans e3).trans e4) _ _ hL), fun p hp => by
    have e24 := (e2.trans e3).trans e4
    rw [cut_mid xs hab (by rw [x.len]; exact hl)]
    exact q p _ _ (fresh_back e24 hp) (e24.trans (Ex.new hp)) upd_same (((x.drop a).take (b - a)).mono ((e.trans e24).trans (Ex.new hp)))⟩⟩
end
section
variable {P : Program} {w : World} {K : PySem.W.Frag} {mg : Str → Option Value} {base : Heap}
theorem scParted : FnScope ["pairs", "count", "many", "index"] ["pairs", "count"] (defScope sParted) := ⟨rfl, rfl, rfl, by decide +kernel, rfl, by decide +kernel, by decide +kernel⟩
theorem ok_parted {f : Addr} {fd : FuncData} (F : Fun K "_parted" "_parted" sParted f fd) (T : TB mg) : FnOk P w K mg base CX0 1 f fd ["pairs", "count"] spParted := by
  refine F.ok scParted (fun vs H Q E h => ?_) (fun cdv A' outer s H vs Q E hr h => ?_)
  · obtain ⟨L, xs, ds, c, rfl, _⟩ := h
    rfl
  · obtain ⟨L, xs, ds, c, rfl, hL, x, hl, h1, hc, k⟩ := h
    refine ⟨_, (pss_cons (ps_set (i := 2) scParted.nd rfl (Or.inr rfl) (pe_callB call_len_seq (by rfl) T.len PySem.boot_len (pa_cons (pv 0) pa_nil)))
      (pss_one (ps_ret (pe_lc (own := [("index", 3)]) (g := gName 3) (by rfl) scParted.nd (pi_range1 rfl T.range (pa_cons (pv 1) pa_nil))
            (blkOk_by (own := [("index", 3)]) (N := ["pairs", "count", "many", "index"]) (sc := defScope sParted) (by decide +kernel))
            (fun _ _ _ _ _ => pg_name (i := 3) scParted.nd rfl (Or.inl rfl)) (fun _ _ _ _ _ => pts_nil)
            (te := tSl (rSlL K) (tVar 0) (tPart (tOp (rI CDv fun i j => .int (i.fdiv j)) (tOp (rI CMulW fun i j => .int (i * j)) (tVar 2) (tVar 3)) (tVar 1))) (tPart (tOp (rI CDv fun i j => .int (i.fdiv j)) (tOp (rI CMulW fun i j => .int (i * j)) (tVar 2) (tOp (rI0 fun i j => .int (i + j)) (tVar 3) (tC (.int 1)))) (tVar 1))))
            (fun _ _ _ _ _ => by exact (pe_slice sl_list (pv 0) (po_some (pe_op op_dv (pe_op op_mulW (pv 2) (pv 3)) (pv 1))) (po_some (pe_op op_dv (pe_op op_mulW (pv 2) (pe_op op_add (pv 3) pe_int)) (pv 1))))))))), ?_⟩
    refine q_asg (ev_lenL (ld_of (ev_var rfl) hL x)) fun H1 e1 => ?_
    have bd : ∀ n : Nat, n ≤ 1000000 → Bd 30 (n : Int) := fun n hn => ⟨by rw [Int.natAbs_natCast]; exact Nat.lt_of_le_of_lt hn (by decide)⟩
    have z := ers_lcR (te := tSl (rSlL K) (tVar 0) (tPart (tOp (rI CDv fun i j => .int (i.fdiv j)) (tOp (rI CMulW fun i j => .int (i * j)) (tVar 2) (tVar 3)) (tVar 1))) (tPart (tOp (rI CDv fun i j => .int (i.fdiv j)) (tOp (rI CMulW fun i j => .int (i * j)) (tVar 2) (tOp (rI0 fun i j => .int (i + j)) (tVar 3) (tC (.int 1)))) (tVar 1))))
      (σ := [some (.ref L), some (.int (c : Int)), some (.int ((ds.length : Nat) : Int)), none]) (H := H1) (ta := tCons (tVar 1) tNil) (j := 3) (vs := [3]) (m := c) (fun i => (ds.drop (ds.length * i / c)).take (ds.length * (i + 1) / c - ds.length * i / c)) (ea_cons (ev_var rfl) ea_nil) (by omega) (fun _ => rfl) (fun i H2 e2 hi => ?_)
    · exact z H1 (Ex.refl _) _ fun p as H2 hp e2 h2 nw r => k p as H2 (fresh_back e1 hp) (e1.trans e2) h2 (fun a ha => fresh_back e1 (nw a ha)) r
    · have m1 : ds.length * i ≤ ds.length * (i + 1) := Nat.mul_le_mul_left _ (Nat.le_succ i)
      have m2 : ds.length * (i + 1) ≤ ds.length * c := Nat.mul_le_mul_left _ hi
      have m3 : ds.length * c ≤ 300 * 300 := Nat.mul_le_mul hl hc
      have d1 : ds.length * i / c ≤ ds.length * (i + 1) / c := Nat.div_le_div_right m1
      have d2 : ds.length * (i + 1) / c ≤ ds.length := by
        have := Nat.div_le_div_right (c := c) m2
        rw [Nat.mul_div_cancel _ (by omega)] at this
        exact this
      have fd : ∀ a : Nat, ((a : Int)).fdiv (c : Int) = ((a / c : Nat) : Int) := fun a => by
        rw [Int.fdiv_eq_ediv_of_nonneg _ (Int.natCast_nonneg c)]
        rfl
      have cd : CDv 0 (c : Int) := ⟨by omega, (bd c (by omega)).log (by decide)⟩
      refine eds_slice (ev_var rfl) ((e1.trans e2) _ _ hL) (x.mono (e1.trans e2)) (ev_is (ev_op (ev_op (ev_var rfl) (ev_var rfl) (rv_I ((bd _ (by omega)).mw (bd i (by omega)) (by decide)))) (ev_var rfl) (rv_I cd)) ?_) (ev_is (ev_op (ev_op (ev_var rfl) (ev_op (ev_var rfl) ev_c rv_I0) (rv_I ((bd _ (by omega)).mw (bd (i + 1) (by omega)) (by decide)))) (ev_var rfl) (rv_I cd)) ?_) d1 d2
      · show V.int (((ds.length : Int) * (i : Int)).fdiv (c : Int)) = _
        rw [← Int.natCast_mul, fd]
      · show V.int (((ds.length : Int) * ((i : Int) + 1)).fdiv (c : Int)) = _
        have e3 : (i : Int) + 1 = ((i + 1 : Nat) : Int) := by omega
        rw [e3, ← Int.natCast_mul, fd]
end
end Q
set_option Elab.async false
set_option linter.all false
set_option maxRecDepth 100000
set_option maxHeartbeats 4000000
/-! rows of at most four -/
namespace PB
def partsG {α : Type} (l : List α) (c : Nat) : List (List α) := (List.range c).map fun i => (l.drop (l.length * i / c)).take (l.length * (i + 1) / c - l.length * i / c)
theorem take_mid {α : Type} (l : List α) {a b : Nat} (h : a ≤ b) : l.take a ++ (l.drop a).take (b - a) = l.take b := by
  have e : b = a + (b - a) := by omega
  conv => rhs; rw [e, List.take_add]
theorem parts_flat {α : Type} (l : List α) (c : Nat) : ∀ i, ((List.range i).map fun i => (l.drop (l.length * i / c)).take (l.length * (i + 1) / c - l.length * i / c)).flatten = l.take (l.length * i / c)
  | 0 => by simp
  | i + 1 => by
    rw [List.range_succ, List.map_append, List.flatten_append, parts_flat l c i]
    show l.take _ ++ ((l.drop (l.length * i / c)).take (l.length * (i + 1) / c - l.length * i / c) ++ []) = _
    rw [List.append_nil]
    exact take_mid l (Nat.div_le_div_right (Nat.mul_le_mul_left _ (Nat.le_succ i)))
theorem parts_all {α : Type} (l : List α) {c : Nat} (h : 1 ≤ c) : (partsG l c).flatten = l := by
  unfold partsG
  rw [parts_flat l c c, Nat.mul_div_cancel _ (by omega), List.take_length]
def rowsN (m : Nat) : Nat := max 1 ((m + 3) / 4)
theorem size_ok : ∀ m, m < 16 → ∀ i, i < rowsN m → (m * (i + 1) / rowsN m - m * i / rowsN m ≤ 4 ∧ (1 ≤ m → 1 ≤ m * (i + 1) / rowsN m - m * i / rowsN m) ∧ (5 ≤ m → 2 ≤ m * (i + 1) / rowsN m - m * i / rowsN m)) ∧ m * (i + 1) / rowsN m ≤ m := by decide
theorem part_ok {α : Type} {l : List α} (h : l.length ≤ 15) : ∀ r ∈ partsG l (rowsN l.length), r.length ≤ 4 ∧ (l ≠ [] → r ≠ []) ∧ (5 ≤ l.length → 2 ≤ r.length) := fun r hr => by
  obtain ⟨i, hi, rfl⟩ := List.mem_map.mp hr
  obtain ⟨⟨h1, h2, h4⟩, h3⟩ := size_ok l.length (by omega) i (List.mem_range.mp hi)
  have e : ((l.drop (l.length * i / rowsN l.length)).take (l.length * (i + 1) / rowsN l.length - l.length * i / rowsN l.length)).length = l.length * (i + 1) / rowsN l.length - l.length * i / rowsN l.length := by
    rw [List.length_take, List.length_drop]
    omega
  refine ⟨by rw [e]; exact h1, fun hn z => ?_, fun q => by rw [e]; exact h4 q⟩
  have l1 : 1 ≤ l.length := List.length_pos_iff.mpr hn
  have := h2 l1
  rw [z] at e
  rw [List.length_nil] at e
  omega
end PB
namespace Q
open PySem L2 PySem.Spec PyProof.Rows PySem.Calls
open Evl PB
theorem parts_map {α : Type} (f : α → PyData) (l : List α) (c : Nat) : parts (l.map f) c = (partsG l c).map fun r => r.map f := by
  unfold parts partsG
  rw [List.map_map]
  refine List.map_congr_left fun i _ => ?_
  show _ = List.map f _
  rw [List.length_map, List.map_take, List.map_drop]
section
variable {X : Cx}
/-- isqrt(1), isqrt(2) -/
def rIsq1 : List V → Hp → VK → Prop := fun vs H Q => ∃ a : Int, vs = [.int a] ∧ (a = 1 ∨ a = 2 ∨ a = 3) ∧ Q (.int 1) H
theorem cr_isq1 : CallR X (.builtin "math.isqrt") rIsq1 := by
  intro pins s σ H vs us Q I r h
  obtain ⟨a, rfl, ha, q⟩ := h
  cases r with
  | cons r1 r =>
    cases r
    obtain ⟨t, rfl⟩ := r1
    rcases ha with rfl | rfl | rfl
    · exact PySem.W.mg_isqrt_v (c := 1) (by decide) (by decide) (by decide +kernel) ⟨.int 1, H, I.tok _, ⟨_, rfl⟩, q⟩
    · exact PySem.W.mg_isqrt_v (c := 1) (by decide) (by decide) (by decide +kernel) ⟨.int 1, H, I.tok _, ⟨_, rfl⟩, q⟩
    · exact PySem.W.mg_isqrt_v (c := 1) (by decide) (by decide) (by decide +kernel) ⟨.int 1, H, I.tok _, ⟨_, rfl⟩, q⟩
end
def spRowsOf : Sp := fun vs H Q _ => ∃ (L : Addr) (xs : List V) (ps : List (Bx × PyData)), vs = [.ref L] ∧ H L = some (.lst xs) ∧ TDs H xs (ps.map prD) ∧ ps.length ≤ 15 ∧
  ∀ (l : Addr) (as : List Addr) (rss : List (List (Bx × PyData))) H', H l = none → Ex H H' → H' l = some (.lst (as.map V.ref)) → RwA H' as (rss.map fun r => r.map prD) → rss.flatten.Perm ps → (∀ r ∈ rss, r.length ≤ 4 ∧ (ps ≠ [] → r ≠ []) ∧ (5 ≤ ps.length → 2 ≤ r.length)) → rss.length = rowsN ps.length → Q (.ref l) H'
section
variable {K : PySem.W.Frag} {σ : L2.St} {H : Hp} {te tl ta tb tc : TE} {E : XK}
theorem go_inord {ps : List (Bx × PyData)} {ax : Int} (h : EvLd tl σ H (ps.map prD)) (hl : ps.length ≤ 300) (ha : Ev ta σ H (.int ax)) (hax : ax = 0 ∨ ax = 1) {H1 : Hp} (e : Ex H H1) {Q : VK}
    (q : ∀ (p : Addr) (ys : List V) (qs : List (Bx × PyData)) H2, H1 p = none → Ex H1 H2 → H2 p = some (.lst ys) → TDs H2 ys (qs.map prD) → qs.Perm ps → Q (.ref p) H2) : tCall spInOrd [] E (tCons tl (tCons ta tNil)) σ H1 Q :=
  h H1 e _ fun L xs H2 e2 hL x => ha H2 (e.trans e2) _ fun H3 e3 => ⟨L, xs, ps, ax, rfl, e3 _ _ hL, x.mono e3, hl, hax, fun l ys qs H4 hl4 e4 h4 y pm => q l ys qs H4 (fresh_back (e2.trans e3) hl4) ((e2.trans e3).trans e4) h4 y pm⟩
end
section
variable {P : Program} {w : World} {K : PySem.W.Frag} {mg : Str → Option Value} {base : Heap}
theorem scRowsOf : FnScope ["pairs", "count", "rows", "column"] ["pairs"] (defScope sRowsOf) := ⟨rfl, rfl, rfl, by decide +kernel, rfl, by decide +kernel, by decide +kernel⟩
structure TSq (mg : Str → Option Value) : Prop where
  isqrt : mg "isqrt" = some (.builtin "math.isqrt")
theorem ok_rowsof {f : Addr} {fd : FuncData} (F : Fun K "_rows_of" "_rows_of" sRowsOf f fd) (T : TB mg) (G : TGl mg) (S : TSq mg) (CI : Cl P w K mg base 1 "_in_order" spInOrd) (CP : Cl P w K mg base 1 "_parted" spParted) : FnOk P w K mg base CX0 2 f fd ["pairs"] spRowsOf := by
  obtain ⟨t4, g4⟩ := G.most
  refine F.ok scRowsOf (fun vs H Q E h => ?_) (fun cdv A' outer s H vs Q E hr h => ?_)
  · obtain ⟨L, xs, ps, rfl, _⟩ := h
    rfl
  · obtain ⟨L, xs, ps, rfl, hL, x, hl, k⟩ := h
    refine ⟨_, (pss_cons (ps_set (i := 1) scRowsOf.nd rfl (Or.inl rfl) (pe_callBfun cr_isq1 (by rfl) S.isqrt (pa_cons (pe_callB (call_max2 rfl) (by rfl) T.max (by decide +kernel) (pa_cons (pe_int) (pa_cons (pe_op op_dv (pe_callB call_len_seq (by rfl) T.len PySem.boot_len (pa_cons (pv 0) pa_nil)) (pe_glob (v := .int 4) (by rfl) g4 ⟨_, rfl⟩)) pa_nil))) pa_nil)))
      (pss_cons (ps_set (i := 2) scRowsOf.nd rfl (Or.inl rfl) (pe_lst pa_nil))
      (pss_cons (ps_for PassesOwn.never rfl (pi_list (pe_cl CP hr (by decide) (by rfl) (pa_cons (pe_cl CI hr (by decide) (by rfl) (pa_cons (pv 0) (pa_cons (pe_int) pa_nil))) (pa_cons (pv 1) pa_nil)))) (pg_name (i := 3) scRowsOf.nd rfl (Or.inl rfl))
        (pss_one (ps_expr (pe_bm PySem.F.plainAttrs_list PySem.F.slot_list_extend PySem.F.type_list_extend mt_extend (pv 2) (pa_cons (pe_cl CP hr (by decide) (by rfl) (pa_cons (pe_cl CI hr (by decide) (by rfl) (pa_cons (pv 3) (pa_cons (pe_int) pa_nil))) (pa_cons (pe_callB (call_max2 rfl) (by rfl) T.max (by decide +kernel) (pa_cons (pe_int) (pa_cons (pe_un un_neg (pe_op op_dv (pe_un un_neg (pe_callB call_len_seq (by rfl) T.len PySem.boot_len (pa_cons (pv 3) pa_nil))) (pe_glob (v := .int 4) (by rfl) g4 ⟨_, rfl⟩))) pa_nil))) pa_nil))) pa_nil)))))
      (pss_one (ps_ret (pv 2)))))), ?_⟩
    have cd : ∀ n : Int, CDv n 4 := fun n => ⟨by decide, by decide⟩
    have isq : Ev (tCB rIsq1 (tCons (tCB (fun xs H Q => ∃ i j, xs = [.int i, .int j] ∧ Q (.int (if j > i then j else i)) H) (tCons (tC (.int 1)) (tCons (tOp (rI CDv fun i j => .int (i.fdiv j)) (tCB (rLn K) (tCons (tVar 0) tNil)) (tC (.int 4))) tNil))) tNil)) [some (.ref L), none, none, none] H (.int 1) := ev_cb (ea_cons (ev_max2' ev_c (ev_op (ev_lenL (ld_of (ev_var rfl) hL x)) ev_c (rv_I (cd _)))) ea_nil) fun H1 e1 Q q => ⟨_, rfl, by
      rw [List.length_map]
      have : ((ps.length : Nat) : Int).fdiv 4 = ((ps.length / 4 : Nat) : Int) := by
        rw [Int.fdiv_eq_ediv_of_nonneg _ (by decide)]
        rfl
      rw [this]
      omega, q H1 (Ex.refl _)⟩
    refine q_asg isq fun H1 e1 => ?_
    refine q_asgDs (ds := []) (eds_lst da_nil (by decide)) fun R xr H2 e2 hR0 hR xr0 => ?_
    cases xr0.inv0
    have e12 := e1.trans e2
    refine go_inord (ld_of (ev_var rfl) (e12 _ _ hL) (x.mono e12)) (by omega) ev_c (.inl rfl) (Ex.refl H2) fun p1 y1 qs H3 hp1 e3 h3 t1 pm1 => ?_
    refine ⟨_, rfl, p1, y1, qs.map prD, 1, rfl, h3, t1, by rw [List.length_map, pm1.length_eq]; omega, Nat.le_refl _, by decide, fun p2 as2 H4 hp2 e4 h4 _ r4 => ?_⟩
    have e24 := Ex.trans e3 e4
    have pr1 : parts (qs.map prD) 1 = [qs.map prD] := by
      show [((qs.map prD).drop ((qs.map prD).length * 0 / 1)).take ((qs.map prD).length * (0 + 1) / 1 - (qs.map prD).length * 0 / 1)] = _
      rw [Nat.mul_zero, Nat.zero_div, List.drop_zero, Nat.zero_add, Nat.mul_one, Nat.div_one, Nat.sub_zero, List.take_length]
    rw [pr1] at r4
    obtain ⟨a, xa, ha, hxa, ta⟩ := r4.at (i := 0) (ds := qs.map prD) rfl
    have al : as2.length = 1 := r4.len
    have eas : as2 = [a] := by
      match as2, al, ha with
      | [b], _, ha =>
        cases ha
        rfl
    subst eas
    have hR4 := e24 _ _ hR
    have nR : p2 ≠ R := fun z => by
      rw [z, e3 _ _ hR] at hp2
      cases hp2
    refine ⟨p2, rfl, ⟨_, SqL.of h4⟩, for_list (xs := [V.ref a]) (fun i σ' H' => (i = 0 ∧ σ' = [some (.ref L), some (.int 1), some (.ref R), none] ∧ H' = H4) ∨ (i = 1 ∧ ∃ (r : Option V) (as : List Addr) (us : List (Bx × PyData)), σ' = [some (.ref L), some (.int 1), some (.ref R), r] ∧ us.Perm ps ∧ Mx R H4 H' ∧ H' R = some (.lst (as.map V.ref)) ∧ RwA H' as (parts (us.map prD) (rowsN ps.length)))) (.inl ⟨rfl, rfl, rfl⟩) (fun i σ' H' _ c => ?_) (fun i v σ' H' hv c => ?_) fun σ' H' c => ?_⟩
    · rcases c with ⟨_, _, rfl⟩ | ⟨_, r, as, us, _, _, mx, _⟩
      · exact SqL.of h4
      · exact SqL.of (mx _ _ nR h4)
    · rcases c with ⟨rfl, rfl, rfl⟩ | ⟨rfl, _⟩
      · cases hv
        refine ⟨_, rfl, .inl ⟨rfl, _, SqL.of hR4⟩, ?_⟩
        refine go_inord (σ := [some (.ref L), some (.int 1), some (.ref R), some (.ref a)]) (ld_of (ev_var rfl) hxa ta) (by rw [pm1.length_eq]; omega) ev_c (.inr rfl) (Ex.refl _) fun p3 y3 us H5 hp3 e5 h5 t5 pm5 => ?_
        have cl : Ev (tCB (fun xs H Q => ∃ i j, xs = [.int i, .int j] ∧ Q (.int (if j > i then j else i)) H) (tCons (tC (.int 1)) (tCons (tUn (rU fun i => .int (-i)) (tOp (rI CDv fun i j => .int (i.fdiv j)) (tUn (rU fun i => .int (-i)) (tCB (rLn K) (tCons (tVar 3) tNil))) (tC (.int 4)))) tNil))) [some (.ref L), some (.int 1), some (.ref R), some (.ref a)] H5 (.int ((rowsN ps.length : Nat) : Int)) := ev_is (ev_max2' ev_c (ev_un (ev_op (ev_un (ev_lenL (ld_of (ev_var rfl) (e5 _ _ hxa) (ta.mono e5))) ru_neg) ev_c (rv_I (cd _))) ru_neg)) (by
          rw [List.length_map, pm1.length_eq]
          have : (-((ps.length : Nat) : Int)).fdiv 4 = -(((ps.length + 3) / 4 : Nat) : Int) := by
            rw [Int.fdiv_eq_ediv_of_nonneg _ (by decide)]
            omega
          rw [this, Int.neg_neg]
          unfold rowsN
          congr 1
          omega)
        refine cl H5 (Ex.refl _) _ fun H6 e6 => ?_
        have pu := pm5.trans pm1
        refine ⟨p3, y3, us.map prD, rowsN ps.length, rfl, e6 _ _ h5, t5.mono e6, by rw [List.length_map, pu.length_eq]; omega, by unfold rowsN; omega, by unfold rowsN; omega, fun p4 as H7 hp4 e7 h7 nw r7 => ?_⟩
        have e47 := (e5.trans e6).trans e7
        have hR7 := e47 _ _ hR4
        have rl := r7.len
        refine ⟨R, p4, [], as.map V.ref, rfl, rfl, hR7, h7, sz_of (by
          rw [List.length_map, rl]
          show 0 + ((List.range (rowsN ps.length)).map _).length ≤ 100000
          rw [List.length_map, List.length_range]
          unfold rowsN
          omega), .inr ⟨rfl, _, as, us, rfl, pu, ?_, upd_same, ?_⟩⟩
        · exact Mx.upd fun l o n q => e47 l o q
        · have nin : R ∉ as := fun hm => by
            have := nw R hm
            rw [(e5.trans e6) _ _ hR4] at this
            cases this
          exact r7.mx (fun l o n q => by rw [upd_ne n]; exact q) hR7 nin
      · cases hv
    · rcases c with ⟨z, _⟩ | ⟨_, r, as, us, rfl, pu, mx, hR5, r5⟩
      · cases z
      · refine ⟨_, rfl, ?_⟩
        have eH : Ex H H' := fun l o q => mx l o (fun z => by
          rw [z] at q
          rw [e1 _ _ q] at hR0
          cases hR0) (e24 _ _ (e12 _ _ q))
        rw [parts_map] at r5
        have rn : 1 ≤ rowsN us.length := by unfold rowsN; omega
        rw [← pu.length_eq] at r5
        have po := part_ok (l := us) (by rw [pu.length_eq]; exact hl)
        refine k R as (partsG us (rowsN us.length)) H' (fresh_back e1 hR0) eH hR5 r5 (by rw [parts_all us rn]; exact pu) (fun r hr => ⟨(po r hr).1, fun hn => (po r hr).2.1 fun z => hn (by rw [z] at pu; exact List.Perm.eq_nil pu.symm), fun q => (po r hr).2.2 (by rw [pu.length_eq]; exact q)⟩) ?_
        unfold partsG
        rw [List.length_map, List.length_range, pu.length_eq]
end
end Q
set_option Elab.async false
set_option linter.all false
set_option maxRecDepth 100000
set_option maxHeartbeats 4000000
/-! sorted of a list, or a tuple, of pairs of an int and a tuple, no int twice -/
namespace Fx
open PySem PyProof.Rows
def TupF (h : Heap) (v : Value) (n : Int) : Prop := ∃ (a b : Addr) (t : Tok) (o : Obj) (e : Nat), v = .ref a ∧ h.get? a = some o ∧ o.cls = .type "tuple" ∧ o.data = .seq #[.int n t, .ref b] e
section
variable {prog : Program} {w : World} {A : Around} {E : Value → Shared → Prop} {s : Shared}
theorem eq_self {a : Addr} {Q : Bool → Shared → Prop} (h : Q true s) : wpAny (model prog w) A (eqBool (.ref a) (.ref a)) Q E s := by
  unfold eqBool
  refine wpAny_holding ?_
  show wpAny _ _ (if (Value.ref a == Value.ref a) = true then _ else _) Q E s
  rw [if_pos (beq_self_eq_true _)]
  exact wpAny_bind (wpAny_rule (wpAny_pure h))
theorem swoF (k : Value → Int) : SrtO.Swo fun v u => decide (k v < k u) := ⟨fun _ _ h => by
    have := of_decide_eq_true h
    exact decide_eq_false (by omega), fun _ _ _ h1 h2 => by
    have := of_decide_eq_false h1
    have := of_decide_eq_false h2
    exact decide_eq_false (by omega)⟩
theorem headsF {h : Heap} {k : Value → Int} : ∀ vs : List Value, (∀ v ∈ vs, TupF h v (k v)) → ∃ fs, PySem.W.KatTups h vs fs ∧ fs.length = vs.length ∧ ∀ f, f ∈ fs → ∃ n t, f = Value.int n t
  | [], _ => ⟨[], PySem.W.KatTups.nil, rfl, fun f hf => by simp at hf⟩
  | v :: vs, x => by
    obtain ⟨fs, kt, hl, hi⟩ := headsF vs fun u hu => x u (List.mem_cons_of_mem _ hu)
    obtain ⟨a, b, t, o, e, rfl, ho, hc, hd⟩ := x v List.mem_cons_self
    refine ⟨.int (k (.ref a)) t :: fs, PySem.W.KatTups.cons ho hc hd rfl kt, by simp [hl], fun f hf => ?_⟩
    rcases List.mem_cons.mp hf with rfl | hf
    · exact ⟨_, _, rfl⟩
    · exact hi f hf
theorem sortF {a : Addr} {vs : List Value} {k : Value → Int} (h0 : 0 < vs.length) (hp : ∀ v ∈ vs, TupF s.heap v (k v)) (inj : ∀ u ∈ vs, ∀ v ∈ vs, k u = k v → u = v) (ha : ∀ o, s.heap.get? a = some o → o.cls ≠ .type "tuple") : SrtO.SortableO prog w A s a vs fun v u => decide (k v < k u) := by
  intro h1 keep
  have hq : ∀ v ∈ vs, TupF h1 v (k v) := fun v hv => by
    obtain ⟨c, b, t, o, e, e1, ho, hc, hd⟩ := hp v hv
    exact ⟨c, b, t, o, e, e1, keep c o (fun z => by subst z; exact ha o ho hc) ho, hc, hd⟩
  obtain ⟨fs, k1, k2, k3⟩ := headsF vs hq
  refine ⟨tuples' true, fun Q E hQ => PySem.W.kat_kind (T := .type "int") k1 (by omega) (fun f hm => ?_) (by rfl) ?_, fun p q hm hm' => ?_⟩
  · obtain ⟨x, t, rfl⟩ := k3 f hm
    exact PySem.W.Looks.now
  · rw [show (Value.type "int" != Value.type "tuple") = true by first | decide +kernel | rfl | decide]
    exact hQ
  · obtain ⟨a1, b1, t1, o1, n1, e1, ho1, hc1, hd1⟩ := hq _ hm
    obtain ⟨a2, b2, t2, o2, n2, e2, ho2, hc2, hd2⟩ := hq _ hm'
    show wpAny (model prog w) A (keyLt' (tuples' true) p.1 q.1) (fun r s' => s' = _ ∧ r = decide (k p.1 < k q.1)) (fun _ _ => False) _
    have same := inj _ hm _ hm'
    generalize k p.1 = n at hd1 same ⊢
    generalize k q.1 = m at hd2 same ⊢
    rw [e1, e2] at same
    rw [e1, e2]
    refine PySem.W.kat_lt ho1 hd1 ho2 hd2 ?_
    refine PySem.W.kat_cons (wpAny_eqBool_int ?_)
    by_cases c : n = m
    · rw [show (n == m) = true from beq_iff_eq.mpr c]
      refine PySem.W.kat_yes (PySem.W.kat_cons ?_)
      have e3 := same c
      injection e3 with e3
      subst e3
      have e4 := ho1.symm.trans ho2
      cases e4
      have e5 := hd1.symm.trans hd2
      injection e5 with e5
      have e6 : (Value.ref b1) = Value.ref b2 := by
        have z := congrArg (fun x : Array Value => x[1]?) e5
        simpa using z
      rw [e6]
      refine eq_self (PySem.W.kat_yes (PySem.W.kat_nil ⟨rfl, ?_⟩))
      subst c
      rw [decide_eq_false (Int.lt_irrefl n)]
      exact decide_eq_false (by show ¬ 2 < 2; omega)
    · rw [show (n == m) = false from beq_eq_false_iff_ne.mpr c]
      exact PySem.W.kat_no (TS.oneLt_ints _ ⟨rfl, rfl⟩)
/-- a tuple's items, gathered -/
theorem gathered {l : Addr} {vs : List Value} {Q : List Value → Shared → Prop} (hl : s.heap.IsTuple l vs.toArray) (hz : vs.length ≤ sizeLine)
    (hq : Q vs { s with heap := (s.heap.push (seqObj "list" #[] 0)).update s.heap.objs.size (Obj.mapSeq (· ++ vs.toArray)) }) : wpAny (model prog w) A (collect (.ref l)) Q E s := by
  obtain ⟨o, ho, hc, n, hd⟩ := id hl
  have ho2 : (s.heap.push (seqObj "list" #[] 0)).get? l = some o := Heap.get?_push_of_some _ ho
  unfold collect
  refine wpAny_bind (wpAny_runValue (codeAny_builtin entry_proto_collect' (show wpAny _ _ (do again (.builtin "list.__iadd__" ⟨[← newList [], .ref l], []⟩)) _ _ s from
    wpAny_bind (wpAny_newList (wpAny_pure ⟨Code.quiet_builtin _ (by decide +kernel), codeAny_builtin entry_list_iadd' ?_⟩)))))
  show wpAny _ _ (Builtin.List.listExtendWith (.ref s.heap.objs.size) (.ref l) (.ref s.heap.objs.size)) _ _ { s with heap := s.heap.push (seqObj "list" #[] 0) }
  unfold Builtin.List.listExtendWith
  refine wpAny_bind (wpAny_typeOf (T := "tuple") ⟨o, ho2, hc⟩ ?_)
  rw [if_pos (by rw [show (Value.type "tuple" == Value.type "tuple") = true by rfl]; simp)]
  refine wpAny_bind (listItems_at ho2 hd (wpAny_bind (listItems_at (xs := #[]) (n := 0) (Heap.get?_push_size _ rfl) rfl ?_)))
  rw [if_neg (by simp)]
  refine wpAny_bind (listUpdate_at (xs := #[]) (n := 0) (Heap.get?_push_size _ rfl) rfl (wpAny_pure ?_) (Nat.zero_le _) (by show (#[] ++ vs.toArray).size ≤ sizeLine + 1; simp only [Array.size_append, List.size_toArray, List.length_nil]; omega))
  show wpAny (model prog w) A (do
      let ob ← load s.heap.objs.size
      match ob.data with
      | .seq ys _ => pure ys.toList
      | _ => unsupported "internal:collect") Q E { s with heap := (s.heap.push (seqObj "list" #[] 0)).update s.heap.objs.size (Obj.mapSeq (· ++ vs.toArray)) }
  refine wpAny_bind (wpAny_load (get?_update_seq (Heap.get?_push_size _ rfl) _) (show wpAny _ _ (pure ((#[] : Array Value) ++ vs.toArray).toList) Q E _ from ?_))
  rw [show ((#[] : Array Value) ++ vs.toArray).toList = vs by simp]
  exact wpAny_pure hq
/-- sorted(tuple): the new list behind the gathered one -/
theorem sorted_of {l : Addr} {vs : List Value} {ltv : Value → Value → Bool} {Q : Value → Shared → Prop} (O : SrtO.Swo ltv) (hg : ∀ {B : Around} {Q' : List Value → Shared → Prop} {E' : Value → Shared → Prop}, Q' vs { s with heap := (s.heap.push (seqObj "list" #[] 0)).update s.heap.objs.size (Obj.mapSeq (· ++ vs.toArray)) } → wpAny (model prog w) B (collect (.ref l)) Q' E' s) (hz : vs.length ≤ sizeLine)
    (hS : 2 ≤ vs.length → ∀ (h1 : Heap) (a : Addr), h1.get? a = some (seqObj "list" vs.toArray 0) → (∀ b o, s.heap.get? b = some o → b ≠ a ∧ h1.get? b = some o) → SrtO.SortableO prog w A.in1.in1 { s with heap := h1 } a vs ltv)
    (hq : ∀ out : List Value, SrtO.Srtd ltv out → SrtO.Stb ltv out vs → Q (.ref (s.heap.objs.size + 1)) { s with heap := sortedAll s.heap vs out.toArray }) : wpAny (model prog w) A (call (.builtin "sorted") [.ref l]) Q E s := by
  refine Calls.call_function_entry kind_sorted plain_sorted entry_sorted (args_sorted1 _) (by
    unfold Builtin.«sorted»
    refine wpAny_bind (m := checkCount "sorted" 1 1 _) (wpAny_pure (wpAny_bind (hg (wpAny_bind (wpAny_newList ?_ hz)))))
    have e1 : ((s.heap.push (seqObj "list" #[] 0)).update s.heap.objs.size (Obj.mapSeq (· ++ vs.toArray))).objs.size = s.heap.objs.size + 1 := by rw [Heap.size_update, size_push']
    generalize hh : (s.heap.push (seqObj "list" #[] 0)).update s.heap.objs.size (Obj.mapSeq (· ++ vs.toArray)) = h1 at e1 ⊢
    have at1 : (h1.push (seqObj "list" vs.toArray 0)).get? (s.heap.objs.size + 1) = some (seqObj "list" vs.toArray 0) := by rw [← e1]; exact Heap.get?_push_size _ rfl
    have old : ∀ b o, s.heap.get? b = some o → b ≠ s.heap.objs.size + 1 ∧ (h1.push (seqObj "list" vs.toArray 0)).get? b = some o := fun b o q => by
      have lt : b < s.heap.objs.size := Heap.lt_size q
      refine ⟨Nat.ne_of_lt (Nat.lt_succ_of_lt lt), Heap.get?_push_of_some _ (by
        rw [← hh, Heap.get?_update_ne _ _ _ _ (Nat.ne_of_lt lt)]
        exact Heap.get?_push_of_some _ q)⟩
    show wpAny _ _ _ _ _ { s with heap := h1.push (seqObj "list" vs.toArray 0) }
    rw [e1]
    refine wpAny_bind (wpAny_holding (wpAny_call_entry slot_list_sort ⟨_, at1, rfl⟩ entry_list_sort (SrtO.list_sort_ord O at1 hz (fun h2 => hS h2 _ _ at1 old) fun out o1 o2 => ⟨_, rfl, wpAny_pure ⟨_, rfl, ?_⟩⟩) (args_list_sort _)))
    have z := hq out o1 o2
    unfold sortedAll at z
    rw [hh] at z
    exact z)
end
end Fx
namespace L2
open PySem PySem.Spec PyProof.Rows
/-- sorted(xs) of pairs of an int and a tuple, no int twice; xs a list or a tuple -/
def rSortF (K : PySem.W.Frag) : List V → Hp → VK → Prop := fun vs H Q => ∃ (a : Addr) (xs : List V) (k : V → Int), vs = [V.ref a] ∧ (SqL K H a xs ∨ SqT K H a xs) ∧ (∀ x ∈ xs, ∃ t b, x = .ref t ∧ SqT K H t [.int (k x), .ref b]) ∧ (∀ x ∈ xs, ∀ y ∈ xs, k x = k y → x = y) ∧
  ∀ ys p, ys.Perm xs → ys.Pairwise (fun x y => decide (k y < k x) = false) → H p = none → Q (.ref p) (upd H p (.lst ys))
section
variable {X : Cx}
theorem cr_sortF : CallR X (.builtin "sorted") (rSortF X.K) := by
  intro pins s σ H vs us Q I r h
  obtain ⟨a, xs, k, rfl, hs, hx, inj, q⟩ := h
  rw [Vals.ref1 r]
  have go : ∀ its : List Value, Vals xs its → xs.length ≤ sizeLine → (∀ {B : Around} {Q' : List Value → Shared → Prop} {E' : Value → Shared → Prop}, Q' its { s with heap := (s.heap.push (seqObj "list" #[] 0)).update s.heap.objs.size (Obj.mapSeq (· ++ its.toArray)) } → wpAny (model X.prog X.w) B (collect (.ref a)) Q' E' s) →
      wpAny (model X.prog X.w) X.A (call (.builtin "sorted") [.ref a]) (EP X pins σ Q) X.xe s := fun its rv hz hg => by
    obtain ⟨e1, e2⟩ := bkV_refs rv fun x m => by
      obtain ⟨t, b, e, _⟩ := hx x m
      exact ⟨t, e⟩
    have hT : ∀ v ∈ its, Fx.TupF s.heap v (k (bkV v)) := fun v hv => by
      obtain ⟨t, rfl⟩ := e2 v hv
      have hm : V.ref t ∈ xs := by
        rw [e1]
        exact List.mem_map.mpr ⟨_, hv, rfl⟩
      obtain ⟨t', b, e, ht⟩ := hx _ hm
      cases e
      obtain ⟨its2, r2, ⟨o, ho, hc, n, hd⟩, _⟩ := I.tuple ht
      cases r2 with
      | cons ra r2 =>
        cases r2 with
        | cons rb r2 =>
          cases r2
          obtain ⟨tk, rfl⟩ := ra
          cases rb
          exact ⟨t, b, tk, o, n, rfl, ho, hc, hd⟩
    have hi : ∀ u ∈ its, ∀ v ∈ its, k (bkV u) = k (bkV v) → u = v := fun u hu v hv e => by
      obtain ⟨t, rfl⟩ := e2 u hu
      obtain ⟨t', rfl⟩ := e2 v hv
      have m1 : V.ref t ∈ xs := by
        rw [e1]
        exact List.mem_map.mpr ⟨_, hu, rfl⟩
      have m2 : V.ref t' ∈ xs := by
        rw [e1]
        exact List.mem_map.mpr ⟨_, hv, rfl⟩
      have z := inj _ m1 _ m2 e
      injection z with z
      rw [z]
    refine Fx.sorted_of (Fx.swoF fun u => k (bkV u)) hg (by rw [← rv.length]; exact hz) (fun h2 h1 b hb kk => Fx.sortF (s := { s with heap := h1 }) (by omega) (fun v hm => ?_) hi fun o e => ?_) fun out o1 o2 => ?_
    · obtain ⟨c, b, t, o, n, e, ho, hc, hd⟩ := hT v hm
      exact ⟨c, b, t, o, n, e, (kk c o ho).2, hc, hd⟩
    · have e' : some o = some (seqObj "list" its.toArray 0) := e.symm.trans hb
      cases e'
      intro c
      exact absurd (Value.type.inj c) (by decide)
    · obtain ⟨ep, he'⟩ := PyProof.Rows.sortedAll_at s.heap its out.toArray
      have h3 : ∀ u ∈ out, ∃ a, u = Value.ref a := fun u hu => e2 u (o2.perm.mem_iff.mp hu)
      have hp : (out.map bkV).Perm xs := by
        rw [e1]
        exact o2.perm.map bkV
      exact ⟨.ref _, upd H (s.heap.objs.size + 1) (.lst (out.map bkV)), I.laid (t' := s.toks) (fun _ _ => PyProof.Rows.sortedAll_old) (Nat.le_succ _) ⟨by rw [hp.length_eq]; exact hz, out, ep, bkV_vals h3, he'⟩, rfl, q _ _ hp (by rw [List.pairwise_map]; exact o1) (I.hok.fresh (Nat.le_succ _))⟩
  rcases hs with hs | hs
  · obtain ⟨its, rv, hl, hz⟩ := I.list hs
    exact go its rv hz fun hq => collect_list hl.isList hq (by rw [← rv.length]; exact hz)
  · obtain ⟨its, rv, hl, hz⟩ := I.tuple hs
    exact go its rv hz fun hq => Fx.gathered hl (by rw [← rv.length]; exact hz) hq
end
end L2
set_option Elab.async false
set_option linter.all false
set_option maxRecDepth 100000
set_option maxHeartbeats 4000000
/-! packed -/
namespace Q
open PySem L2 PySem.Spec PyProof.Rows PySem.Calls
open Evl PB
abbrev sPacked : Stmt := top 21
/-- a tuple that tells so, laid by the program or standing in its text -/
def SeqD (K : PySem.W.Frag) (H : Hp) (v : V) (ds : List PyData) : Prop := ∃ a xs, v = .ref a ∧ SqT K H a xs ∧ TDs H xs ds ∧ ∀ H', Ex H H' → TyX K H' (.ref a) (.type "tuple")
theorem SeqD.of {K : PySem.W.Frag} {H : Hp} {v : V} {ds : List PyData} (h : TD1 H v (.tuple ds)) : SeqD K H v ds := by
  obtain ⟨a, xs, rfl, ha, x⟩ := h.tup
  exact ⟨a, xs, rfl, SqT.of ha, x, fun H' e => .base (.tup (e _ _ ha))⟩
theorem SeqD.mono {K : PySem.W.Frag} {H H' : Hp} (e : Ex H H') {v : V} {ds : List PyData} (h : SeqD K H v ds) : SeqD K H' v ds := by
  obtain ⟨a, xs, rfl, ha, x, t⟩ := h
  exact ⟨a, xs, rfl, ex_t e ha, x.mono e, fun H2 e2 => t H2 (e.trans e2)⟩
/-- gives some list or tuple that tells so -/
def EvSq (K : PySem.W.Frag) (te : TE) (σ : L2.St) (H : Hp) (ds : List PyData) : Prop := ∀ H1, Ex H H1 → ∀ Q : VK, (∀ a xs H2, Ex H1 H2 → TDs H2 xs ds → (SqL K H2 a xs ∨ SqT K H2 a xs) → Q (.ref a) H2) → te σ H1 Q
section
variable {K : PySem.W.Frag} {σ : L2.St} {H : Hp} {te tl tb : TE} {g : TG} {vs : List Nat} {E : XK}
/-- sorted of entries told by some list or tuple: in some order -/
theorem go_sortF {es : List (Int × Bx)} (h : EvSq K te σ H (es.map entD)) (nd : (es.map (·.1)).Nodup) {H1 : Hp} (e : Ex H H1) {Q : VK}
    (q : ∀ (p : Addr) (ys : List V) (qs : List (Int × Bx)) H2, H1 p = none → Ex H1 H2 → H2 p = some (.lst ys) → TDs H2 ys (qs.map entD) → qs.Perm es → qs.Pairwise (fun a b => a.1 ≤ b.1) → Q (.ref p) H2) : tCB (rSortF K) (tCons te tNil) σ H1 Q := by
  have go : ∀ (a : Addr) (xs : List V) H2, Ex H1 H2 → TDs H2 xs (es.map entD) → (SqL K H2 a xs ∨ SqT K H2 a xs) → rSortF K [.ref a] H2 Q := fun a xs H2 e2 x hs => by
    have one : ∀ v ∈ xs, ∃ t b n, v = V.ref t ∧ H2 t = some (.tup [.int n, .ref b]) ∧ ∃ y ∈ es, y.1 = n := fun v hv => by
      obtain ⟨j, hj⟩ := List.mem_iff_getElem?.mp hv
      obtain ⟨d, hd, t⟩ := x.to hj
      rw [List.getElem?_map] at hd
      obtain ⟨y, hy, rfl⟩ := Option.map_eq_some_iff.mp hd
      obtain ⟨a, ys, rfl, ha, t2⟩ := t.tup
      obtain ⟨u1, zs, rfl, y1, t2⟩ := t2.inv
      obtain ⟨u2, zs2, rfl, y2, t2⟩ := t2.inv
      cases t2.inv0
      cases y1.int
      obtain ⟨b, _, rfl, _, _⟩ := y2.tup
      exact ⟨a, b, y.1, rfl, ha, y, List.mem_of_getElem? hy, rfl⟩
    let kf : V → Int := fun v => match v with
      | .ref a => match H2 a with
        | some (.tup (.int n :: _)) => n
        | _ => 0
      | _ => 0
    have kfe : ∀ {t : Addr} {n : Int} {r : List V}, H2 t = some (.tup (.int n :: r)) → kf (.ref t) = n := fun {t n r} ha => by
      show (match H2 t with
        | some (.tup (.int n :: _)) => n
        | _ => 0) = n
      rw [ha]
    have kfj : ∀ (j : Nat) v, xs[j]? = some v → ∃ y, es[j]? = some y ∧ kf v = y.1 := fun j v hj => by
      obtain ⟨d, hd, t⟩ := x.to hj
      rw [List.getElem?_map] at hd
      obtain ⟨y, hy, rfl⟩ := Option.map_eq_some_iff.mp hd
      obtain ⟨a, ys, rfl, ha, t2⟩ := t.tup
      obtain ⟨u1, zs, rfl, y1, t2⟩ := t2.inv
      cases y1.int
      exact ⟨y, hy, kfe ha⟩
    have hl := x.len
    rw [List.length_map] at hl
    refine ⟨a, xs, kf, rfl, hs, fun v hv => ?_, fun u hu v hv e3 => ?_, fun ys p py pw hp => ?_⟩
    · obtain ⟨t, b, n, rfl, ht, _⟩ := one v hv
      exact ⟨t, b, rfl, SqT.of (by rw [kfe ht]; exact ht)⟩
    · obtain ⟨i, hi⟩ := List.mem_iff_getElem?.mp hu
      obtain ⟨j, hj⟩ := List.mem_iff_getElem?.mp hv
      obtain ⟨y, hy, e4⟩ := kfj i u hi
      obtain ⟨z, hz, e5⟩ := kfj j v hj
      have e6 : (es.map (·.1))[i]? = (es.map (·.1))[j]? := by
        rw [List.getElem?_map, List.getElem?_map, hy, hz]
        show some y.1 = some z.1
        rw [← e4, ← e5, e3]
      have hi2 := (List.getElem?_eq_some_iff.mp hi).1
      have e7 : i = j := (List.getElem?_inj (by rw [List.length_map]; omega) nd).mp e6
      subst e7
      rw [hi] at hj
      exact Option.some.inj hj
    · have eN := Ex.new (o := .lst ys) hp
      -- the data of the values, carried along the permutation
      have pe : ∀ {as bs : List V}, as.Perm bs → ∀ {fs : List (Int × Bx)}, TDs H2 bs (fs.map entD) → ∃ gs : List (Int × Bx), TDs H2 as (gs.map entD) ∧ gs.Perm fs := fun {as bs} pm => by
        induction pm with
        | nil => exact fun {fs} t => ⟨fs, t, List.Perm.refl _⟩
        | cons v _ ih =>
          intro fs t
          match fs, t with
          | [], t => cases t.inv0
          | f :: fs, t =>
            obtain ⟨u, zs, e8, hu, t⟩ := t.inv
            cases e8
            obtain ⟨gs, t2, p2⟩ := ih t
            exact ⟨f :: gs, TDs.cons hu t2, List.Perm.cons f p2⟩
        | swap v u l =>
          intro fs t
          match fs, t with
          | [], t => cases t.inv0
          | f :: fs, t =>
            obtain ⟨u1, zs, e8, hu, t⟩ := t.inv
            cases e8
            match fs, t with
            | [], t => cases t.inv0
            | g :: fs, t =>
              obtain ⟨u2, zs2, e9, hv, t⟩ := t.inv
              cases e9
              exact ⟨g :: f :: fs, TDs.cons hv (TDs.cons hu t), List.Perm.swap _ _ _⟩
        | trans _ _ i1 i2 =>
          intro fs t
          obtain ⟨gs, t2, p2⟩ := i2 t
          obtain ⟨hs, t3, p3⟩ := i1 t2
          exact ⟨hs, t3, p3.trans p2⟩
      obtain ⟨gs, t, pg⟩ := pe py x
      have em : ys.map kf = gs.map (·.1) := by
        refine List.ext_getElem? fun j => ?_
        rw [List.getElem?_map, List.getElem?_map]
        have gl := t.len
        rw [List.length_map] at gl
        cases hj : ys[j]? with
        | none =>
          rw [List.getElem?_eq_none_iff] at hj
          rw [List.getElem?_eq_none_iff.mpr (by omega)]
          rfl
        | some v =>
          obtain ⟨d, hd, t5⟩ := t.to hj
          rw [List.getElem?_map] at hd
          obtain ⟨y, hy, rfl⟩ := Option.map_eq_some_iff.mp hd
          obtain ⟨a, ys, rfl, ha, t2⟩ := t5.tup
          obtain ⟨u1, zs, rfl, y1, t2⟩ := t2.inv
          cases y1.int
          rw [hy]
          exact congrArg some (kfe ha)
      have po : (gs.map (·.1)).Pairwise (· ≤ ·) := by
        rw [← em, List.pairwise_map]
        exact pw.imp fun h => by
          have := of_decide_eq_false h
          omega
      rw [List.pairwise_map] at po
      exact q p ys gs _ (fresh_back e2 hp) (e2.trans eN) upd_same (t.mono eN) pg po
  exact h H1 e _ go
theorem sq_var {i : Nat} {v : V} {ds : List PyData} (h : σ[i]? = some (some v)) (x : SeqD K H v ds) : EvSq K (tVar i) σ H ds := fun H1 e Q q => by
  obtain ⟨a, xs, rfl, ha, t, _⟩ := x.mono e
  exact ⟨_, h, q a xs H1 (Ex.refl _) t (.inr ha)⟩
theorem sq_list {ds : List PyData} (h : EvLd te σ H ds) : EvSq K te σ H ds := fun H1 e Q q => h H1 e _ fun a xs H2 e2 ha x => q a xs H2 e2 x (.inl (SqL.of ha))
theorem filt_range (m : Nat) : (List.range m).filter (fun _ => true) = List.range m := List.filter_eq_self.mpr fun _ _ => rfl
theorem map_rangeD {β : Type} (F : List PyData → β) (dss : List (List PyData)) : (List.range dss.length).map (fun i => F (dss.getD i [])) = dss.map F := by
  refine List.ext_getElem (by simp) fun i h1 h2 => ?_
  simp at h1
  simp [h1]
/-- over rows -/
theorem eds_rw {R : Addr} {as : List Addr} {dss : List (List PyData)} {j : Nat} (F : List PyData → PyData) (h : Ev tl σ H (.ref R)) (hR : H R = some (.lst (as.map V.ref))) (rw : RwA H as dss) (hz : dss.length ≤ 40000) (hw : ∀ x, wipe ((wipe σ vs).set j (some x)) vs = wipe σ vs)
    (hs : ∀ a xs ds H1, Ex H H1 → ds ∈ dss → H1 a = some (.lst xs) → TDs H1 xs ds → EvD te ((wipe σ vs).set j (some (.ref a))) H1 (F ds)) : EvDs (tLc (iList K tl) (gName j) tYes te vs) σ H (dss.map F) := fun H0 e0 Q q =>
  h H0 e0 _ fun H1 e1 => ⟨R, rfl, ⟨_, SqL.of ((e0.trans e1) _ _ hR)⟩, fun Dl hD =>
    lc_list (xs := as.map V.ref) (Cb H1 [] (fun _ => true) (fun i => F (dss.getD i [])) (List.range dss.length) Dl) ⟨hD, Ex.new hD, [], upd_same, by rw [List.take_zero]; exact .nil⟩ (fun i H' _ c => SqL.of (((e0.trans e1).trans c.2.1) _ _ hR)) (fun i v H' hv c => by
      rw [List.getElem?_map] at hv
      obtain ⟨a, ha, rfl⟩ := Option.map_eq_some_iff.mp hv
      have hlt : i < dss.length := by
        have := (List.getElem?_eq_some_iff.mp ha).1
        have := rw.len
        omega
      have hd : dss[i]? = some (dss.getD i []) := by rw [List.getD_eq_getElem?_getD, List.getElem?_eq_getElem hlt]; rfl
      obtain ⟨b, xs, hb, hxs, t⟩ := rw.at hd
      rw [ha] at hb
      cases hb
      have e2 := (e0.trans e1).trans c.2.1
      exact ⟨hw _, cb_turn c (List.getElem?_range hlt) (by rw [List.length_range]; show 0 + dss.length ≤ 50000; omega) (Ex.refl _) et_yes fun _ => hs a xs _ H' e2 (List.mem_of_getElem? hd) (e2 _ _ hxs) (t.mono e2)⟩)
      (fun H' c => by
        obtain ⟨c1, c2, acc, c3, c4⟩ := c
        rw [List.length_map, rw.len, List.take_of_length_le (by rw [List.length_range]; exact Nat.le_refl _), filt_range, List.nil_append, map_rangeD] at c4
        exact q Dl acc H' (fresh_back e1 c1) (e1.trans c2) c3 c4)⟩
/-- over rows and what is told beside them -/
theorem eds_zipRw {R L : Addr} {as : List Addr} {dss : List (List PyData)} {xs : List V} {ds : List PyData} {i1 i2 : Nat} (F : List PyData → PyData → PyData) (h : Ev tl σ H (.ref R)) (h2 : Ev tb σ H (.ref L)) (hR : H R = some (.lst (as.map V.ref))) (rw : RwA H as dss) (hL : H L = some (.lst xs)) (x : TDs H xs ds) (hl : ds.length = dss.length) (hz : dss.length ≤ 40000)
    (hw : ∀ x y, wipe (((wipe σ vs).set i1 (some x)).set i2 (some y)) vs = wipe σ vs)
    (hs : ∀ a ys es v d H1, Ex H H1 → es ∈ dss → H1 a = some (.lst ys) → TDs H1 ys es → TD1 H1 v d → EvD te (((wipe σ vs).set i1 (some (.ref a))).set i2 (some v)) H1 (F es d)) :
    EvDs (tLc (iZip K (tCons tl (tCons tb tNil))) (gTup K 2 (gCons (gName i1) (gCons (gName i2) gNil))) tYes te vs) σ H ((List.range dss.length).map fun i => F (dss.getD i []) (ds.getD i .none)) := fun H0 e0 Q q =>
  h H0 e0 _ fun H1 e1 => h2 H1 (e0.trans e1) _ fun H2 e2 => by
    have e02 := (e0.trans e1).trans e2
    refine ⟨R, L, as.map V.ref, xs, rfl, SqL.of (e02 _ _ hR), SqL.of (e02 _ _ hL), fun Dl hD => ?_⟩
    have xl := x.len
    have rl := rw.len
    refine lc_it (walk_zip (n := dss.length) (xs := as.map V.ref) (ys := xs) (by rw [List.length_map]; omega)) (Cb H2 [] (fun _ => true) (fun i => F (dss.getD i []) (ds.getD i .none)) (List.range dss.length) Dl) ⟨hD, Ex.new hD, [], upd_same, by rw [List.take_zero]; exact .nil⟩ (fun i H' _ c => ⟨SqL.of ((e02.trans c.2.1) _ _ hR), SqL.of ((e02.trans c.2.1) _ _ hL)⟩) (fun i v H' H'' hi c yy => ?_) fun H' c => ?_
    · obtain ⟨T, u, z, rfl, hT, rfl, hu, hz⟩ := yy
      have hu2 : (as.map V.ref)[i]? = some u := hu
      rw [List.getElem?_map] at hu2
      obtain ⟨a, ha, rfl⟩ := Option.map_eq_some_iff.mp hu2
      have hd : dss[i]? = some (dss.getD i []) := by rw [List.getD_eq_getElem?_getD, List.getElem?_eq_getElem hi]; rfl
      have hd2 : ds[i]? = some (ds.getD i .none) := by rw [List.getD_eq_getElem?_getD, List.getElem?_eq_getElem (by omega)]; rfl
      obtain ⟨b, ws, hb, hws, t⟩ := rw.at hd
      rw [ha] at hb
      cases hb
      obtain ⟨d, hd3, t2⟩ := x.to hz
      rw [hd2] at hd3
      cases hd3
      have eT := Ex.new (o := .tup [V.ref a, z]) hT
      have e3 := (e02.trans c.2.1).trans eT
      exact ⟨T, _, rfl, SqT.of upd_same, rfl, _, _, rfl, _, _, rfl, rfl, hw _ _, cb_turn c (List.getElem?_range hi) (by rw [List.length_range]; show 0 + dss.length ≤ 50000; omega) eT et_yes fun _ => hs a ws _ z _ _ e3 (List.mem_of_getElem? hd) (e3 _ _ hws) (t.mono e3) (t2.mono e3)⟩
    · obtain ⟨c1, c2, acc, c3, c4⟩ := c
      rw [List.take_of_length_le (by rw [List.length_range]; exact Nat.le_refl _), filt_range, List.nil_append] at c4
      exact q Dl acc H' (fresh_back (e1.trans e2) c1) ((e1.trans e2).trans c2) c3 c4
end
section
variable {K : PySem.W.Frag} {σ : L2.St} {H : Hp} {te tl tb : TE} {g : TG} {vs : List Nat} {E : XK}
/-- over a list in some order -/
theorem go_lcX {α : Type} {enc : α → PyData} {P : List α → Prop} (F : α → PyData) (h : ∀ H1, Ex H H1 → ∀ Q : VK, (∀ p xs es H2, P es → Ex H1 H2 → H2 p = some (.lst xs) → TDs H2 xs (es.map enc) → Q (.ref p) H2) → tl σ H1 Q) (hz : ∀ es, P es → es.length ≤ 40000)
    (hs : ∀ es, P es → ∀ e ∈ es, ∀ H1, Ex H H1 → Turn1 g tYes te vs σ H1 enc (fun _ => true) F e) {H1 : Hp} (e : Ex H H1) {Q : VK} (q : ∀ p xs es H2, H1 p = none → P es → Ex H1 H2 → H2 p = some (.lst xs) → TDs H2 xs (es.map F) → Q (.ref p) H2) : tLc (iList K tl) g tYes te vs σ H1 Q :=
  h H1 e _ fun p xs es H2 hP e2 hp x => by
    have z := eds_it (te := te) (g := g) (tt := tYes) (vs := vs) (wi := iList K (tC (.ref p))) (σ := σ) (H := H2) (es := es) (enc := enc) (fun _ => true) F (ei_list (ld_of ev_c hp x)) (hz es hP) fun a ha => hs es hP a ha H2 (e.trans e2)
    rw [filt_all] at z
    exact z H2 (Ex.refl _) Q fun p' xs' H3 hn e3 h3 y => q p' xs' es H3 (fresh_back e2 hn) hP (e2.trans e3) h3 y
theorem go_call1 {sp : Sp} {Q : VK} (h : te σ H fun v H1 => sp [v] H1 Q E) : tCall sp [] E (tCons te tNil) σ H Q := h
end
def ungE (p : Bx × PyData) : Int × Bx := (match p.2 with | .int n => n | _ => 0, p.1)
def gE (e : Int × Bx) : Bx × PyData := (e.2, .int e.1)
theorem perm_map_inv {α β : Type} {f : α → β} {as bs : List β} (h : as.Perm bs) : ∀ {l : List α}, bs = l.map f → ∃ l' : List α, as = l'.map f ∧ l'.Perm l := by
  induction h with
  | nil =>
    intro l e
    exact ⟨[], rfl, by rw [List.map_eq_nil_iff.mp e.symm]⟩
  | cons x _ ih =>
    intro l e
    match l, e with
    | [], e => cases e
    | y :: l, e =>
      simp only [List.map_cons, List.cons.injEq] at e
      obtain ⟨l', e1, p⟩ := ih e.2
      exact ⟨y :: l', by rw [List.map_cons, ← e.1, e1], List.Perm.cons y p⟩
  | swap x y l0 =>
    intro l e
    match l, e with
    | [], e => cases e
    | [_], e => simp at e
    | u :: v :: l, e =>
      simp only [List.map_cons, List.cons.injEq] at e
      exact ⟨v :: u :: l, by rw [List.map_cons, List.map_cons, ← e.1, ← e.2.1, e.2.2], List.Perm.swap _ _ _⟩
  | trans _ _ i1 i2 =>
    intro l e
    obtain ⟨l1, e1, p1⟩ := i2 e
    obtain ⟨l2, e2, p2⟩ := i1 e1
    exact ⟨l2, e2, p2.trans p1⟩
def leafO (r : List (Bx × PyData)) : PyData := formD 0 (r.map ungE)
/-- a node over rows -/
def nodeF (rs : List (List (Bx × PyData))) : Fm 1 := (rs.map fun r => (joint (r.map (·.1)), r.map ungE) : List (Bx × List (Int × Bx)))
theorem nodeF_data (rs : List (List (Bx × PyData))) : formD 1 (nodeF rs) = .tuple [.str "node", .tuple ((rs.map fun r => (joint (r.map (·.1)), leafO r)).map prD)] := by
  show PyData.tuple [.str "node", .tuple (List.map (fun p : Bx × List (Int × Bx) => PyData.tuple [boxD p.1, formD 0 p.2]) (rs.map fun r => (joint (r.map (·.1)), r.map ungE)))] = _
  rw [List.map_map, List.map_map]
  rfl
theorem nodeF_ents (rs : List (List (Bx × PyData))) : ents 1 (nodeF rs) = (rs.map fun r => r.map ungE).flatten := by
  show List.flatMap (fun p : Bx × List (Int × Bx) => p.2) (rs.map fun r => (joint (r.map (·.1)), r.map ungE)) = _
  rw [List.flatMap_def, List.map_map]
  rfl
theorem nodeF_mem {rs : List (List (Bx × PyData))} {p : Bx × Fm 0} (h : p ∈ brs (nodeF rs)) : ∃ r ∈ rs, p = (joint (r.map (·.1)), (r.map ungE : List (Int × Bx))) := by
  have h2 : (p : Bx × List (Int × Bx)) ∈ rs.map fun r => (joint (r.map (·.1)), r.map ungE) := h
  obtain ⟨r, hr, e⟩ := List.mem_map.mp h2
  exact ⟨r, hr, e.symm⟩
theorem nodeF_len (rs : List (List (Bx × PyData))) : (brs (nodeF rs)).length = rs.length := by
  show (rs.map fun r => ((joint (r.map (·.1)), r.map ungE) : Bx × List (Int × Bx))).length = _
  rw [List.length_map]
theorem nodeF_thin {rs : List (List (Bx × PyData))} (h : rs.length ≤ 4) (k : ∀ r ∈ rs, r.length ≤ 4) : thin 1 (nodeF rs) := by
  refine ⟨by rw [nodeF_len]; exact h, fun p hp => ?_⟩
  obtain ⟨r, hr, rfl⟩ := nodeF_mem hp
  show (r.map ungE).length ≤ 4
  rw [List.length_map]
  exact k r hr
theorem nodeF_sizes {rs : List (List (Bx × PyData))} (h2 : 2 ≤ rs.length) (h : rs.length ≤ 4) (k : ∀ r ∈ rs, 2 ≤ r.length ∧ r.length ≤ 4) : sizes 1 (nodeF rs) := by
  refine ⟨by rw [nodeF_len]; exact h2, by rw [nodeF_len]; exact h, fun p hp => ?_⟩
  obtain ⟨r, hr, rfl⟩ := nodeF_mem hp
  have e : (r.map ungE).length = r.length := List.length_map _
  exact ⟨by show 2 ≤ (r.map ungE).length; rw [e]; exact (k r hr).1, by show (r.map ungE).length ≤ 4; rw [e]; exact (k r hr).2⟩
theorem nodeF_least {rs : List (List (Bx × PyData))} (k : ∀ r ∈ rs, r ≠ []) : least 1 (nodeF rs) := by
  intro p hp
  obtain ⟨r, hr, rfl⟩ := nodeF_mem hp
  refine ⟨fun q => k r hr (List.map_eq_nil_iff.mp (show r.map ungE = [] from q)), ?_, trivial⟩
  show joint (r.map (·.1)) = joint ((r.map ungE).map (·.2))
  rw [List.map_map]
  rfl
def spPacked (K : PySem.W.Frag) : Sp := fun vs H Q _ => ∃ (v : V) (es : List (Int × Bx)), vs = [v] ∧ SeqD K H v (es.map entD) ∧ es.length ≤ 15 ∧ (es.map (·.1)).Nodup ∧
  ∀ (n : Nat) (f : Fm n) u H', Ex H H' → TD1 H' u (formD n f) → (ents n f).Perm es → sizes n f → least n f → n ≤ 1 → Q u H'
section
variable {P : Program} {w : World} {K : PySem.W.Frag} {mg : Str → Option Value} {base : Heap}
theorem scPacked : FnScope ["entries", "rows", "forms", "branches", "number", "box", "row", "form", "_"] ["entries"] (defScope sPacked) := ⟨rfl, rfl, rfl, by decide +kernel, rfl, by decide +kernel, by decide +kernel⟩
theorem ok_packed {f : Addr} {fd : FuncData} (F : Fun K "packed" "packed" sPacked f fd) (T : TB mg) (So : TSo mg) (St : TSt mg) (CR : Cl P w K mg base 2 "_rows_of" spRowsOf) (CA : Cl P w K mg base 1 "box_around" spAround) : FnOk P w K mg base CX0 3 f fd ["entries"] (spPacked K) := by
  refine F.ok scPacked (fun vs H Q E h => ?_) (fun cdv A' outer s H vs Q E hr h => ?_)
  · obtain ⟨v, es, rfl, _⟩ := h
    rfl
  · obtain ⟨v, es, rfl, hx, hl, nd, k⟩ := h
    refine ⟨_, (pss_cons (ps_set (i := 1) scPacked.nd rfl (Or.inl rfl) (pe_cl CR hr (by decide) (by rfl) (pa_cons (pe_lc (own := [("number", 4), ("box", 5)]) (g := gTup K 2 (gCons (gName 4) (gCons (gName 5) gNil))) (by rfl) scPacked.nd (pi_list (pe_callB cr_sortF (by rfl) So.sorted (by decide +kernel) (pa_cons (pv 0) pa_nil)))
            (blkOk_by (own := [("number", 4), ("box", 5)]) (N := ["entries", "rows", "forms", "branches", "number", "box", "row", "form", "_"]) (sc := defScope sPacked) (by decide +kernel))
            (fun _ _ _ _ _ => by exact (pg_tup (by rfl) (pgs_cons (pg_name (i := 4) scPacked.nd rfl (Or.inl rfl)) (pgs_cons (pg_name (i := 5) scPacked.nd rfl (Or.inl rfl)) pgs_nil)))) (fun _ _ _ _ _ => pts_nil)
            (te := tTup (tCons (tVar 5) (tCons (tVar 4) tNil))) (fun _ _ _ _ _ => by exact (pe_tup (by exact (pa_cons (pv 5) (pa_cons (pv 4) pa_nil)))))) pa_nil)))
      (pss_cons (ps_setLc (i := 2) (own := [("row", 6)]) (g := gName 6) (by rfl) scPacked.nd rfl rfl (sw_true rfl rfl rfl (by decide +kernel)) (pi_list (pv 1))
            (blkOk_by (own := [("row", 6)]) (N := ["entries", "rows", "forms", "branches", "number", "box", "row", "form", "_"]) (sc := defScope sPacked) (by decide +kernel))
            (fun _ _ _ _ _ => pg_name (i := 6) scPacked.nd rfl (Or.inl rfl)) (fun _ _ _ _ _ => pts_nil)
            (te := tTup (tCons (tC (.str "leaf")) (tCons (tCB (fun xs H Q => ∃ p ys, xs = [.ref p] ∧ ((SqL K H p ys ∧ ∀ l, H l = none → Q (.ref l) (upd H l (.tup ys))) ∨ (SqT K H p ys ∧ Q (.ref p) H))) (tCons (tLc (iList K (tVar 6)) (gTup K 2 (gCons (gName 5) (gCons (gName 4) gNil))) tYes (tTup (tCons (tVar 4) (tCons (tVar 5) tNil))) [5, 4]) tNil)) tNil)))
            (fun _ _ _ _ _ => by exact (pe_tup (by exact (pa_cons (pe_str) (pa_cons (pe_callTy call_tuple_of (by rfl) St.tuple (by decide +kernel) (by exact (pa_cons (pe_lc (own := [("box", 5), ("number", 4)]) (g := gTup K 2 (gCons (gName 5) (gCons (gName 4) gNil))) (by rfl) scPacked.nd (pi_list (pv 6))
              (blkOk_by (by rfl)) (fun _ _ _ _ _ => by exact (pg_tup (by rfl) (pgs_cons (pg_name (i := 5) scPacked.nd rfl (Or.inl rfl)) (pgs_cons (pg_name (i := 4) scPacked.nd rfl (Or.inl rfl)) pgs_nil)))) (fun _ _ _ _ _ => pts_nil)
              (te := tTup (tCons (tVar 4) (tCons (tVar 5) tNil))) (fun _ _ _ _ _ => by exact (pe_tup (by exact (pa_cons (pv 4) (pa_cons (pv 5) pa_nil)))))) pa_nil))) pa_nil))))))
      (pss_cons (ps_while PassesOwn.never (pt_cmpR op_gt (pe_callB call_len_seq (by rfl) T.len PySem.boot_len (pa_cons (pv 2) pa_nil)) pe_int (nomark _))
        (pss_cons (ps_setLc (i := 3) (own := [("row", 6), ("form", 7)]) (g := gTup K 2 (gCons (gName 6) (gCons (gName 7) gNil))) (by rfl) scPacked.nd rfl rfl (sw_true rfl rfl rfl (by decide +kernel)) (pi_zip (by rfl) So.zip (pa_cons (pv 1) (pa_cons (pv 2) pa_nil)))
            (blkOk_by (own := [("row", 6), ("form", 7)]) (N := ["entries", "rows", "forms", "branches", "number", "box", "row", "form", "_"]) (sc := defScope sPacked) (by decide +kernel))
            (fun _ _ _ _ _ => by exact (pg_tup (by rfl) (pgs_cons (pg_name (i := 6) scPacked.nd rfl (Or.inl rfl)) (pgs_cons (pg_name (i := 7) scPacked.nd rfl (Or.inl rfl)) pgs_nil)))) (fun _ _ _ _ _ => pts_nil)
            (te := tTup (tCons (tCall spAround [] E0 (tCons (tLc (iList K (tVar 6)) (gTup K 2 (gCons (gName 5) (gCons (gName 8) gNil))) tYes (tVar 5) [5, 8]) tNil)) (tCons (tVar 7) tNil)))
            (fun _ _ _ _ _ => by exact (pe_tup (by exact (pa_cons (pe_cl CA hr (by decide) (by rfl) (by exact (pa_cons (pe_lc (own := [("box", 5), ("_", 8)]) (g := gTup K 2 (gCons (gName 5) (gCons (gName 8) gNil))) (by rfl) scPacked.nd (pi_list (pv 6))
              (blkOk_by (by rfl)) (fun _ _ _ _ _ => by exact (pg_tup (by rfl) (pgs_cons (pg_name (i := 5) scPacked.nd rfl (Or.inl rfl)) (pgs_cons (pg_name (i := 8) scPacked.nd rfl (Or.inl rfl)) pgs_nil)))) (fun _ _ _ _ _ => pts_nil)
              (te := tVar 5) (fun _ _ _ _ _ => by exact (pv 5))) pa_nil))) (pa_cons (pv 7) pa_nil))))))
        (pss_cons (ps_set (i := 1) scPacked.nd rfl (Or.inl rfl) (pe_cl CR hr (by decide) (by rfl) (pa_cons (pv 3) pa_nil)))
        (pss_one (ps_setLc (i := 2) (own := [("row", 6)]) (g := gName 6) (by rfl) scPacked.nd rfl rfl (sw_true rfl rfl rfl (by decide +kernel)) (pi_list (pv 1))
            (blkOk_by (own := [("row", 6)]) (N := ["entries", "rows", "forms", "branches", "number", "box", "row", "form", "_"]) (sc := defScope sPacked) (by decide +kernel))
            (fun _ _ _ _ _ => pg_name (i := 6) scPacked.nd rfl (Or.inl rfl)) (fun _ _ _ _ _ => pts_nil)
            (te := tTup (tCons (tC (.str "node")) (tCons (tCB (fun xs H Q => ∃ p ys, xs = [.ref p] ∧ ((SqL K H p ys ∧ ∀ l, H l = none → Q (.ref l) (upd H l (.tup ys))) ∨ (SqT K H p ys ∧ Q (.ref p) H))) (tCons (tVar 6) tNil)) tNil)))
            (fun _ _ _ _ _ => by exact (pe_tup (by exact (pa_cons (pe_str) (pa_cons (pe_callTy call_tuple_of (by rfl) St.tuple (by decide +kernel) (by exact (pa_cons (pv 6) pa_nil))) pa_nil))))))))))
      (pss_one (ps_ret (pe_ix ix_list (pv 2) pe_int (fun _ _ => rfl))))))), ?_⟩
    have up : ∀ e : Int × Bx, ungE (gE e) = e := fun e => rfl
    refine q_asgQ (go_call1 ?_)
    refine (go_lcX (P := fun qs => qs.Perm es) (enc := entD) (fun e => prD (gE e)) (fun H1 e1 Q q => go_sortF (sq_var rfl hx) nd e1 fun p ys qs H2 hn e2 h2 t pm _ => q p ys qs H2 pm e2 h2 t) (fun qs pm => by rw [pm.length_eq]; omega) (fun qs pm e he H1 e1 => by exact turn_t2 (d1 := .int e.1) (d2 := boxD e.2) rfl (fun _ _ => rfl) (fun _ _ _ _ _ _ => et_yes) fun u1 u2 H2 e2 y1 y2 _ => ed_tup (da_cons (ed_var rfl y2) (da_cons (ed_var rfl y1) da_nil)) (by show 2 ≤ 100000; decide)) (Ex.refl H) fun L xs qs H1 hL0 pm e1 hL t => ?_)
    have t' : TDs H1 xs ((qs.map gE).map prD) := by rw [List.map_map]; exact t
    refine ⟨L, xs, qs.map gE, rfl, hL, t', by rw [List.length_map, pm.length_eq]; exact hl, fun R as rss H2 hR0 e2 hR rw pf sz rl => ?_⟩
    rw [List.length_map, pm.length_eq] at rl
    have e12 := Ex.trans e1 e2
    -- the rows are rows of entries
    have mem : ∀ r ∈ rss, ∀ p ∈ r, p = gE (ungE p) := fun r hr p hp => by
      have : p ∈ rss.flatten := List.mem_flatten.mpr ⟨r, hr, hp⟩
      obtain ⟨e, _, rfl⟩ := List.mem_map.mp (pf.mem_iff.mp this)
      rw [up]
    have leafE : ∀ r ∈ rss, leafO r = .tuple [.str "leaf", .tuple (r.map fun p => PyData.tuple [p.2, boxD p.1])] := fun r hr => by
      show PyData.tuple [.str "leaf", .tuple ((r.map ungE).map entD)] = _
      rw [List.map_map]
      refine congrArg (fun l => PyData.tuple [.str "leaf", .tuple l]) (List.map_congr_left fun p hp => ?_)
      show entD (ungE p) = _
      conv => rhs; rw [mem r hr p hp]
      rfl
    have rk : rowsN es.length ≤ 4 := by unfold rowsN; omega
    -- the leaves
    refine q_asgDs (ds := rss.map leafO) ?_ fun Fl ys H3 e3 _ hF y => ?_
    · have z := eds_rw (K := K) (te := tTup (tCons (tC (.str "leaf")) (tCons (tCB (fun xs H Q => ∃ p ys, xs = [.ref p] ∧ ((SqL K H p ys ∧ ∀ l, H l = none → Q (.ref l) (upd H l (.tup ys))) ∨ (SqT K H p ys ∧ Q (.ref p) H))) (tCons (tLc (iList K (tVar 6)) (gTup K 2 (gCons (gName 5) (gCons (gName 4) gNil))) tYes (tTup (tCons (tVar 4) (tCons (tVar 5) tNil))) [5, 4]) tNil)) tNil)))
        (tl := tVar 1) (vs := [6]) (σ := [some v, some (.ref R), none, none, none, none, none, none, none]) (H := H2) (j := 6) (fun ds => .tuple [.str "leaf", .tuple (ds.map fun d => match d with | .tuple [b, n] => PyData.tuple [n, b] | _ => .none)]) (ev_var rfl) hR rw (by rw [List.length_map, rl]; omega) (fun _ => rfl) (fun a xs ds H4 e4 hds ha ta => ?_)
      · rw [List.map_map] at z
        have e : rss.map leafO = rss.map ((fun ds => PyData.tuple [.str "leaf", .tuple (ds.map fun d => match d with | .tuple [b, n] => PyData.tuple [n, b] | _ => .none)]) ∘ fun r => r.map prD) := List.map_congr_left fun r hr => by
          rw [leafE r hr]
          show _ = PyData.tuple [.str "leaf", .tuple ((r.map prD).map _)]
          rw [List.map_map]
          rfl
        rw [e]
        exact z
      · obtain ⟨r, hr, rfl⟩ := List.mem_map.mp hds
        have rl4 := (sz r hr).1
        have z2 := eds_it (te := tTup (tCons (tVar 4) (tCons (tVar 5) tNil))) (g := gTup K 2 (gCons (gName 5) (gCons (gName 4) gNil))) (tt := tYes) (vs := [5, 4]) (wi := iList K (tVar 6)) (σ := [some v, some (.ref R), none, none, none, none, some (.ref a), none, none]) (H := H4) (es := r) (enc := prD) (fun _ => true) (fun p => PyData.tuple [p.2, boxD p.1]) (ei_list (ld_of (ev_var rfl) ha ta)) (by omega) (fun p hp => turn_t2 (d1 := boxD p.1) (d2 := p.2) rfl (fun _ _ => rfl) (fun _ _ _ _ _ _ => et_yes) fun u1 u2 H5 e5 y1 y2 _ => ed_tup (da_cons (ed_var rfl y2) (da_cons (ed_var rfl y1) da_nil)) (by show 2 ≤ 100000; decide))
        rw [filt_all] at z2
        have z3 := ed_tup (da_cons (ed_str (σ := [some v, some (.ref R), none, none, none, none, some (.ref a), none, none]) (H := H4) (ev_c (v := .str "leaf"))) (da_cons (ed_tupL (K := K) z2) da_nil)) (by show 2 ≤ 100000; decide)
        have e : (r.map prD).map (fun d => match d with | .tuple [b, n] => PyData.tuple [n, b] | _ => .none) = r.map fun p => PyData.tuple [p.2, boxD p.1] := by
          rw [List.map_map]
          rfl
        show EvD _ _ _ (PyData.tuple [.str "leaf", .tuple ((r.map prD).map _)])
        rw [e]
        exact z3
    have e13 := e12.trans e3
    have yl := y.len
    rw [List.length_map, rl] at yl
    have pfE : (rss.map fun r => r.map ungE).flatten.Perm es := by
      have z := pf.map ungE
      rw [List.map_map, List.map_flatten] at z
      have e : qs.map (ungE ∘ gE) = qs := by
        rw [show (ungE ∘ gE) = id from funext up]
        exact List.map_id qs
      rw [e] at z
      exact z.trans pm
    by_cases k1 : rowsN es.length = 1
    · refine q_while (fun m σ' H' => σ' = [some v, some (.ref R), some (.ref Fl), none, none, none, none, none, none] ∧ Ex H3 H') 0 ⟨rfl, Ex.refl _⟩ ?_
      rintro m σ' H' ⟨rfl, e4⟩
      refine ⟨false, et_is (et_test (ev_op (ev_lenL (ld_of (ev_var rfl) (e4 _ _ hF) (y.mono e4))) ev_c rv_I0)) (by rw [List.length_map, rl, k1]; rfl), (fun z => nomatch z), fun _ H5 e5 => ?_⟩
      rw [k1] at rl
      obtain ⟨r, rfl⟩ : ∃ r, rss = [r] := by
        match rss, rl with
        | [r], _ => exact ⟨r, rfl⟩
      · have e35 := e4.trans e5
        refine s_retD (ed_ixLV (ld_of (ev_var rfl) (e35 _ _ hF) (y.mono e35)) ev_c ⟨by decide, rfl⟩) fun u H6 e6 x6 => k 0 (r.map ungE) u H6 ((e13.trans e35).trans e6) x6 ?_ ?_ trivial (by decide)
        · have z := pfE
          rw [List.map_cons, List.map_nil, List.flatten_cons, List.flatten_nil, List.append_nil] at z
          exact z
        · show (r.map ungE).length ≤ 4
          rw [List.length_map]
          exact (sz r List.mem_cons_self).1
    · have hk2 : 2 ≤ rowsN es.length := by
        have : 1 ≤ rowsN es.length := by unfold rowsN; omega
        omega
      have nes : qs.map gE ≠ [] := fun z => by
        have z2 := List.map_eq_nil_iff.mp z
        rw [z2] at pm
        have z3 := List.Perm.eq_nil pm.symm
        rw [z3] at hk2
        revert hk2
        decide
      have rne : ∀ r ∈ rss, r ≠ [] := fun r hr => (sz r hr).2.1 nes
      have e5 : 5 ≤ (qs.map gE).length := by
        rw [List.length_map, pm.length_eq]
        unfold rowsN at hk2
        omega
      have rw2s : ∀ r ∈ rss, 2 ≤ r.length := fun r hr => (sz r hr).2.2 e5
      refine q_while (fun m σ' H' => (m = 1 ∧ σ' = [some v, some (.ref R), some (.ref Fl), none, none, none, none, none, none] ∧ Ex H3 H') ∨ (m = 0 ∧ ∃ (r3 r4 r5 : Option V) (R2 G2 : Addr) (zs : List V) (bs : Fm 1), σ' = [some v, some (.ref R2), some (.ref G2), r3, none, none, none, none, none] ∧ Ex H3 H' ∧ H' G2 = some (.lst zs) ∧ TDs H' zs [formD 1 bs] ∧ (ents 1 bs).Perm es ∧ sizes 1 bs ∧ least 1 bs)) 1 (.inl ⟨rfl, rfl, Ex.refl _⟩) ?_
      rintro m σ' H' (⟨rfl, rfl, e4⟩ | ⟨rfl, r3, r4, r5, R2, G2, zs, bs, rfl, e4, hG, tz, pe, th, le⟩)
      · refine ⟨true, et_is (et_test (ev_op (ev_lenL (ld_of (ev_var rfl) (e4 _ _ hF) (y.mono e4))) ev_c rv_I0)) (by rw [List.length_map, rl, decide_eq_true (by omega)]), fun _ H5 e5 => ?_, (fun z => nomatch z)⟩
        refine ⟨fun σ2 H2 => ∃ (r3 : Option V) (R2 G2 : Addr) (zs : List V) (bs : Fm 1), σ2 = [some v, some (.ref R2), some (.ref G2), r3, none, none, none, none, none] ∧ Ex H3 H2 ∧ H2 G2 = some (.lst zs) ∧ TDs H2 zs [formD 1 bs] ∧ (ents 1 bs).Perm es ∧ sizes 1 bs ∧ least 1 bs, ?_, ?_⟩
        · rintro σ2 H2 ⟨r3, R2, G2, zs, bs, h⟩
          exact ⟨0, by decide, .inr ⟨rfl, r3, none, none, R2, G2, zs, bs, h⟩⟩
        have e35 := e4.trans e5
        have hR5 := (e3.trans e35) _ _ hR
        have rw5 := rw.mono (e3.trans e35)
        refine q_asgDs (ds := (rss.map fun r => (joint (r.map (·.1)), leafO r)).map prD) ?_ fun B ws H6 e6 _ hB yb => ?_
        · have z := eds_zipRw (K := K) (te := tTup (tCons (tCall spAround [] E0 (tCons (tLc (iList K (tVar 6)) (gTup K 2 (gCons (gName 5) (gCons (gName 8) gNil))) tYes (tVar 5) [5, 8]) tNil)) (tCons (tVar 7) tNil))) (tl := tVar 1) (tb := tVar 2) (vs := [6, 7]) (σ := [some v, some (.ref R), some (.ref Fl), none, none, none, none, none, none]) (H := H5) (i1 := 6) (i2 := 7)
            (fun ds d => .tuple [boxD (joint (ds.map fun d => match d with | .tuple [.tuple [.int l, .int b, .int r, .int t], _] => (⟨l, b, r, t⟩ : Bx) | _ => ⟨0, 0, 0, 0⟩)), d]) (ev_var rfl) (ev_var rfl) hR5 rw5 (e35 _ _ hF) (y.mono e35) (by rw [List.length_map, List.length_map]) (by rw [List.length_map, rl]; omega) (fun _ _ => rfl) (fun a ys2 ds u d H7 e7 hds ha ta td => ?_)
          · have e : (rss.map fun r => (joint (r.map (·.1)), leafO r)).map prD = (List.range (rss.map fun r => r.map prD).length).map fun i => PyData.tuple [boxD (joint (((rss.map fun r => r.map prD).getD i []).map fun d => match d with | .tuple [.tuple [.int l, .int b, .int r, .int t], _] => (⟨l, b, r, t⟩ : Bx) | _ => ⟨0, 0, 0, 0⟩)), (rss.map leafO).getD i .none] := by
              refine List.ext_getElem (by simp) fun i h1 h2 => ?_
              simp at h1
              simp only [List.getElem_map, List.getElem_range, List.getD_eq_getElem?_getD, List.getElem?_map, List.getElem?_eq_getElem h1, Option.map_some, Option.getD_some, List.map_map]
              rfl
            rw [e]
            exact z
          · obtain ⟨r, hr, rfl⟩ := List.mem_map.mp hds
            have rl4 := (sz r hr).1
            have z2 := eds_it (te := tVar 5) (g := gTup K 2 (gCons (gName 5) (gCons (gName 8) gNil))) (tt := tYes) (vs := [5, 8]) (wi := iList K (tVar 6)) (σ := [some v, some (.ref R), some (.ref Fl), none, none, none, some (.ref a), some u, none]) (H := H7) (es := r) (enc := prD) (fun _ => true) (fun p => boxD p.1) (ei_list (ld_of (ev_var rfl) ha ta)) (by omega) (fun p hp => turn_t2 (d1 := boxD p.1) (d2 := p.2) rfl (fun _ _ => rfl) (fun _ _ _ _ _ _ => et_yes) fun u1 u2 H8 e8 y1 y2 _ => ed_var rfl y1)
            rw [filt_all] at z2
            rw [show (r.map fun p => boxD p.1) = (r.map (·.1)).map boxD by rw [List.map_map]; rfl] at z2
            have e : (r.map prD).map (fun d => match d with | .tuple [.tuple [.int l, .int b, .int r, .int t], _] => (⟨l, b, r, t⟩ : Bx) | _ => ⟨0, 0, 0, 0⟩) = r.map (·.1) := by
              rw [List.map_map]
              rfl
            rw [e]
            exact ed_tup (da_cons (ed_around z2 (fun q => rne r hr (List.map_eq_nil_iff.mp q)) (by rw [List.length_map]; omega)) (da_cons (ed_var rfl td) da_nil)) (by show 2 ≤ 100000; decide)
        have e36 := e35.trans e6
        refine q_asgQ ⟨_, rfl, B, ws, rss.map fun r => (joint (r.map (·.1)), leafO r), rfl, hB, yb, by rw [List.length_map, rl]; omega, fun R2 as2 rss2 H7 hR20 e7 hR2 rw2 pf2 sz2 rl2 => ?_⟩
        rw [List.length_map, rl] at rl2
        have one : rowsN (rowsN es.length) = 1 := by
          have h3 : rowsN es.length ≤ 4 := rk
          generalize rowsN es.length = q at h3 hk2
          unfold rowsN
          omega
        rw [one] at rl2
        match rss2, rl2, rw2, pf2 with
        | [r2], _, rw2, pf2 =>
          rw [show [r2].flatten = r2 by simp] at pf2
          obtain ⟨rs', er2, prs⟩ := perm_map_inv pf2 rfl
          have z := eds_rw (K := K) (te := tTup (tCons (tC (.str "node")) (tCons (tCB (fun xs H Q => ∃ p ys, xs = [.ref p] ∧ ((SqL K H p ys ∧ ∀ l, H l = none → Q (.ref l) (upd H l (.tup ys))) ∨ (SqT K H p ys ∧ Q (.ref p) H))) (tCons (tVar 6) tNil)) tNil))) (tl := tVar 1) (vs := [6]) (σ := [some v, some (.ref R2), some (.ref Fl), some (.ref B), none, none, none, none, none]) (H := H7) (j := 6) (fun ds => .tuple [.str "node", .tuple ds]) (ev_var rfl) hR2 rw2 (by show 1 ≤ 40000; decide) (fun _ => rfl) (fun a xs ds H8 e8 hds ha ta => ed_tup (da_cons (ed_str ev_c) (da_cons (ed_tupV (ev_var rfl) ha ta) da_nil)) (by show 2 ≤ 100000; decide))
          refine z H7 (Ex.refl _) _ fun G2 zs H8 hG0 e8 hG tz => ⟨_, R2, G2, zs, nodeF rs', rfl, (e36.trans e7).trans e8, hG, ?_, ?_, nodeF_sizes (by rw [prs.length_eq, rl]; omega) (by rw [prs.length_eq, rl]; omega) (fun r hr => ⟨rw2s r (prs.mem_iff.mp hr), (sz r (prs.mem_iff.mp hr)).1⟩), nodeF_least fun r hr => rne r (prs.mem_iff.mp hr)⟩
          · rw [nodeF_data, ← er2]
            exact tz
          · rw [nodeF_ents]
            exact ((prs.map fun r => r.map ungE).flatten).trans pfE
      · refine ⟨false, et_is (et_test (ev_op (ev_lenL (ld_of (ev_var rfl) hG tz)) ev_c rv_I0)) rfl, (fun z => nomatch z), fun _ H5 e5 => ?_⟩
        exact s_retD (ed_ixLV (ld_of (ev_var rfl) (e5 _ _ hG) (tz.mono e5)) ev_c ⟨by decide, rfl⟩) fun u H6 e6 x6 => k 1 bs u H6 (((e13.trans e4).trans e5).trans e6) x6 pe th le (Nat.le_refl _)
end
end Q
set_option Elab.async false
set_option linter.all false
set_option maxRecDepth 100000
set_option maxHeartbeats 4000000
/-! enumerate of a tuple -/
namespace En
open PySem
open PySem.Sem (wp)
theorem meets1 {v : Value} {ob : Obj} {G : Heap → Prop} (B : Begins v ob G) :
    Meets (Builtin.«enumerate.__new__» ⟨[.type "enumerate", v], []⟩) (fun _ R s => G s.heap ∧
      R (.ok (.ret (.ref (s.heap.push ob).objs.size))) { s with heap := (s.heap.push ob).push { cls := .type "enumerate", data := .fields #[.none, .bool false, .ref s.heap.objs.size, rawInt 0, .none, .none] } }) :=
  .of_wp fun prog w A R s hz => by
    obtain ⟨hq, ge, dr, tk, os⟩ := s
    obtain ⟨g1, hz⟩ := hz
    have subE := sub_enumerate
    have go : ∀ {A' : Around} {E : Value → Shared → Prop} {Q : Value → Shared → Prop}, Q (.ref hq.objs.size) ⟨hq.push ob, ge, dr, tk, os⟩ → wpAny (model prog w) A' (pyIter v) Q E ⟨hq, ge, dr, tk, os⟩ :=
      fun q => B.iter prog w _ _ ⟨hq, ge, dr, tk, os⟩ _ g1 q
    wp_walk using go
    refine wpAny_stack_any fun st => wpAny_pure ?_
    split
    · rename_i c _ _ _ _ _
      cases (c == Value.type "enumerate")
      · wp_walk using go
        exact ⟨_, rfl, hz⟩
      · wp_walk using go
        exact ⟨_, rfl, hz⟩
    · wp_walk using go
      exact ⟨_, rfl, hz⟩
section
variable {prog : Program} {w : World} {A : Around} {E : Value → Shared → Prop} {s : Shared}
theorem begins1 {v : Value} {ob : Obj} {G : Heap → Prop} {Q : Value → Shared → Prop} (B : Begins v ob G) (g1 : G s.heap)
    (hz : ∀ h', IsEnum h' (s.heap.objs.size + 1) s.heap.objs.size 0 .none → h'.get? s.heap.objs.size = some ob →
      (∀ b u, s.heap.get? b = some u → h'.get? b = some u) → Q (.ref (s.heap.objs.size + 1)) { s with heap := h' }) :
    wpAny (model prog w) A (call (.type "enumerate") [v]) Q E s := by
  refine callType_new F.called_enumerate (by decide) (F.typeCall_enumerate_1 _) (F.newCall_enumerate_1 _) (fun ob => F.args_object_init_2 ob _) F.entry_enumerate_new (meets1 B) ⟨g1, ?_⟩
  have sz : (s.heap.push ob).objs.size = s.heap.objs.size + 1 := Heap.size_push ..
  show _ ∧ _
  rw [sz]
  have he : IsEnum ((s.heap.push ob).push { cls := .type "enumerate", data := .fields #[.none, .bool false, .ref s.heap.objs.size, rawInt 0, .none, .none] }) (s.heap.objs.size + 1) s.heap.objs.size 0 .none := by
    have z := Heap.get?_push_size (s.heap.push ob) (o := { cls := .type "enumerate", data := .fields #[.none, .bool false, .ref s.heap.objs.size, rawInt 0, .none, .none] }) rfl
    rw [sz] at z
    exact z
  exact ⟨⟨_, he, rfl⟩, hz _ he (Heap.get?_push_of_some _ (Heap.get?_push_size _ B.free)) fun b u x => Heap.get?_push_of_some _ (Heap.get?_push_of_some _ x)⟩
end
theorem apart {h : Heap} {it a : Addr} {i : Nat} {xs : Array Value} (x : h.IsTupleIter it a i) (y : h.IsTuple a xs) : a ≠ it := fun z => by
  subst z
  obtain ⟨o, h1, h2, _⟩ := x
  obtain ⟨u, k1, k2, _⟩ := y
  rw [h1] at k1
  cases k1
  rw [h2] at k2
  exact absurd (Value.type.inj k2) (by decide)
theorem apartE {h : Heap} {e it a : Addr} {i : Int} {old : Value} {xs : Array Value} (x : IsEnum h e it i old) (y : h.IsTuple a xs) : e ≠ a := fun z => by
  subst z
  obtain ⟨u, k1, k2, _⟩ := y
  rw [show h.get? e = _ from x] at k1
  cases k1
  exact absurd (Value.type.inj k2) (by decide)
section
variable {prog : Program} {w : World} {A : Around} {E : Value → Shared → Prop} {s : Shared}
theorem over {e it a : Addr} {i : Nat} {xs : Array Value} {j : Int} {old : Value} {Q : Option Value → Shared → Prop} (hh : A.handled = none) (he : IsEnum s.heap e it j old) (hit : s.heap.IsTupleIter it a i) (hx : s.heap.IsTuple a xs) (hn : xs[i]? = none)
    (hQ : ∀ h', Heap.ExtBut it s.heap h' → Q none { s with heap := h' }) : wpAny (model prog w) A (pyNext (.ref e)) Q E s := by
  have hT : s.TypeIs (.ref e) "enumerate" := ⟨_, he, rfl⟩
  have h1 : A.in1.handled = none := hh
  unfold pyNext
  refine wpAny_bind (wpAny_attempt (wpAny_callSpecial?_slot (name := Str.ofString "__next__") hT F.slot_enumerate_next (wpAny_call_entry F.slot_enumerate_next hT F.entry_enumerate_next ?_ (F.args_enumerate_next_1 _))))
  show wpAny _ _ (field (.ref e) 2 >>= _) _ _ _
  refine wpAny_bind (wpAny_field he rfl (x := .ref it) rfl ?_)
  refine wpAny_bind (wpAny_nextOf_tuple_end h1 hit hx hn fun h2 y e2 z => ?_)
  obtain ⟨u, hu, uc⟩ := z
  refine wpAny_bind (wpAny_isInstance (T := "StopIteration") (b := true) ⟨u, hu, uc⟩ isSubtype_stop ?_)
  exact wpAny_pure (hQ _ e2)
end
end En
namespace L2
open PySem PySem.Spec PyProof.Rows
/-- the tuple at a, each item in a new pair with its number -/
def IteT (K : PySem.W.Frag) (a : Addr) : It :=
  ⟨fun i G => ∃ (zs : List V) (x : V), SqT K G a zs ∧ zs[i]? = some x, fun i G v G' => ∃ T x, v = .ref T ∧ G T = none ∧ G' = upd G T (.tup [.int (i : Nat), x]) ∧ ∀ zs, SqT K G a zs → zs[i]? = some x, fun i G => ∃ zs : List V, SqT K G a zs ∧ zs.length ≤ i⟩
theorem turn_enumT {P : Program} {w : World} {K : PySem.W.Frag} {elts : List Expr} {kk : Nat} {tp : Pos} (a e it : Addr) :
    Turn P w K (.Tuple elts kk tp) (IteT K a) [e, it] e (fun i h => (∃ old, IsEnum h e it ((i : Nat) : Int) old) ∧ h.IsTupleIter it a i ∧ e ≠ it) where
  mem := by simp
  obj := fun i h st b hb => by
    obtain ⟨⟨old, he⟩, ⟨u, hu, uc, ud⟩, _⟩ := st
    have e2 : b = e ∨ b = it := by simpa using hb
    rcases e2 with z | z
    · rw [z]
      exact ⟨_, he, fun v q => nomatch q⟩
    · rw [z]
      exact ⟨u, hu, fun v q => by rw [ud] at q; cases q⟩
  keep := fun i h h' st k => ⟨let ⟨old, he⟩ := st.1; ⟨old, k e (by simp) _ he⟩, st.2.1.at fun u q => k it (by simp) u q, st.2.2⟩
  item := by
    intro X hP hw hK hc i pins s σ G E I hf st hg
    subst hP
    subst hw
    subst hK
    obtain ⟨⟨old, he⟩, hit, hne⟩ := st
    obtain ⟨zs, x, hq, hx⟩ := hg
    obtain ⟨its, rv, p, hz⟩ := I.tuple hq
    obtain ⟨u, hu, ru⟩ := rv.get hx
    have hel : e < s.heap.objs.size := Heap.lt_size he
    have hil : it < s.heap.objs.size := by
      obtain ⟨_, q, _⟩ := hit
      exact Heap.lt_size q
    have pt : s.heap.IsTuple a its.toArray := p
    have na := En.apart hit pt
    have hh : X.A.in1.handled = none := I.ok.hd hc
    have lt : i < its.toArray.size := by
      have := (List.getElem?_eq_some_iff.mp hu).1
      simpa using this
    refine wpAny_pyNext_enum_itemD (Draws.tuple hh it a na its.toArray) he ⟨hit, pt⟩ lt hne (by simpa using ⟨hne, En.apartE he pt⟩) fun y h' tk hP ho hst hT hsz hk => ?_
    have ey : y = u := by
      have z : its.toArray[i]? = some y := hP
      have z2 : its[i]? = some y := by simpa using z
      rw [hu] at z2
      exact (Option.some.inj z2).symm
    subst ey
    refine ⟨_, rfl, wpAny_letOwnedTupleGo_enum (s := { s with heap := h', toks := tk + 1 }) ho fun h2 he2 sb => ?_⟩
    have hT2 : h2.get? s.heap.objs.size = some { cls := .type "tuple", data := .seq #[.int i tk, y] } := (sb.2 _ (Nat.ne_of_gt hel)).trans hT
    have new : ObjOk X.prog X.w (upd G s.heap.objs.size (.tup [.int (i : Nat), x])) h2 s.heap.objs.size (.tup [.int (i : Nat), x]) :=
      ⟨by show 2 ≤ sizeLine; decide, [.int i tk, y], .cons ⟨_, rfl⟩ (.cons ru .nil), ⟨_, hT2, rfl, _, rfl⟩⟩
    have I1 : Inv X pins σ (upd G s.heap.objs.size (.tup [.int (i : Nat), x])) { s with heap := h2, toks := tk + 1 } :=
      I.turnedNew (ch := [e, it]) (fun b ob hb q => (sb.2 b (fun z => hb (by simp [z]))).trans (hk b ob (fun z => hb (by simp [z])) (fun z => hb (by simp [z])) q)) hf (Nat.le_refl _) new
    refine ⟨.ref s.heap.objs.size, _, I1, rfl, ⟨_, x, rfl, I.hok.fresh (Nat.le_refl _), rfl, fun ys hy => by rw [I.tuple_inj hy hq]; exact hx⟩, ⟨⟨y, ?_⟩, hst.1.at fun o q => (sb.2 it (Ne.symm hne)).trans q, hne⟩, fun b hb => ?_⟩
    · rw [show ((i + 1 : Nat) : Int) = (i : Int) + 1 by omega]
      exact he2
    · have lb : b < s.heap.objs.size := by
        have e2 : b = e ∨ b = it := by simpa using hb
        rcases e2 with z | z
        · rw [z]
          exact hel
        · rw [z]
          exact hil
      rw [upd_ne (Nat.ne_of_lt lb)]
      exact (hf b hb).1
  done := by
    intro X hP hw hK hc i pins s σ G E I hf st hg
    subst hP
    subst hw
    subst hK
    obtain ⟨⟨old, he⟩, hit, hne⟩ := st
    obtain ⟨zs, hq, hx⟩ := hg
    obtain ⟨its, rv, p, hz⟩ := I.tuple hq
    have pt : s.heap.IsTuple a its.toArray := p
    obtain ⟨f0, f1, f2, f3, f4, f5⟩ := hf it (by simp)
    have hl := rv.length
    exact En.over (I.ok.hd hc) he hit pt (by simp; omega) fun h' eb => ⟨rfl, I.turned (t' := s.toks) (fun b o hb q => eb b o hb q) f0 f1 f3 f4 f5⟩
  self := fun A i s Q E st h => by
    obtain ⟨⟨_, he⟩, _⟩ := st
    exact wpAny_pyIter_enum he h
end L2
set_option Elab.async false
set_option linter.all false
set_option maxRecDepth 100000
set_option maxHeartbeats 4000000
namespace L2
open PySem PySem.Spec PyProof.Rows
def iEnumT (K : PySem.W.Frag) (ta : TA) : TI := fun σ H R => ta σ H fun vs H1 => ∃ a zs, vs = [.ref a] ∧ SqT K H1 a zs ∧ R (IteT K a) H1
theorem pi_enumT {X : Cx} {e : Expr} {ta : TA} {p pos tp : Pos} {elts : List Expr} {kk : Nat} (hg : Gl X "enumerate") (hm : X.mg "enumerate" = none) (ha : PA X [e] ta) (hs : starEach [e] X.env = [(false, eval e X.env)] := by rfl) :
    PI X (.Tuple elts kk tp) (.Call (.Name "enumerate" p) [e] [] pos) (iEnumT X.K ta) := by
  refine ⟨fun pins s σ G R I h => ?_⟩
  refine Call_ (ld_blt I hg hm boot_enumerate (PyProof.Rows.callWith_type1 (thn (ha.run pos pins s σ G _ I h) fun us z ⟨vs, G1, I1, r1, q1⟩ => ?_) hs rfl))
  obtain ⟨a, zs, ex, hq, q⟩ := q1
  subst ex
  cases r1 with
  | cons r rr =>
    cases rr
    cases r
    obtain ⟨its, rv, p2, hz⟩ := I1.tuple hq
    have pt : z.heap.IsTuple a its.toArray := p2
    refine En.begins1 (begins_tuple a its.toArray) pt fun h2 he hit hk => wpAny_pyIter_enum he ?_
    have I2 : Inv X pins σ G1 { z with heap := h2 } := I1.kept (t' := z.toks) hk
    refine ⟨z.heap.objs.size + 1, [z.heap.objs.size + 1, z.heap.objs.size], _, _, G1, rfl, I2, turn_enumT a (z.heap.objs.size + 1) z.heap.objs.size, ⟨⟨.none, he⟩, ⟨_, hit, rfl, rfl⟩, Nat.succ_ne_self _⟩, fun b hb => ?_, q⟩
    have le : z.heap.objs.size ≤ b := by
      have e2 : b = z.heap.objs.size + 1 ∨ b = z.heap.objs.size := by simpa using hb
      rcases e2 with e2 | e2
      · rw [e2]
        exact Nat.le_add_right _ _
      · rw [e2]
        exact Nat.le_refl _
    exact I1.fpOk le (I1.hok.fresh le)
section
variable {K : PySem.W.Frag} {a : Addr} {xs : List V}
theorem walk_enumT : Walk (IteT K a) xs.length (fun H => SqT K H a xs) (YPair (fun i => some (.int (i : Nat))) (fun i => xs[i]?)) := by
  refine ⟨fun i _ hi q => ⟨xs, xs[i], q, by simp [hi]⟩, fun _ q => ⟨xs, q, Nat.le_refl _⟩, fun i G v G' _ q y => ?_⟩
  obtain ⟨T, x, h1, h2, h3, h4⟩ := y
  exact ⟨T, _, x, h1, h2, h3, rfl, h4 xs q⟩
end
end L2
namespace Q
open PySem L2 PySem.Spec PyProof.Rows PySem.Calls
open Evl PB
theorem dw_enumT {K : PySem.W.Frag} {H1 : Hp} {a : Addr} {xs : List V} {ds : List PyData} (ha : H1 a = some (.tup xs)) (x : TDs H1 xs ds) : DW (IteT K a) H1 (numD ds) := by
  refine ⟨_, _, (by rw [numD_len]; exact x.len ▸ walk_enumT (K := K) (a := a) (xs := xs)), fun H' e => SqT.of (e _ _ ha), fun i v H H' hi e y => ?_⟩
  obtain ⟨T, u, z, rfl, hT, hH, hu, hz⟩ := y
  cases hu
  obtain ⟨d, hd, t⟩ := x.to hz
  obtain ⟨e2, t2⟩ := pair_td (v := .ref T) hT hH (TDs.int (i : Int) .nil) (t.mono e)
  exact ⟨e2, _, numD_at hd, t2⟩
theorem dwm_enumT {K : PySem.W.Frag} {H1 : Hp} {a Dl : Addr} {xs ys : List V} {ds : List PyData} (ha : H1 a = some (.tup xs)) (x : TDs H1 xs ds) (hD : H1 Dl = some (.lst ys)) : DWm Dl (IteT K a) H1 (numD ds) := by
  refine ⟨_, _, (by rw [numD_len]; exact x.len ▸ walk_enumT (K := K) (a := a) (xs := xs)), fun H' e => SqT.of (e.tk hD _ _ ha), fun i v H H' hi e y => ?_⟩
  obtain ⟨T, u, z, rfl, hT, hH, hu, hz⟩ := y
  cases hu
  obtain ⟨d, hd, t⟩ := x.to hz
  obtain ⟨e2, t2⟩ := pair_td (v := .ref T) hT hH (TDs.int (i : Int) .nil) (t.by (e.tk hD))
  exact ⟨e2, _, numD_at hd, t2⟩
section
variable {K : PySem.W.Frag} {σ : L2.St} {H H' : Hp} {ta : TA} {te tl tb : TE} {ds : List PyData}
theorem ei_enumT (h : EvD tl σ H (.tuple ds)) : EvI (iEnumT K (tCons tl tNil)) σ H (numD ds) := fun H1 e R q => h H1 e _ fun v H2 e2 hv => by
  obtain ⟨a, xs, rfl, ha, x⟩ := hv.tup
  exact ⟨a, xs, rfl, SqT.of ha, q _ H2 e2 (dw_enumT ha x)⟩
theorem em_enumT (h : EvD tl σ H (.tuple ds)) : EvIm (iEnumT K (tCons tl tNil)) σ H (numD ds) := fun H1 e Dl ⟨ys, hD⟩ R q => h H1 e _ fun v H2 e2 hv => by
  obtain ⟨a, xs, rfl, ha, x⟩ := hv.tup
  exact ⟨a, xs, rfl, SqT.of ha, q _ H2 e2 (dwm_enumT ha x (e2 _ _ hD))⟩
end
end Q
set_option Elab.async false
set_option linter.all false
set_option maxRecDepth 100000
set_option maxHeartbeats 4000000
/-! numbered members, boxes of members -/
namespace PB
open PySem
def nums {α : Type} (l : List α) : List (Nat × α) := (List.range l.length).zip l
section
variable {α β γ : Type}
theorem nums_len (l : List α) : (nums l).length = l.length := by
  unfold nums
  rw [List.length_zip, List.length_range, Nat.min_self]
theorem nums_snd (l : List α) : (nums l).map (·.2) = l := List.map_snd_zip (by rw [List.length_range]; exact Nat.le_refl _)
theorem nums_fst (l : List α) : (nums l).map (·.1) = List.range l.length := List.map_fst_zip (by rw [List.length_range]; exact Nat.le_refl _)
theorem nums_at {l : List α} {p : Nat × α} (h : p ∈ nums l) : l[p.1]? = some p.2 := by
  obtain ⟨j, hj⟩ := List.mem_iff_getElem?.mp h
  unfold nums at hj
  rw [List.getElem?_zip_eq_some] at hj
  obtain ⟨h1, h2⟩ := hj
  have lt := (List.getElem?_eq_some_iff.mp h1).1
  rw [List.length_range] at lt
  rw [List.getElem?_range lt] at h1
  cases h1
  exact h2
theorem nums_asc (l : List α) : (nums l).Pairwise fun a b => a.1 < b.1 := by
  rw [← List.pairwise_map (f := fun p : Nat × α => p.1) (R := (· < ·)), nums_fst]
  exact List.pairwise_lt_range
theorem nums_flat (l : List α) (F : α → List β) : ((nums l).flatMap fun p => F p.2) = l.flatMap F := by
  conv => rhs; rw [← nums_snd l, List.flatMap_map]
theorem nums_filt (l : List α) (p : α → Bool) (F : α → β) : ((nums l).filter fun q => p q.2).map (fun q => F q.2) = (l.filter p).map F := by
  conv => rhs; rw [← nums_snd l, List.filter_map, List.map_map]
  rfl
/-- numbered pairs with a test -/
def MT (l1 : List α) (l2 : List β) (t : α → β → Bool) : List ((Nat × α) × (Nat × β)) := (nums l1).flatMap fun a => ((nums l2).filter fun b => t a.2 b.2).map fun b => (a, b)
theorem MT_map (l1 : List α) (l2 : List β) (t : α → β → Bool) (F : α → β → γ) : (MT l1 l2 t).map (fun p => F p.1.2 p.2.2) = l1.flatMap fun a => (l2.filter (t a)).map (F a) := by
  unfold MT
  rw [List.map_flatMap, ← nums_flat l1 fun a => (l2.filter (t a)).map (F a)]
  congr 1
  funext a
  rw [List.map_map]
  exact nums_filt l2 (t a.2) (F a.2)
theorem MT_mem {l1 : List α} {l2 : List β} {t : α → β → Bool} {p : (Nat × α) × (Nat × β)} : p ∈ MT l1 l2 t ↔ p.1 ∈ nums l1 ∧ p.2 ∈ nums l2 ∧ t p.1.2 p.2.2 = true := by
  unfold MT
  rw [List.mem_flatMap]
  constructor
  · rintro ⟨a, ha, h⟩
    obtain ⟨b, hb, rfl⟩ := List.mem_map.mp h
    rw [List.mem_filter] at hb
    exact ⟨ha, hb.1, hb.2⟩
  · rintro ⟨h1, h2, h3⟩
    exact ⟨p.1, h1, List.mem_map.mpr ⟨p.2, by rw [List.mem_filter]; exact ⟨h2, h3⟩, rfl⟩⟩
theorem MT_len (l1 : List α) (l2 : List β) (t : α → β → Bool) : (MT l1 l2 t).length ≤ l1.length * l2.length := by
  have z := flat_le (fun a : Nat × α => ((nums l2).filter fun b => t a.2 b.2).map fun b => (a, b)) (c := l2.length) (l := nums l1) fun a _ => by
    rw [List.length_map]
    exact Nat.le_trans (List.length_filter_le _ _) (by rw [nums_len]; exact Nat.le_refl _)
  rw [nums_len] at z
  exact z
theorem nums_in {l : List α} {a : α} (h : a ∈ l) : ∃ i, (i, a) ∈ nums l := by
  rw [← nums_snd l] at h
  obtain ⟨p, hp, rfl⟩ := List.mem_map.mp h
  exact ⟨p.1, hp⟩
/-- the numbers at the right of a pair -/
theorem MT_right (l1 : List α) (l2 : List β) (t : α → β → Bool) (k : Int) : (∃ e ∈ MT l1 l2 t, ((e.2.1 : Nat) : Int) = k) ↔ k ∈ ((nums l2).filter fun b => l1.any fun a => t a b.2).map fun b => ((b.1 : Nat) : Int) := by
  rw [List.mem_map]
  constructor
  · rintro ⟨e, he, h⟩
    obtain ⟨h1, h2, h3⟩ := MT_mem.mp he
    refine ⟨e.2, ?_, h⟩
    rw [List.mem_filter, List.any_eq_true]
    exact ⟨h2, e.1.2, List.mem_of_getElem? (nums_at h1), h3⟩
  · rintro ⟨b, hb, h⟩
    rw [List.mem_filter, List.any_eq_true] at hb
    obtain ⟨h2, a, ha, h3⟩ := hb
    obtain ⟨i, hi⟩ := nums_in ha
    exact ⟨((i, a), b), MT_mem.mpr ⟨hi, h2, h3⟩, h⟩
theorem MT_left (l1 : List α) (l2 : List β) (t : α → β → Bool) (k : Int) : (∃ e ∈ MT l1 l2 t, ((e.1.1 : Nat) : Int) = k) ↔ k ∈ ((nums l1).filter fun a => l2.any fun b => t a.2 b).map fun a => ((a.1 : Nat) : Int) := by
  rw [List.mem_map]
  constructor
  · rintro ⟨e, he, h⟩
    obtain ⟨h1, h2, h3⟩ := MT_mem.mp he
    refine ⟨e.1, ?_, h⟩
    rw [List.mem_filter, List.any_eq_true]
    exact ⟨h1, e.2.2, List.mem_of_getElem? (nums_at h2), h3⟩
  · rintro ⟨a, ha, h⟩
    rw [List.mem_filter, List.any_eq_true] at ha
    obtain ⟨h1, b, hb, h3⟩ := ha
    obtain ⟨i, hi⟩ := nums_in hb
    exact ⟨(a, (i, b)), MT_mem.mpr ⟨h1, hi, h3⟩, h⟩
theorem filt_asc (l : List α) (p : Nat × α → Bool) : (((nums l).filter p).map fun b => ((b.1 : Nat) : Int)).Pairwise (· < ·) := by
  rw [List.pairwise_map]
  exact ((nums_asc l).filter p).imp fun h => by omega
end
/-- a member's box: the second part in a leaf, else the first -/
def boxAt (lf : Bool) (d : PyData) (x : Bx) : Prop := ∃ d1 d2, d = .tuple [d1, d2] ∧ (if lf = true then d2 else d1) = boxD x
def wdB (lf : Bool) : Str := if lf = true then "leaf" else "node"
end PB
namespace Q
open PySem L2 PySem.Spec PyProof.Rows PySem.Calls
open Evl PB
theorem numD_map {α : Type} (enc : α → PyData) (l : List α) : numD (l.map enc) = (nums l).map fun p => PyData.tuple [.int ((p.1 : Nat) : Int), enc p.2] := by
  refine List.ext_getElem? fun j => ?_
  rw [List.getElem?_map]
  cases h : l[j]? with
  | none =>
    have hl := List.getElem?_eq_none_iff.mp h
    rw [List.getElem?_eq_none (by rw [numD_len, List.length_map]; exact hl), List.getElem?_eq_none (by rw [nums_len]; exact hl)]
    rfl
  | some a =>
    have lt := (List.getElem?_eq_some_iff.mp h).1
    have z : (nums l)[j]? = some (j, a) := by
      unfold nums
      rw [List.getElem?_zip_eq_some]
      exact ⟨List.getElem?_range lt, h⟩
    rw [z, numD_at (d := enc a) (by rw [List.getElem?_map, h]; rfl)]
    rfl
abbrev sBoxOf : Stmt := top 34
def spBoxOf : Sp := fun vs H Q _ => ∃ (lf : Bool) (v : V) (d : PyData) (x : Bx), vs = [.str (wdB lf), v] ∧ TD1 H v d ∧ boxAt lf d x ∧ ∀ u H', Ex H H' → TD1 H' u (boxD x) → Q u H'
section
variable {K : PySem.W.Frag} {σ : L2.St} {H : Hp} {te tl ta tb : TE} {E : XK} {t : TT} {d : PyData}
theorem ed_if {b : Bool} (h : EvT t σ H b) (h1 : b = true → EvD ta σ H d) (h2 : b = false → EvD tb σ H d) : EvD (tIf t ta tb) σ H d := fun H1 e Q q => h H1 e _ fun H2 e2 => by
  cases b with
  | true => exact h1 rfl H2 (e.trans e2) _ fun v H3 e3 => q v H3 (e2.trans e3)
  | false => exact h2 rfl H2 (e.trans e2) _ fun v H3 e3 => q v H3 (e2.trans e3)
theorem ed_boxof {lf : Bool} {x : Bx} (h1 : Ev ta σ H (.str (wdB lf))) (h2 : EvD tb σ H d) (hb : boxAt lf d x) : EvD (tCall spBoxOf [] E (tCons ta (tCons tb tNil))) σ H (boxD x) := ed_call (da_cons (ed_str h1) (da_cons h2 da_nil)) fun vs H1 e t Q q => by
  obtain ⟨u, ys, rfl, hu, t⟩ := t.inv
  obtain ⟨v, zs, rfl, hv, t⟩ := t.inv
  cases t.inv0
  cases hu.str
  exact ⟨lf, v, d, x, rfl, hv, hb, fun w H2 e2 y => q w H2 e2 y⟩
theorem ed_apart {x o : Bx} (h1 : EvD ta σ H (boxD x)) (h2 : EvD tb σ H (boxD o)) : EvD (tCall spApart [] E (tCons ta (tCons tb tNil))) σ H (wordD (apW x o)) := ed_call (da_cons h1 (da_cons h2 da_nil)) fun vs H1 e t Q q => by
  obtain ⟨u, ys, rfl, hu, t⟩ := t.inv
  obtain ⟨v, zs, rfl, hv, t⟩ := t.inv
  cases t.inv0
  exact ⟨u, v, x, o, rfl, hu, hv, fun w H2 e2 y => q w H2 e2 y⟩
theorem et_isNone {o : Option Str} (h : EvD te σ H (wordD o)) : EvT (tTest (tOp rIsN te (tC .non))) σ H o.isNone := fun H1 e Q q =>
  h H1 e _ fun v H2 e2 x => ⟨rfl, _, rfl, by
    have z : decide (v = .non) = o.isNone := by
      cases o with
      | none =>
        have x : TD1 H2 v .none := x
        cases x
        rfl
      | some w =>
        have x : TD1 H2 v (.str w) := x
        rw [x.str]
        rfl
    rw [z]
    exact q H2 e2⟩
end
section
variable {P : Program} {w : World} {K : PySem.W.Frag} {mg : Str → Option Value} {base : Heap}
theorem scBoxOf : FnScope ["word", "member"] ["word", "member"] (defScope sBoxOf) := ⟨rfl, rfl, rfl, by decide +kernel, rfl, by decide +kernel, by decide +kernel⟩
theorem ok_boxof {f : Addr} {fd : FuncData} (F : Fun K "_box_of" "_box_of" sBoxOf f fd) : FnOk P w K mg base CX0 1 f fd ["word", "member"] spBoxOf := by
  refine F.ok scBoxOf (fun vs H Q E h => ?_) (fun cdv A' outer s H vs Q E hr h => ?_)
  · obtain ⟨lf, v, d, x, rfl, _⟩ := h
    rfl
  · obtain ⟨lf, v, d, x, rfl, hv, ⟨d1, d2, rfl, hb⟩, k⟩ := h
    refine ⟨_, pss_one (ps_ret (pe_ifExp (pt_cmpR op_eq (pv 0) pe_str (nomark _)) (pe_ix ix_tup (pv 1) pe_int (fun _ _ => rfl)) (pe_ix ix_tup (pv 1) pe_int (fun _ _ => rfl)))), ?_⟩
    refine s_retD (d := boxD x) (ed_if (b := lf) (et_is (et_test (ev_eqW (ev_var rfl))) ?_) (fun z => ?_) fun z => ?_) fun u H1 e1 y => k u H1 e1 y
    · cases lf
      · decide
      · decide
    · subst z
      rw [if_pos rfl] at hb
      rw [← hb]
      exact ed_ix (ed_var rfl hv) ⟨by decide, rfl⟩
    · subst z
      rw [if_neg (by decide)] at hb
      rw [← hb]
      exact ed_ix (ed_var rfl hv) ⟨by decide, rfl⟩
end
end Q
set_option Elab.async false
set_option linter.all false
set_option maxRecDepth 100000
set_option maxHeartbeats 4000000
/-! a tree: its form and its boxes -/
namespace Q
open PySem L2 PySem.Spec PyProof.Rows PySem.Calls
open Evl PB
abbrev sTake : Stmt := inClass (top 37) 1
abbrev sInit : Stmt := inClass (top 37) 0
section
variable {K : PySem.W.Frag} {σ : L2.St} {H H' : Hp} {te tl tv : TE} {ds : List PyData} {vs : List Nat} {wi : L2.TI} {w : World}
theorem dw_seq {a : Addr} {xs : List V} (ha : SqT K H a xs) (x : TDs H xs ds) : DW (Itt K a) H ds := by
  refine ⟨_, _, x.len ▸ walk_tup (K := K) (a := a) (xs := xs), fun H' e => ex_t e ha, fun i v H1 H' hi e y => ?_⟩
  obtain ⟨rfl, hv⟩ := y
  obtain ⟨d, hd, t⟩ := x.to hv
  exact ⟨Ex.refl _, d, hd, t.mono e⟩
theorem ei_seq {i : Nat} {v : V} (h : σ[i]? = some (some v)) (x : SeqD K H v ds) : EvI (iTup K (tVar i)) σ H ds := fun H1 e R q => by
  obtain ⟨a, xs, rfl, ha, t, _⟩ := x.mono e
  exact ⟨_, h, a, rfl, ⟨xs, ha⟩, q _ H1 (Ex.refl _) (dw_seq ha t)⟩
theorem ev_lenS {i : Nat} {v : V} (h : σ[i]? = some (some v)) (x : SeqD K H v ds) : Ev (tCB (rLn K) (tCons (tVar i) tNil)) σ H (.int ds.length) := fun H1 e Q q => by
  obtain ⟨a, xs, rfl, ha, t, _⟩ := x.mono e
  exact ⟨_, h, a, xs, rfl, .inr ha, by
    rw [t.len]
    exact q H1 (Ex.refl _)⟩
theorem et_isSeq {i : Nat} {v : V} (h : σ[i]? = some (some v)) (x : SeqD K H v ds) : EvT (tB (tCB (rIsi K) (tCons (tVar i) (tCons (tC (.ty "tuple")) tNil)))) σ H true := by
  obtain ⟨a, xs, rfl, ha, _, t⟩ := x
  exact et_isiT h (t H (Ex.refl _)) (kit_ty (by decide +kernel)) fun H1 e1 => t H1 e1
/-- walks that give entries in some order -/
def EvIx (wi : L2.TI) (σ : L2.St) (H : Hp) (P : List (Int × Bx) → Prop) : Prop := ∀ H1, Ex H H1 → ∀ R : It → Hp → Prop, (∀ J H2 (qs : List (Int × Bx)), Ex H1 H2 → DW J H2 (qs.map entD) → P qs → R J H2) → wi σ H1 R
theorem ix_of {es : List (Int × Bx)} (h : EvI wi σ H (es.map entD)) : EvIx wi σ H (fun qs => qs = es) := fun H1 e R q => h H1 e R fun J H2 e2 dw => q J H2 es e2 dw rfl
/-- the entries by their numbers -/
def ByNum (es qs : List (Int × Bx)) : Prop := qs.Perm es ∧ qs.Pairwise fun a b => a.1 ≤ b.1
theorem ix_sorted {es : List (Int × Bx)} (h : EvSq K te σ H (es.map entD)) (nd : (es.map (·.1)).Nodup) : EvIx (iList K (tCB (rSortF K) (tCons te tNil))) σ H (ByNum es) := fun H1 e R q =>
  go_sortF h nd e fun p ys qs H2 _ e2 hp t pm po => ⟨p, rfl, ⟨_, SqL.of hp⟩, q _ H2 qs e2 (dw_list hp t) ⟨pm, po⟩⟩
def Cdc (H : Hp) (F : Int × Bx → PyData) (es : List (Int × Bx)) (Dl : Addr) (i : Nat) (H' : Hp) : Prop := H Dl = none ∧ Ex H H' ∧ ∃ kvs : List (Key × V), H' Dl = some (.dK kvs) ∧ kvs.map (·.1) = ((es.take i).map fun e => Sum.inl e.1) ∧ TDs H' (kvs.map (·.2)) ((es.take i).map F)
theorem putK_new {kvs : List (Key × V)} {k : Key} {v : V} (h : k ∉ kvs.map (·.1)) : putK kvs k v = kvs ++ [(k, v)] := by
  unfold putK
  rw [if_neg]
  intro z
  obtain ⟨p, hp, e⟩ := List.any_eq_true.mp z
  exact h (List.mem_map.mpr ⟨p, hp, of_decide_eq_true e⟩)
theorem upd_tupD {H : Hp} {Dl : Addr} {xs ys : List (Key × V)} (h : H Dl = some (.dK xs)) : ∀ a zs, H a = some (.tup zs) → upd H Dl (.dK ys) a = some (.tup zs) := fun a zs ha => by
  rw [upd_ne fun z => by
    rw [z, h] at ha
    cases ha]
  exact ha
/-- {number: .. for number, box in entries} -/
theorem go_dc {P : List (Int × Bx) → Prop} {F : Int × Bx → PyData} {i1 i2 : Nat} (h : EvIx wi σ H P) (hP : ∀ qs, P qs → (qs.map (·.1)).Nodup ∧ qs.length ≤ 1000) (hw : ∀ x y, wipe (((wipe σ vs).set i1 (some x)).set i2 (some y)) vs = wipe σ vs)
    (h1 : ∀ x y, ((((wipe σ vs).set i1 (some x)).set i2 (some y)))[i1]? = some (some x)) (hv : ∀ (e : Int × Bx) y (H1 : Hp), Ex H H1 → TD1 H1 y (boxD e.2) → EvD tv (((wipe σ vs).set i1 (some (.int e.1))).set i2 (some y)) H1 (F e))
    {H1 : Hp} (e : Ex H H1) {Q : VK} (q : ∀ D kvs qs H2, H1 D = none → Ex H1 H2 → H2 D = some (.dK kvs) → P qs → kvs.map (·.1) = (qs.map fun e => Sum.inl e.1) → TDs H2 (kvs.map (·.2)) (qs.map F) → Q (.ref D) H2) :
    tDc wi (gTup K 2 (gCons (gName i1) (gCons (gName i2) gNil))) tYes (tVar i1) tv vs σ H1 Q :=
  h H1 e _ fun J H2 qs e2 dw pm Dl hD => by
    obtain ⟨G, Y, wk, hG, hY⟩ := dw.ex
    rw [List.length_map] at wk hY
    obtain ⟨qnd, ql⟩ := hP qs pm
    refine ⟨fun i m H' => m = qs.length - i ∧ i ≤ qs.length ∧ Cdc H2 F qs Dl i H', ⟨qs.length, by simp, Nat.zero_le _, hD, Ex.new hD, [], upd_same, by rw [List.take_zero]; rfl, .nil⟩, ?_⟩
    rintro i m H3 ⟨rfl, hi, c1, c2, kvs, c3, c4, c5⟩
    have kl : kvs.length = i := by
      have z := congrArg List.length c4
      rw [List.length_map, List.length_map, List.length_take] at z
      omega
    by_cases hlt : i < qs.length
    · refine .inr ⟨wk.goes i H3 hlt (hG H3 c2), Cdc H2 F qs Dl (i + 1), fun H' c' => ⟨qs.length - (i + 1), by omega, rfl, hlt, c'⟩, fun x H4 y => ?_⟩
      obtain ⟨e4, d, hd, t⟩ := hY i x H3 H4 hlt c2 (wk.yields i H3 x H4 hlt (hG H3 c2) y)
      rw [List.getElem?_map] at hd
      obtain ⟨en, hen, rfl⟩ := Option.map_eq_some_iff.mp hd
      obtain ⟨a, xs, rfl, ha, t⟩ := t.tup
      obtain ⟨u1, ys, rfl, y1, t⟩ := t.inv
      obtain ⟨u2, zs, rfl, y2, t⟩ := t.inv
      cases t.inv0
      cases y1.int
      refine ⟨a, _, rfl, SqT.of ha, rfl, _, _, rfl, u2, _, rfl, rfl, hw _ _, yes_ite ⟨_, h1 _ _, hv en u2 H4 (((e.trans e2).trans c2).trans e4) y2 H4 (Ex.refl _) _ fun v H5 e5 tv => ?_⟩⟩
      have c35 := e5 _ _ (e4 _ _ c3)
      refine ⟨kvs, .inl en.1, rfl, c35, by rw [kl]; exact Nat.lt_of_lt_of_le (show i < 1001 by omega) (by decide), c1, Ex.mut ((c2.trans e4).trans e5) c1, _, upd_same, ?_⟩
      have nk : (Sum.inl en.1 : Key) ∉ kvs.map (·.1) := by
        rw [c4]
        intro z
        obtain ⟨f, hf, ef⟩ := List.mem_map.mp z
        obtain ⟨j, hj⟩ := List.mem_iff_getElem?.mp hf
        have jl : j < i := by
          have := (List.getElem?_eq_some_iff.mp hj).1
          rw [List.length_take] at this
          omega
        rw [List.getElem?_take_of_lt jl] at hj
        have e1 : (qs.map (·.1))[j]? = (qs.map (·.1))[i]? := by
          rw [List.getElem?_map, List.getElem?_map, hj, hen]
          exact congrArg some (Sum.inl.inj ef)
        have := (List.getElem?_inj (by rw [List.length_map]; omega) qnd).mp e1
        omega
      rw [putK_new nk, List.map_append, c4, take_snoc hen, List.map_append, List.map_append, List.map_append]
      exact ⟨rfl, (((c5.mono e4).mono e5).app tv).by (upd_tupD c35)⟩
    · have ei : i = qs.length := by omega
      subst ei
      rw [List.take_length] at c4 c5
      exact .inl ⟨wk.stops H3 (hG H3 c2), q Dl kvs qs H3 (fresh_back e2 c1) (e2.trans c2) c3 pm c4 c5⟩
def rLnD : List V → Hp → VK → Prop := fun xs H Q => ∃ a kvs, xs = [V.ref a] ∧ H a = some (.dK kvs) ∧ Q (.int kvs.length) H
theorem cr_lenD {X : Cx} : CallR X (.builtin "len") rLnD := call_lenD
end
/-- the attributes of a tree -/
abbrev trF (fv bv : V) : List (Str × V) := [("_form", fv), ("_boxes", bv)]
theorem fb_ : ¬ (("_form" : Str) = "_boxes") := by decide +kernel
theorem bf_ : ¬ (("_boxes" : Str) = "_form") := by decide +kernel
theorem put_trF {fs : List (Str × V)} (h : fs = [] ∨ ∃ x y, fs = trF x y) (f b : V) : putF "_boxes" b (putF "_form" f fs) = trF f b := by
  rcases h with rfl | ⟨x, y, rfl⟩
  · show (if ("_form" : Str) = "_boxes" then [(("_form" : Str), b)] else (("_form" : Str), f) :: putF "_boxes" b []) = _
    rw [if_neg fb_]
    rfl
  · show putF "_boxes" b (if ("_form" : Str) = "_form" then (("_form" : Str), f) :: [(("_boxes" : Str), y)] else _) = _
    rw [if_pos rfl]
    show (if ("_form" : Str) = "_boxes" then _ else (("_form" : Str), f) :: (if ("_boxes" : Str) = "_boxes" then [(("_boxes" : Str), b)] else _)) = _
    rw [if_neg fb_, if_pos rfl]
theorem look_form (f b : V) : (trF f b).lookup ("_form" : Str) = some f := rfl
/-- as it was but for the thing at a -/
theorem Mx.refl (D : Addr) (H : Hp) : Mx D H H := fun _ _ _ h => h
theorem Mx.trans {D : Addr} {H H1 H2 : Hp} (a : Mx D H H1) (b : Mx D H1 H2) : Mx D H H2 := fun l o n h => b l o n (a l o n h)
theorem Mx.of {D : Addr} {H H' : Hp} (e : Ex H H') : Mx D H H' := fun l o _ h => e l o h
theorem Mx.tkI {D C dx : Addr} {fs : List (Str × V)} {H H' : Hp} (m : Mx D H H') (h : H D = some (.ins C dx fs)) : TKp H H' := fun a ys ha => m a _ (fun z => by
  rw [z, h] at ha
  cases ha) ha
section
variable {K : PySem.W.Frag} {σ : L2.St} {H : Hp} {te ta tv : TE} {D : Ends} {tz : TS} {a C dx : Addr} {fs : List (Str × V)} {f : Str} {y : V}
theorem q_fld (h : Ev tv σ H y) (hx : ∀ H1, Ex H H1 → Ev ta σ H1 (.ref a)) (ha : H a = some (.ins C dx fs)) (cl : Cls K C) (n : NoAttr K C f) (hl : fs.length < 1000) (k : ∀ H1, Ex H H1 → tz D σ (upd H1 a (.ins C dx (putF f y fs)))) : tSeq (sFld K ta tv f) tz D σ H :=
  h H (Ex.refl _) _ fun H1 e1 => hx H1 e1 H1 (Ex.refl _) _ fun H2 e2 => ⟨a, C, dx, fs, rfl, (e1.trans e2) _ _ ha, cl, n, hl, k H2 (e1.trans e2)⟩
theorem s_fldQ (h : tv σ H fun y H1 => ta σ H1 fun x H2 => ∃ a C dx fs, x = .ref a ∧ H2 a = some (.ins C dx fs) ∧ Cls K C ∧ NoAttr K C f ∧ fs.length < 1000 ∧ D.nx σ (upd H2 a (.ins C dx (putF f y fs)))) : sFld K ta tv f D σ H := h
end
structure TrC (K : PySem.W.Frag) (mg : Str → Option Value) (C : Addr) : Prop where
  cl : Cls K C
  nF : NoAttr K C "_form"
  nB : NoAttr K C "_boxes"
  mgT : mg "Tree" = some (.ref C)
  kT : PySem.W.keepIn K (.ref C) = true
  ins : C8.InsC K C
/-- the dict of the boxes -/
def DicB (H : Hp) (D : Addr) (qs : List (Int × Bx)) : Prop := ∃ kvs : List (Key × V), H D = some (.dK kvs) ∧ kvs.map (·.1) = (qs.map fun e => Sum.inl e.1) ∧ TDs H (kvs.map (·.2)) (qs.map fun e => boxD e.2)
theorem DicB.mono {H H' : Hp} (e : Ex H H') {D : Addr} {qs : List (Int × Bx)} (h : DicB H D qs) : DicB H' D qs := by
  obtain ⟨kvs, h1, h2, h3⟩ := h
  exact ⟨kvs, e _ _ h1, h2, h3.mono e⟩
theorem DicB.mx {H H' : Hp} {a C dx : Addr} {fs : List (Str × V)} (m : Mx a H H') (ha : H a = some (.ins C dx fs)) {D : Addr} {qs : List (Int × Bx)} (h : DicB H D qs) : DicB H' D qs := by
  obtain ⟨kvs, h1, h2, h3⟩ := h
  exact ⟨kvs, m _ _ (fun z => by
    rw [z, ha] at h1
    cases h1) h1, h2, h3.by (m.tkI ha)⟩
def spTake (C : Addr) : Sp := fun vs H Q _ => ∃ (a dx : Addr) (v : V) (fs : List (Str × V)) (n : Nat) (f : Fm n), vs = [.ref a, v] ∧ H a = some (.ins C dx fs) ∧ (fs = [] ∨ ∃ x y, fs = trF x y) ∧ TD1 H v (formD n f) ∧ thin n f ∧ n ≤ 3 ∧ ((ents n f).map (·.1)).Nodup ∧
  ∀ D qs H', H D = none → Mx a H H' → H' a = some (.ins C dx (trF v (.ref D))) → DicB H' D qs → ByNum (ents n f) qs → Q .non H'
section
variable {P : Program} {w : World} {K : PySem.W.Frag} {mg : Str → Option Value} {base : Heap}
abbrev nmTake : List Str := ["self", "form", "number", "box"]
theorem scTake : FnScope nmTake ["self", "form"] (defScope sTake) := ⟨rfl, rfl, rfl, by decide +kernel, rfl, by decide +kernel, by decide +kernel⟩
theorem ok_take {C f : Addr} {fd : FuncData} (F : Fun K "_take_form" "Tree._take_form" sTake f fd) (TC : TrC K mg C) (So : TSo mg) (CE : Cl P w K mg base 4 "entries_of" (spEnts 4)) : FnOk P w K mg base CX0 5 f fd ["self", "form"] (spTake C) := by
  refine F.ok scTake (fun vs H Q E h => ?_) (fun cdv A' outer s H vs Q E hr h => ?_)
  · obtain ⟨a, dx, v, fs, n, g, rfl, _⟩ := h
    rfl
  · obtain ⟨a, dx, v, fs, n, g, rfl, ha, hfs, hx, ht, h3, nd, k⟩ := h
    refine ⟨_, (pss_cons (ps_fld (pv 0) (pv 1) rfl)
      (pss_one (ps_fld (pv 0) (pe_dc (own := [("number", 2), ("box", 3)]) (g := gTup K 2 (gCons (gName 2) (gCons (gName 3) gNil))) (by rfl) scTake.nd (pi_list (pe_callB cr_sortF (by rfl) So.sorted (by decide +kernel) (pa_cons (pe_cl CE hr (by decide) (by rfl) (pa_cons (pv 1) pa_nil)) pa_nil)))
            (blkOk_by (own := [("number", 2), ("box", 3)]) (N := nmTake) (sc := defScope sTake) (by decide +kernel))
            (fun _ _ _ _ _ => by exact (pg_tup (by rfl) (pgs_cons (pg_name (i := 2) scTake.nd rfl (Or.inl rfl)) (pgs_cons (pg_name (i := 3) scTake.nd rfl (Or.inl rfl)) pgs_nil)))) (fun _ _ _ _ _ => pts_nil)
            (tk := tVar 2) (fun _ _ _ _ _ => by exact (pv 2)) (tv := tVar 3) (fun _ _ _ _ _ => by exact (pv 3))) rfl))), ?_⟩
    have fl : fs.length ≤ 2 := by
      rcases hfs with rfl | ⟨x, y, rfl⟩
      · exact Nat.zero_le _
      · exact Nat.le_refl _
    refine q_fld (ev_var rfl) (fun H1 _ => ev_var rfl) ha TC.cl TC.nF (by omega) fun H1 e1 => ?_
    have ha1 := e1 _ _ ha
    have m1 : Mx a H (upd H1 a (.ins C dx (putF "_form" v fs))) := fun l o n h => by
      rw [upd_ne n]
      exact e1 _ _ h
    have tk := m1.tkI ha
    have el := ents_len n g ht
    have p4 : 4 ^ (n + 1) ≤ 256 := by
      match n, h3 with
      | 0, _ => decide
      | 1, _ => decide
      | 2, _ => decide
      | 3, _ => decide
    refine s_fldQ (go_dc (K := K) (P := ByNum (ents n g)) (F := fun e => boxD e.2) (σ := [some (.ref a), some v, none, none]) (vs := [2, 3]) (i1 := 2) (i2 := 3) (tv := tVar 3) (ix_sorted (sq_list (ld_new (eds_ents (m := 4) (n := n) (f := g) (te := tVar 1) (ed_var (i := 1) (v := v) rfl (hx.by tk)) (by omega) ht h3))) nd) (fun qs h => ⟨(h.1.map (·.1)).nodup_iff.mpr nd, by rw [h.1.length_eq]; omega⟩) (fun _ _ => rfl) (fun _ _ => rfl) (fun e y H1 _ ty => ed_var rfl ty) (Ex.refl _) fun D kvs qs H2 hD e2 hD2 hq k1 k2 => ?_)
    have ha2 := e2 _ _ (upd_same (H := H1) (a := a) (o := .ins C dx (putF "_form" v fs)))
    have l2 := length_putF "_form" v fs
    refine ⟨_, rfl, a, C, dx, _, rfl, ha2, TC.cl, TC.nB, by omega, ?_⟩
    rw [put_trF hfs]
    have m2 : Mx a H2 (upd H2 a (.ins C dx (trF v (.ref D)))) := fun l o n h => by
      rw [upd_ne n]
      exact h
    have nDa : D ≠ a := fun z => by
      rw [z, upd_same] at hD
      cases hD
    have nD0 : H D = none := fresh_back e1 (by rw [upd_ne nDa] at hD; exact hD)
    exact k D qs _ nD0 (fun l o n h => m2 l o n (e2 _ _ (m1 l o n h))) upd_same (DicB.mx m2 ha2 ⟨kvs, hD2, k1, k2⟩) hq
end
end Q
set_option Elab.async false
set_option linter.all false
set_option maxRecDepth 100000
set_option maxHeartbeats 4000000
/-! Tree(entries) -/
namespace Q
open PySem L2 PySem.Spec PyProof.Rows PySem.Calls
open Evl PB
/-- a method of the class at C -/
structure Mt (P : Program) (w : World) (K : PySem.W.Frag) (mg : Str → Option Value) (base : Heap) (k : Nat) (C : Addr) (m : Str) (sp : Sp) : Prop where
  ex : ∃ (f : Addr) (fd : FuncData) (ps : List Str), Cls K C ∧ Meth K C m f ∧ FnOk P w K mg base CX0 k f fd ps sp ∧ Binds K fd ps []
section
variable {X : Cx} {k j : Nat} {C : Addr} {m : Str} {sp : Sp} {pos apos : Pos} {e o : Expr} {es : List Expr} {ta : TE} {t : TA}
theorem pe_mtQ {pl : Sem Bool} (c : Mt X.prog X.w X.K X.mg X.base k C m sp) (hr : Room j X.A) (hk : k ≤ j) (he : PE X o ta) (ha : PA X (e :: es) t)
    (hst : starEach (e :: es) X.env = (false, eval e X.env) :: starEach es X.env := by rfl) (hpl : (backTo pos (starEach es X.env)).any (·.1) = false := by rfl)
    (hm : eval (.Call (.Attribute o m apos) (e :: es) [] pos) X.env = (do
      let z ← eval o X.env
      standAt apos.atName
      let (g, front) ← holding [z] (getMethod z m pl)
      callWith pos g front (backTo pos (starEach (e :: es) X.env)) (backToKw pos (keywordEach [] X.env))) := by rfl) :
    PE X (.Call (.Attribute o m apos) (e :: es) [] pos) (tMeth C m sp [] E0 ta t) := by
  obtain ⟨f, fd, ps, h1, h2, F, b⟩ := c.ex
  exact pe_meth (pl := pl) he h1 h2 F (hr.mono hk) b .nil pass0 ha hst hpl hm
end
section
variable {K : PySem.W.Frag} {σ : L2.St} {H : Hp} {tv : TE} {vs : List Nat} {wi : L2.TI}
theorem go_cb1 {r : List V → Hp → VK → Prop} {te : TE} {Q : VK} (h : te σ H fun v H1 => r [v] H1 Q) : tCB r (tCons te tNil) σ H Q := h
theorem ev_lenDc {es : List (Int × Bx)} {i1 i2 : Nat} (h : EvIx wi σ H (fun qs => qs = es)) (nd : (es.map (·.1)).Nodup) (hl : es.length ≤ 1000) (hw : ∀ x y, wipe (((wipe σ vs).set i1 (some x)).set i2 (some y)) vs = wipe σ vs)
    (h1 : ∀ x y, ((((wipe σ vs).set i1 (some x)).set i2 (some y)))[i1]? = some (some x)) (hv : ∀ (e : Int × Bx) y (H1 : Hp), Ex H H1 → TD1 H1 y (boxD e.2) → EvD tv (((wipe σ vs).set i1 (some (.int e.1))).set i2 (some y)) H1 (.bool true)) :
    Ev (tCB rLnD (tCons (tDc wi (gTup K 2 (gCons (gName i1) (gCons (gName i2) gNil))) tYes (tVar i1) tv vs) tNil)) σ H (.int es.length) := fun H1 e Q q =>
  go_cb1 (go_dc (K := K) (F := fun _ => .bool true) h (fun qs h => by subst h; exact ⟨nd, hl⟩) hw h1 hv e fun D kvs qs H2 _ e2 hD hq k1 k2 => ⟨D, kvs, rfl, hD, by
    have kl := congrArg List.length k1
    rw [List.length_map, List.length_map] at kl
    subst hq
    rw [kl]
    exact q H2 e2⟩)
end
theorem ed_bl {σ : L2.St} {H : Hp} {te : TE} {b : Bool} (h : Ev te σ H (.bl b)) : EvD te σ H (.bool b) := fun H1 e Q q => h H1 e _ fun H2 e2 => q _ H2 e2 (.bl b .nil)
def spInit (K : PySem.W.Frag) (C : Addr) : Sp := fun vs H Q _ => ∃ (a dx : Addr) (v : V) (es : List (Int × Bx)), vs = [.ref a, v] ∧ H a = some (.ins C dx []) ∧ SeqD K H v (es.map entD) ∧ es.length ≤ 15 ∧ (es.map (·.1)).Nodup ∧ (∀ e ∈ es, e.2.ok) ∧
  ∀ (n : Nat) (f : Fm n) u D qs H', H D = none → Mx a H H' → H' a = some (.ins C dx (trF u (.ref D))) → TD1 H' u (formD n f) → DicB H' D qs → ByNum (ents n f) qs → (ents n f).Perm es → sizes n f → least n f → n ≤ 1 → Q .non H'
section
variable {P : Program} {w : World} {K : PySem.W.Frag} {mg : Str → Option Value} {base : Heap}
abbrev nmInit : List Str := ["self", "entries", "entry", "number", "_"]
theorem scInit : FnScope nmInit ["self", "entries"] (defScope sInit) := ⟨rfl, rfl, rfl, by decide +kernel, rfl, by decide +kernel, by decide +kernel⟩
theorem ok_init {C f : Addr} {fd : FuncData} {dvs : List V} (F : FunD K "__init__" "Tree.__init__" (defArgs sInit) (defBody sInit) (defScope sInit) dvs [] f fd) (T : TI mg) (A : TAl mg) (TC : TrC K mg C) (G : TGl mg) (CIE : Cl P w K mg base 3 "is_entry" spIsEnt) (CP : Cl P w K mg base 3 "packed" (spPacked K)) (MT : Mt P w K mg base 5 C "_take_form" (spTake C)) :
    FnOk P w K mg base CX0 6 f fd ["self", "entries"] (spInit K C) := by
  obtain ⟨t3, g3⟩ := G.max
  refine F.ok scInit (fun vs H Q E h => ?_) (fun cdv A' outer s H vs Q E hr h => ?_)
  · obtain ⟨a, dx, v, es, rfl, _⟩ := h
    rfl
  · obtain ⟨a, dx, v, es, rfl, ha, hx, hl, nd, hb, k⟩ := h
    refine ⟨_, PSs.nox (pss_cons (ps_if (pw_or (pt_not (pt_val (pe_callB call_isi (by rfl) T.isi PyProof.Rows.boot_isinstance (pa_cons (pv 1) (pa_cons (pe_bltn (v := .ty "tuple") (by rfl) T.tuple (by decide +kernel) rfl) pa_nil))))) (pw_or1 (pt_not (pt_val (pe_callB (cr_all rfl) (by rfl) A.all (by decide +kernel) (pa_cons (pe_lc (own := [("entry", 2)]) (g := gName 2) (by rfl) scInit.nd (pi_tup (pv 1))
            (blkOk_by (own := [("entry", 2)]) (N := nmInit) (sc := defScope sInit) (by decide +kernel))
            (fun _ _ _ _ _ => pg_name (i := 2) scInit.nd rfl (Or.inl rfl)) (fun _ _ _ _ _ => pts_nil)
            (te := tCall spIsEnt [] E0 (tCons (tVar 2) tNil)) (fun _ _ _ _ _ => by exact (pe_cl CIE hr (by decide) (by rfl) (by exact (pa_cons (pv 2) pa_nil))))) pa_nil)))))).pt pss_never pss_nil)
      (pss_cons (ps_if (pt_cmpR op_lt (pe_callB cr_lenD (by rfl) T.len PySem.boot_len (pa_cons (pe_dc (own := [("number", 3), ("_", 4)]) (g := gTup K 2 (gCons (gName 3) (gCons (gName 4) gNil))) (by rfl) scInit.nd (pi_tup (pv 1))
            (blkOk_by (own := [("number", 3), ("_", 4)]) (N := nmInit) (sc := defScope sInit) (by decide +kernel))
            (fun _ _ _ _ _ => by exact (pg_tup (by rfl) (pgs_cons (pg_name (i := 3) scInit.nd rfl (Or.inl rfl)) (pgs_cons (pg_name (i := 4) scInit.nd rfl (Or.inl rfl)) pgs_nil)))) (fun _ _ _ _ _ => pts_nil)
            (tk := tVar 3) (fun _ _ _ _ _ => by exact (pv 3)) (tv := tC (.bl true)) (fun _ _ _ _ _ => by exact pe_bl)) pa_nil)) (pe_callB call_len_seq (by rfl) T.len PySem.boot_len (pa_cons (pv 1) pa_nil)) (nomark _)) pss_never pss_nil)
      (pss_cons (ps_if (pt_cmpR op_gt (pe_callB call_len_seq (by rfl) T.len PySem.boot_len (pa_cons (pv 1) pa_nil)) (pe_glob (v := .int 300) (by rfl) g3 ⟨_, rfl⟩) (nomark _)) pss_never pss_nil)
      (pss_one (ps_expr (pe_mtQ MT hr (by decide) (pv 0) (pa_cons (pe_cl CP hr (by decide) (by rfl) (pa_cons (pv 1) pa_nil)) pa_nil))))))), ?_⟩
    refine q_not (et_or (et_not (a := true) (et_isSeq rfl hx)) fun _ => et_not (et_B (ev_allLc (ei_seq rfl hx) (by omega) fun e he => turn_nm (fun _ => rfl) (fun _ _ _ _ => et_yes) fun u H1 e1 y _ => ed_true (ev_isent (ed_var rfl y) (hb e he))))) fun H1 e1 => ?_
    have hx1 := hx.mono e1
    refine q_not (et_is (et_test (ev_op (ev_lenDc (K := K) (es := es) (σ := [some (.ref a), some v, none, none, none]) (vs := [3, 4]) (i1 := 3) (i2 := 4) (tv := tC (.bl true)) (ix_of (ei_seq rfl hx1)) nd (by omega) (fun _ _ => rfl) (fun _ _ => rfl) fun x y H1 _ _ => ed_bl (ev_c (v := .bl true))) (ev_lenS rfl hx1) rv_I0)) (by rw [List.length_map]; exact decide_eq_false (by omega))) fun H2 e2 => ?_
    have hx2 := hx1.mono e2
    refine q_not (et_is (et_test (ev_op (ev_lenS rfl hx2) ev_c rv_I0)) (by rw [List.length_map]; exact decide_eq_false (by omega))) fun H3 e3 => ?_
    have e03 := (e1.trans e2).trans e3
    refine ⟨_, rfl, a, dx, [], rfl, e03 _ _ ha, rfl, ?_⟩
    refine ⟨_, rfl, v, es, rfl, hx2.mono e3, hl, nd, fun n g u H4 e4 tu pm th le n1 => ?_⟩
    refine ⟨a, dx, u, [], n, g, rfl, (e03.trans e4) _ _ ha, .inl rfl, tu, sizes_thin n g th, by omega, (pm.map (·.1)).nodup_iff.mpr nd, fun D qs H5 nD mx ha5 hD hq => ?_⟩
    exact k n g u D qs H5 (fresh_back (e03.trans e4) nD) ((Mx.of (e03.trans e4)).trans mx) ha5 (tu.by (mx.tkI ((e03.trans e4) _ _ ha))) hD hq pm th le n1
end
end Q
set_option Elab.async false
set_option linter.all false
set_option maxRecDepth 100000
set_option maxHeartbeats 4000000
/-! trees -/
namespace Q
open PySem L2 PySem.Spec PyProof.Rows PySem.Calls
open Evl PB
abbrev sTold : Stmt := inClass (top 37) 2
/-- a tree with this form stands at a -/
def TrA (C : Addr) (H : Hp) (a : Addr) (n : Nat) (f : Fm n) : Prop := ∃ dx u D qs, H a = some (.ins C dx (trF u (.ref D))) ∧ TD1 H u (formD n f) ∧ DicB H D qs ∧ ByNum (ents n f) qs
theorem TrA.mono {C : Addr} {H H' : Hp} (e : Ex H H') {a : Addr} {n : Nat} {f : Fm n} (h : TrA C H a n f) : TrA C H' a n f := by
  obtain ⟨dx, u, D, qs, h1, h2, h3, h4⟩ := h
  exact ⟨dx, u, D, qs, e _ _ h1, h2.mono e, h3.mono e, h4⟩
section
variable {K : PySem.W.Frag} {σ : L2.St} {H : Hp} {te ta tb : TE} {C a : Addr} {n m : Nat} {f : Fm n} {g : Fm m} {E : XK}
theorem ed_form {i : Nat} {mg : Str → Option Value} (TC : TrC K mg C) (h : σ[i]? = some (some (.ref a))) (x : TrA C H a n f) : EvD (tFld K (tVar i) "_form") σ H (formD n f) := fun H1 e Q q => by
  obtain ⟨dx, u, D, qs, h1, h2, _⟩ := x.mono e
  exact ⟨_, h, a, C, dx, trF u (.ref D), u, rfl, h1, TC.cl, TC.nF, look_form u _, q u H1 (Ex.refl _) h2⟩
theorem q_asgG {D : Ends} {tz : TS} {g : TG} (h : te σ H fun v H1 => g v σ H1 fun σ2 H2 => tz D σ2 H2) : tSeq (tAsg te g) tz D σ H := h
theorem s_retQ {D : Ends} (h : te σ H D.rt) : tRet te D σ H := h
theorem go_tupL {Q : VK} (h : te σ H fun v H1 => ∃ p ys, [v] = [V.ref p] ∧ ((SqL K H1 p ys ∧ ∀ l, H1 l = none → Q (.ref l) (upd H1 l (.tup ys))) ∨ (SqT K H1 p ys ∧ Q (.ref p) H1))) : tCB (fun xs H Q => ∃ p ys, xs = [.ref p] ∧ ((SqL K H p ys ∧ ∀ l, H l = none → Q (.ref l) (upd H l (.tup ys))) ∨ (SqT K H p ys ∧ Q (.ref p) H))) (tCons te tNil) σ H Q := h
end
section
variable {X : Cx} {k i : Nat} {f C : Addr} {fd : FuncData} {ps : List Str} {sp : Sp} {dvs : List V} {ds : List Value} {x : Str} {p pos : Pos}
/-- a local name that holds a class, called with nothing -/
def tMakeL (i : Nat) (C : Addr) (sp : Sp) (dvs : List V) : TE := fun σ H Q => σ[i]? = some (some (.ref C)) ∧ ∀ x dx, H x = none → H dx = none → dx ≠ x → sp (.ref x :: dvs) (upd (upd H dx (.own x)) x (.ins C dx [])) (fun v H2 => v = .non ∧ Q (.ref x) H2) E0
theorem pe_makeL (M : Mk X.K C f) (F : FnOk X.prog X.w X.K X.mg X.base CX0 k f fd ps sp) (hr : Room (k + 1) X.A) (hN : X.N[i]? = some x) (hv : Vis X.env.scope x) (hb : Binds X.K fd ps ds) (hd : Vals dvs ds) (hdb : (x == ("__debug__" : Str)) = false := by decide) (hcd : (x == ("__classdict__" : Str)) = false := by decide) :
    PE X (.Call (.Name x p) [] [] pos) (tMakeL i C sp dvs) := by
  refine ⟨fun pins s σ H Q I h => ?_⟩
  obtain ⟨hs, ht⟩ := h
  refine wpAny_Call_Name_kw (thn ((pe_var (pos := p) hN hv hdb hcd).run pins s σ H (fun v G => v = .ref C ∧ G = H) I ⟨.ref C, hs, rfl, rfl⟩) fun u z ⟨v, G, J, r1, q1⟩ => ?_)
  obtain ⟨rfl, rfl⟩ := q1
  cases r1
  exact PySem.W.callWith_K0 J.kIn M.kp (run_make (us := []) M F hr hb hd pass0 J .nil ht)
def rNiDT (K : PySem.W.Frag) : R2 := fun x y H Q => ∃ d ds, Dp K H x d ∧ Dp K H y (.tuple ds) ∧ PyData.canLayAll0 ds = true ∧ d.canLay0 = true ∧ PyData.depthAll ds ≤ 5 ∧ Q (.bl (!ds.any fun z => PyData.eqv z d)) H
theorem op_niDT (hu : X.A.units + 65 < cLine) : OpR X (compareOp .NotIn) (rNiDT X.K) := by
  intro pins s σ H x y v u Q I rx ry h
  obtain ⟨d, ds, hd, he, sd, se, h5, q⟩ := h
  obtain ⟨as, r1⟩ := Dp.reads I d x v hd rx
  obtain ⟨bs, r2⟩ := Dp.reads I (.tuple ds) y u he ry
  exact SeqAt.notIn_tuple_reads r2 r1 sd se (by omega) ⟨.bl _, H, I, rfl, q⟩
end
end Q
set_option Elab.async false
set_option linter.all false
set_option maxRecDepth 100000
set_option maxHeartbeats 4000000
/-! a tree told by its form -/
namespace Q
open PySem L2 PySem.Spec PyProof.Rows PySem.Calls
open Evl PB
section
variable {P : Program} {w : World} {K : PySem.W.Frag} {mg : Str → Option Value} {base : Heap}
/-- the empty tuple that stands as a default -/
structure EmE (K : PySem.W.Frag) (dE : Addr) : Prop where
  sq : ∀ H : Hp, SqT K H dE []
  ty : ∀ H : Hp, TyX K H (.ref dE) (.type "tuple")
theorem EmE.seq {dE : Addr} (h : EmE K dE) (H : Hp) : SeqD K H (.ref dE) [] := ⟨dE, [], rfl, h.sq H, .nil, fun H' _ => h.ty H'⟩
theorem ev_notin {σ : L2.St} {H : Hp} {ta tb : TE} {d : PyData} {ds : List PyData} (h1 : EvD ta σ H d) (h2 : EvD tb σ H (.tuple ds)) (s1 : PyData.canLayAll0 ds = true) (s2 : d.canLay0 = true) (h5 : PyData.depthAll ds ≤ 5) : Ev (tOp (rNiDT K) ta tb) σ H (.bl (!ds.any fun z => PyData.eqv z d)) := fun H1 e Q q =>
  h1 H1 e _ fun u H2 e2 a => h2 H2 (e.trans e2) _ fun v H3 e3 b => ⟨d, ds, (a.mono e3).dp, b.dp, s1, s2, h5, q H3 (e2.trans e3)⟩
def spTold (C : Addr) : Sp := fun vs H Q _ => ∃ (n : Nat) (f : Fm n) (v : V), vs = [.ref C, v] ∧ TD1 H v (formD n f) ∧ boxesOk n f ∧ least n f ∧ sizes n f ∧ ((ents n f).map (·.1)).Nodup ∧ n ≤ 3 ∧ ∀ a H', Ex H H' → TrA C H' a n f → Q (.ref a) H'
theorem mk_ex {H H2 : Hp} {C x dx : Addr} (hx : H x = none) (hd : H dx = none) (m : Mx x (upd (upd H dx (.own x)) x (.ins C dx [])) H2) : Ex H H2 := fun l o h => m l o (fun z => by
  rw [z, hx] at h
  cases h) (by
  rw [upd_ne (fun z => by rw [z, hx] at h; cases h), upd_ne (fun z => by rw [z, hd] at h; cases h)]
  exact h)
abbrev nmTold : List Str := ["cls", "form", "flaws", "tree"]
theorem scTold : FnScope nmTold ["cls", "form"] (defScope sTold) := ⟨rfl, rfl, rfl, by decide +kernel, rfl, by decide +kernel, by decide +kernel⟩
theorem ok_told {C f fI dE : Addr} {fd fdI : FuncData} {ds : List Value} (F : Fun K "told" "Tree.told" sTold f fd) (TC : TrC K mg C) (CF : Cl P w K mg base 13 "form_flaws" spFlaws) (M : Mk K C fI) (FI : FnOk P w K mg base CX0 6 fI fdI ["self", "entries"] (spInit K C)) (bI : Binds K fdI ["self", "entries"] ds) (dI : Vals [.ref dE] ds) (em : EmE K dE) (MT : Mt P w K mg base 5 C "_take_form" (spTake C)) :
    FnOk P w K mg base CX0 14 f fd ["cls", "form"] (spTold C) := by
  refine F.ok scTold (fun vs H Q E h => ?_) (fun cdv A' outer s H vs Q E hr h => ?_)
  · obtain ⟨n, g, v, rfl, _⟩ := h
    rfl
  · obtain ⟨n, g, v, rfl, hx, hb, hl, hz, nd, n3, k⟩ := h
    have hu : (A'.deeper (envOfC (Str.ofString "Tree.told") (defScope sTold) s.heap.objs.size f cdv)).units + 65 < cLine := by
      have := hr.un
      omega
    refine ⟨_, (pss_cons (ps_set (i := 2) scTold.nd rfl (Or.inl rfl) (pe_cl CF hr (by decide) (by rfl) (pa_cons (pv 1) pa_nil)))
      (pss_cons (ps_if (pt_cmpR (op_niDT hu) (pv 2) (pe_tup (pa_cons (pe_tup pa_nil) (pa_cons (pe_tup (pa_cons (pe_str) pa_nil)) pa_nil))) (by rfl)) pss_never pss_nil)
      (pss_cons (ps_if (pt_truth (pv 2) (fun _ => rfl)) pss_never pss_nil)
      (pss_cons (ps_set (i := 3) scTold.nd rfl (Or.inl rfl) (pe_makeL (i := 0) M FI (hr.mono (by decide)) rfl (.inl rfl) bI dI))
      (pss_cons (ps_expr (pe_mtQ MT hr (by decide) (pv 3) (pa_cons (pv 1) pa_nil)))
      (pss_one (ps_ret (pv 3)))))))), ?_⟩
    refine q_asgQ ⟨_, rfl, n, g, v, n3, rfl, hx, hb, hl, hz, nd, fun t H1 e1 ht => ?_⟩
    have xt : TD1 H1 (.ref t) (.tuple []) := TD1.mk ht .nil
    refine q_not (et_is (et_test (ev_notin (d := .tuple []) (ds := [.tuple [], .tuple [.str "many"]]) (ed_var rfl xt) (ed_tup (da_cons (ed_tup da_nil (by decide)) (da_cons (ed_tup (da_cons (ed_str ev_c) da_nil) (by decide)) da_nil)) (by decide)) (by decide +kernel) (by decide +kernel) (by decide))) (by decide +kernel)) fun H2 e2 => ?_
    refine q_not (fun H3 e3 Q q => ⟨_, rfl, false, .inr (.inl ⟨[], SqT.of ((e2.trans e3) _ _ ht), rfl⟩), q H3 (Ex.refl _)⟩) fun H3 e3 => ?_
    have e03 := (e1.trans e2).trans e3
    refine q_asgQ ⟨rfl, fun x dx nx nd ne => ?_⟩
    refine ⟨x, dx, .ref dE, [], rfl, upd_same, em.seq _, by decide, .nil, (fun e he => nomatch he), fun n' f' u D0 qs0 H4 _ mx hx4 tu hD0 hq0 pm th le n1 => ⟨rfl, ?_⟩⟩
    have e34 := mk_ex nx nd mx
    have e04 := e03.trans e34
    refine ⟨_, rfl, x, dx, trF u (.ref D0), rfl, hx4, by rfl, _, rfl, x, dx, v, trF u (.ref D0), n, g, rfl, hx4, .inr ⟨u, .ref D0, rfl⟩, hx.mono e04, sizes_thin n g hz, n3, by assumption, fun D2 qs2 H5 _ mx5 hx5 hD2 hq2 => ?_⟩
    have e05 : Ex H H5 := fun l o h => mx5 l o (fun z => by
      rw [z] at h
      rw [e03 _ _ h] at nx
      cases nx) (e04 _ _ h)
    exact ⟨_, rfl, k x H5 e05 ⟨dx, v, D2, qs2, hx5, hx.mono e05, hD2, hq2⟩⟩
end
end Q
set_option Elab.async false
set_option linter.all false
set_option maxRecDepth 100000
set_option maxHeartbeats 4000000
/-! members of a form -/
namespace PB
open PySem L2 PySem.Spec PyProof.Rows PySem.Calls
open Evl Q
def fstD : PyData → PyData
  | .tuple [x, _] => x
  | _ => .none
def sndD : PyData → PyData
  | .tuple [_, y] => y
  | _ => .none
def isLf : Nat → Bool
  | 0 => true
  | _ + 1 => false
def mbs : (n : Nat) → Fm n → List (Bx × PyData)
  | 0, es => (lfs es).map fun e => (e.2, entD e)
  | n + 1, bs => (brs bs).map fun p => (p.1, PyData.tuple [boxD p.1, formD n p.2])
theorem formD_mbs : ∀ (n : Nat) (f : Fm n), formD n f = .tuple [.str (wdB (isLf n)), .tuple ((mbs n f).map (·.2))]
  | 0, es => by
    show formD 0 es = .tuple [.str "leaf", .tuple (((lfs es).map fun e => (e.2, entD e)).map (·.2))]
    rw [List.map_map]
    rfl
  | n + 1, bs => by
    show formD (n + 1) bs = .tuple [.str "node", .tuple (((brs bs).map fun p => (p.1, PyData.tuple [boxD p.1, formD n p.2])).map (·.2))]
    rw [List.map_map]
    rfl
theorem mbs_box : ∀ (n : Nat) (f : Fm n), ∀ q ∈ mbs n f, boxAt (isLf n) q.2 q.1
  | 0, es, q, h => by
    obtain ⟨e, _, rfl⟩ := List.mem_map.mp h
    exact ⟨.int e.1, boxD e.2, rfl, rfl⟩
  | n + 1, bs, q, h => by
    obtain ⟨p, _, rfl⟩ := List.mem_map.mp h
    exact ⟨boxD p.1, formD n p.2, rfl, rfl⟩
theorem mbs_two (n : Nat) (f : Fm n) (q : Bx × PyData) (h : q ∈ mbs n f) : q.2 = .tuple [fstD q.2, sndD q.2] := by
  obtain ⟨d1, d2, e, _⟩ := mbs_box n f q h
  rw [e]
  rfl
theorem mbs_len : ∀ (n : Nat) (f : Fm n), (mbs n f).length = width n f
  | 0, es => by
    show ((lfs es).map _).length = _
    rw [List.length_map]
    rfl
  | n + 1, bs => by
    show ((brs bs).map _).length = _
    rw [List.length_map]
    rfl
theorem thin_w : ∀ (n : Nat) (f : Fm n), thin n f → width n f ≤ 4
  | 0, _, h => h
  | _ + 1, _, h => h.1
def prI (p : Int × Int) : PyData := .tuple [.int p.1, .int p.2]
theorem wd_leaf (b : Bool) : decide (V.str (wdB b) = V.str "leaf") = b := by
  cases b
  · decide
  · decide
end PB
set_option Elab.async false
set_option linter.all false
set_option maxRecDepth 100000
set_option maxHeartbeats 4000000
/-! the law's own look at a form's entries -/
namespace PB
open PySem PySem.Spec
theorem lay_all : ∀ {ds : List PyData}, (∀ d ∈ ds, d.canLay0 = true) → PyData.canLayAll0 ds = true
  | [], _ => rfl
  | d :: ds, h => by
    show (d.canLay0 && PyData.canLayAll0 ds) = true
    rw [h d List.mem_cons_self, lay_all fun x hx => h x (List.mem_cons_of_mem _ hx)]
    rfl
theorem dep_all {k : Nat} : ∀ {ds : List PyData}, (∀ d ∈ ds, d.depth ≤ k) → PyData.depthAll ds ≤ k
  | [], _ => Nat.zero_le _
  | d :: ds, h => Nat.max_le.mpr ⟨h d List.mem_cons_self, dep_all fun x hx => h x (List.mem_cons_of_mem _ hx)⟩
theorem shp_list {ds : List PyData} (h : ∀ d ∈ ds, d.canLay0 = true ∧ d.depth ≤ 60) : SeqAt.shaped (.list ds) = true := by
  unfold SeqAt.shaped
  have h1 : (PyData.list ds).canLay0 = true := lay_all fun d hd => (h d hd).1
  have h2 : (PyData.list ds).depth ≤ 64 := by
    have := dep_all fun d hd => (h d hd).2
    simp only [PyData.depth]
    omega
  rw [h1, decide_eq_true h2]
  rfl
theorem shp_tup {ds : List PyData} (h : ∀ d ∈ ds, d.canLay0 = true ∧ d.depth ≤ 60) : SeqAt.shaped (.tuple ds) = true := by
  unfold SeqAt.shaped
  have h1 : (PyData.tuple ds).canLay0 = true := lay_all fun d hd => (h d hd).1
  have h2 : (PyData.tuple ds).depth ≤ 64 := by
    have := dep_all fun d hd => (h d hd).2
    simp only [PyData.depth]
    omega
  rw [h1, decide_eq_true h2]
  rfl
theorem lay_tup {ds : List PyData} {k : Nat} (h : ∀ d ∈ ds, d.canLay0 = true ∧ d.depth ≤ k) : (PyData.tuple ds).canLay0 = true ∧ (PyData.tuple ds).depth ≤ k + 1 := ⟨lay_all fun d hd => (h d hd).1, by
  have := dep_all fun d hd => (h d hd).2
  simp only [PyData.depth]
  omega⟩
theorem small_box (x : Bx) : (boxD x).canLay0 = true ∧ (boxD x).depth ≤ 1 := lay_tup fun d hd => by
  rcases List.mem_cons.mp hd with rfl | hd
  · exact ⟨rfl, Nat.le_refl _⟩
  rcases List.mem_cons.mp hd with rfl | hd
  · exact ⟨rfl, Nat.le_refl _⟩
  rcases List.mem_cons.mp hd with rfl | hd
  · exact ⟨rfl, Nat.le_refl _⟩
  rcases List.mem_cons.mp hd with rfl | hd
  · exact ⟨rfl, Nat.le_refl _⟩
  cases hd
theorem small_two {a b : PyData} {k : Nat} (h1 : a.canLay0 = true ∧ a.depth ≤ k) (h2 : b.canLay0 = true ∧ b.depth ≤ k) : (PyData.tuple [a, b]).canLay0 = true ∧ (PyData.tuple [a, b]).depth ≤ k + 1 := lay_tup fun d hd => by
  rcases List.mem_cons.mp hd with rfl | hd
  · exact h1
  rcases List.mem_cons.mp hd with rfl | hd
  · exact h2
  cases hd
theorem small_ent (e : Int × Bx) : (entD e).canLay0 = true ∧ (entD e).depth ≤ 2 := small_two ⟨rfl, Nat.zero_le _⟩ (small_box e.2)
theorem small_form : ∀ (n : Nat) (f : Fm n), (formD n f).canLay0 = true ∧ (formD n f).depth ≤ 3 * n + 4
  | 0, es => small_two (k := 3) ⟨by decide +kernel, Nat.zero_le _⟩ (lay_tup (k := 2) fun d hd => by
    obtain ⟨e, _, rfl⟩ := List.mem_map.mp hd
    exact small_ent e)
  | n + 1, bs => by
    have z := small_two (k := 3 * n + 6) (a := .str "node") (b := .tuple (List.map (fun p : Bx × Fm n => PyData.tuple [boxD p.1, formD n p.2]) (brs bs))) ⟨by decide +kernel, Nat.zero_le _⟩ (lay_tup (k := 3 * n + 5) fun d hd => by
      obtain ⟨p, _, rfl⟩ := List.mem_map.mp hd
      exact small_two ⟨(small_box p.1).1, Nat.le_trans (small_box p.1).2 (by omega)⟩ (small_form n p.2))
    exact ⟨z.1, Nat.le_trans z.2 (by omega)⟩
def nodesN : (n : Nat) → Fm n → Nat
  | 0, _ => 1
  | n + 1, bs => 1 + (List.map (fun p : Bx × Fm n => nodesN n p.2) (brs bs)).sum
theorem nodes_pos : ∀ (n : Nat) (f : Fm n), 1 ≤ nodesN n f
  | 0, _ => Nat.le_refl _
  | n + 1, bs => Nat.le_add_right _ _
theorem nodes_le : ∀ (n : Nat) (f : Fm n), thin n f → nodesN n f ≤ 5 ^ n
  | 0, _, _ => Nat.le_refl _
  | n + 1, bs, h => by
    have z := sum_le (fun p : Bx × Fm n => nodesN n p.2) (c := 5 ^ n) (l := brs bs) fun p hp => nodes_le n p.2 (h.2 p hp)
    have h4 : (brs bs).length ≤ 4 := h.1
    have : (brs bs).length * 5 ^ n ≤ 4 * 5 ^ n := Nat.mul_le_mul_right _ h4
    have : 1 ≤ 5 ^ n := Nat.one_le_pow _ _ (by decide)
    show 1 + (List.map (fun p : Bx × Fm n => nodesN n p.2) (brs bs)).sum ≤ 5 ^ (n + 1)
    rw [Nat.pow_succ]
    omega
theorem sum_pos {α : Type} (F : α → Nat) : ∀ {l : List α}, (∀ x ∈ l, 1 ≤ F x) → l.length ≤ (l.map F).sum
  | [], _ => Nat.le_refl _
  | x :: l, h => by
    have h1 := sum_pos F (l := l) fun y hy => h y (List.mem_cons_of_mem _ hy)
    have h2 := h x List.mem_cons_self
    rw [List.map_cons, List.sum_cons, List.length_cons]
    omega
abbrev Sg := (n : Nat) × Fm n
def sgD (w : Sg) : PyData := formD w.1 w.2
def sgE (w : Sg) : List (Int × Bx) := ents w.1 w.2
theorem snoc_of {α : Type} {l : List α} (h : l ≠ []) : ∃ m x, l = m ++ [x] := ⟨l.dropLast, l.getLast h, (List.dropLast_concat_getLast h).symm⟩
theorem flat_perm {α β : Type} {F : α → List β} {l m : List α} (h : l.Perm m) : (l.flatMap F).Perm (m.flatMap F) := by
  rw [List.flatMap_def, List.flatMap_def]
  exact (h.map F).flatten
end PB
namespace Q
open PySem L2 PySem.Spec PyProof.Rows PySem.Calls
open Evl PB
abbrev sLEnt : Stmt := top 49
abbrev sLBoxes : Stmt := top 46
theorem TDs.pop {H : Hp} {xs : List V} {ds : List PyData} {d : PyData} (h : TDs H xs (ds ++ [d])) : ∃ ys v, xs = ys ++ [v] ∧ TDs H ys ds ∧ TD1 H v d := by
  have t1 := h.take ds.length
  have t2 := h.drop ds.length
  rw [List.take_left] at t1
  rw [List.drop_left] at t2
  obtain ⟨v, zs, e, hv, t⟩ := t2.inv
  cases t.inv0
  refine ⟨xs.take ds.length, v, ?_, t1, hv⟩
  rw [← e, List.take_append_drop]
/-- as it was but for some lists -/
def Kp (S : List Addr) (H H' : Hp) : Prop := ∀ l o, l ∉ S → H l = some o → H' l = some o
theorem Kp.refl (S : List Addr) (H : Hp) : Kp S H H := fun _ _ _ h => h
theorem Kp.ex {S : List Addr} {H H1 H2 : Hp} (a : Kp S H H1) (e : Ex H1 H2) : Kp S H H2 := fun l o n h => e l o (a l o n h)
theorem Kp.upd {S : List Addr} {H H1 : Hp} {x : Addr} {o : HO} (a : Kp S H H1) (h : x ∈ S) : Kp S H (upd H1 x o) := fun l u n q => by
  rw [upd_ne fun z => n (by rw [z]; exact h)]
  exact a l u n q
theorem Kp.tk {S : List Addr} {H H' : Hp} (a : Kp S H H') (h : ∀ x ∈ S, ∃ xs, H x = some (.lst xs)) : TKp H H' := fun l xs hl => a l _ (fun z => by
  obtain ⟨ys, hy⟩ := h l z
  rw [hl] at hy
  cases hy) hl
section
variable {K : PySem.W.Frag} {σ : L2.St} {H : Hp} {te ta tb : TE} {E : XK} {D : Ends} {tz : TS} {L : Addr} {xs : List V} {ds es : List PyData} {i j : Nat}
/-- list != [] -/
theorem ev_neL (h : Ev te σ H (.ref L)) (hL : H L = some (.lst xs)) (x : TDs H xs ds) (hs : ∀ d ∈ ds, d.canLay0 = true ∧ d.depth ≤ 60) : Ev (tOp (rNeD K) te (tLst tNil)) σ H (.bl (!ds.isEmpty)) := fun H1 e Q q =>
  h H1 e _ fun H2 e2 => ⟨Nat.zero_le _, fun l hl0 => ⟨.list ds, .list [], .lst (SqL.of (Ex.new hl0 _ _ ((e.trans e2) _ _ hL))) ((x.mono ((e.trans e2).trans (Ex.new hl0))).dp), .lst (SqL.of upd_same) .nil, shp_list hs, rfl, by
    have z : PyData.eqv (.list ds) (.list []) = ds.isEmpty := by
      cases ds with
      | nil => rfl
      | cons d ds => simp [PyData.eqv, PyData.eqvAll]
    rw [z]
    exact q _ (e2.trans (Ex.new hl0))⟩⟩
/-- a, b = new list, new list -/
theorem q_parL (h1 : EvDs ta σ H ds) (h2 : ∀ H1, Ex H H1 → EvDs tb σ H1 es) (k : ∀ l1 l2 xs ys H1, H l1 = none → H l2 = none → l1 ≠ l2 → Ex H H1 → H1 l1 = some (.lst xs) → TDs H1 xs ds → H1 l2 = some (.lst ys) → TDs H1 ys es → tz D ((σ.set i (some (.ref l1))).set j (some (.ref l2))) H1) : tSeq (tPar i j (tCons ta (tCons tb tNil))) tz D σ H :=
  h1 H (Ex.refl _) _ fun l1 xs H1 n1 e1 hx x => h2 H1 e1 H1 (Ex.refl _) _ fun l2 ys H2 n2 e2 hy y => ⟨_, _, rfl, k l1 l2 xs ys H2 n1 (fresh_back e1 n2) (fun z => by
    rw [← z, hx] at n2
    cases n2) (e1.trans e2) (e2 _ _ hx) (x.mono e2) hy y⟩
end
def spLEnt : Sp := fun vs H Q _ => ∃ (n : Nat) (f : Fm n) (v : V), vs = [v] ∧ TD1 H v (formD n f) ∧ thin n f ∧ n ≤ 3 ∧ ∀ l xs (es : List (Int × Bx)) H', H l = none → Ex H H' → H' l = some (.lst xs) → TDs H' xs (es.map entD) → es.Perm (ents n f) → Q (.ref l) H'
section
variable {P : Program} {w : World} {K : PySem.W.Frag} {mg : Str → Option Value} {base : Heap}
abbrev nmLEnt : List Str := ["form", "found", "waits", "word", "items", "branch"]
theorem scLEnt : FnScope nmLEnt ["form"] (defScope sLEnt) := ⟨rfl, rfl, rfl, by decide +kernel, rfl, by decide +kernel, by decide +kernel⟩
theorem ok_lent {f : Addr} {fd : FuncData} (F : Fun K "_law_entries_in" "_law_entries_in" sLEnt f fd) (T : TB mg) : FnOk P w K mg base CX0 1 f fd ["form"] spLEnt := by
  refine F.ok scLEnt (fun vs H Q E h => ?_) (fun cdv A' outer s H vs Q E hr h => ?_)
  · obtain ⟨n, g, v, rfl, _⟩ := h
    rfl
  · obtain ⟨n, g, v, rfl, hx, ht, h3, k⟩ := h
    have hun := hr.units
    refine ⟨_, (pss_cons (ps_par (i := 1) (j := 2) (by rfl) scLEnt.nd rfl rfl (by decide) rfl rfl (pa_cons (pe_lst pa_nil) (pa_cons (pe_lst (pa_cons (pv 0) pa_nil)) pa_nil)) (by rfl))
      (pss_cons (ps_while PassesOwn.never (pt_cmpR (op_neD hun) (pv 2) (pe_lst pa_nil) (nomark _))
        (pss_cons (ps_asg (pe_bm0 PySem.F.plainAttrs_list PySem.F.slot_list_pop PySem.F.type_list_pop mt_pop (pv 2)) (pg_tup (by rfl) (pgs_cons (pg_name (i := 3) scLEnt.nd rfl (.inl rfl)) (pgs_cons (pg_name (i := 4) scLEnt.nd rfl (.inl rfl)) pgs_nil))))
        (pss_one (ps_if (pt_cmpR op_eq (pv 3) pe_str (nomark _))
          (pss_one (ps_expr (pe_bm PySem.F.plainAttrs_list PySem.F.slot_list_extend PySem.F.type_list_extend mt_extend (pv 1) (pa_cons (pe_callTy call_list_of (by rfl) T.list (by decide +kernel) (pa_cons (pv 4) pa_nil)) pa_nil))))
          (pss_one (ps_expr (pe_bm PySem.F.plainAttrs_list PySem.F.slot_list_extend PySem.F.type_list_extend mt_extend (pv 2) (pa_cons (pe_lc (own := [("branch", 5)]) (g := gName 5) (by rfl) scLEnt.nd (pi_tup (pv 4))
            (blkOk_by (own := [("branch", 5)]) (N := nmLEnt) (sc := defScope sLEnt) (by decide +kernel))
            (fun _ _ _ _ _ => pg_name (i := 5) scLEnt.nd rfl (Or.inl rfl)) (fun _ _ _ _ _ => pts_nil)
            (te := tOp (rIxT K) (tVar 5) (tC (.int 1))) (fun _ _ _ _ _ => by exact (pe_ix ix_tup (pv 5) pe_int (fun _ _ => rfl)))) pa_nil))))))))
      (pss_one (ps_ret (pv 1))))), ?_⟩
    refine q_parL (ds := []) (es := [formD n g]) (eds_lst da_nil (by decide)) (fun H1 e1 => eds_lst (da_cons (ed_var rfl (hx.mono e1)) da_nil) (by show 1 ≤ 100000; decide)) fun Fl Wl xs ys H1 hF0 hW0 nFW e1 hF tF hW tW => ?_
    cases tF.inv0
    have nb := nodes_le n g ht
    have p5 : 5 ^ n ≤ 125 := by
      match n, h3 with
      | 0, _ => decide
      | 1, _ => decide
      | 2, _ => decide
      | 3, _ => decide
    have el := ents_len n g ht
    have p4 : 4 ^ (n + 1) ≤ 256 := by
      match n, h3 with
      | 0, _ => decide
      | 1, _ => decide
      | 2, _ => decide
      | 3, _ => decide
    refine q_while (fun m σ' H' => ∃ (r3 r4 : Option V) (ys zs : List V) (es : List (Int × Bx)) (W : List Sg), σ' = [some v, some (.ref Fl), some (.ref Wl), r3, r4, none] ∧ Kp [Fl, Wl] H1 H' ∧ H' Fl = some (.lst ys) ∧ TDs H' ys (es.map entD) ∧ H' Wl = some (.lst zs) ∧ TDs H' zs (W.map sgD) ∧ (es ++ W.flatMap sgE).Perm (ents n g) ∧ (∀ w ∈ W, w.1 ≤ 3 ∧ thin w.1 w.2) ∧ m = (W.map fun w => nodesN w.1 w.2).sum ∧ m ≤ 125) (nodesN n g) ⟨none, none, [], ys, [], [⟨n, g⟩], rfl, Kp.refl _ _, hF, .nil, hW, tW, by
      rw [List.flatMap_cons, List.flatMap_nil, List.append_nil, List.nil_append]
      exact List.Perm.refl _, fun w hw => by
      rw [List.mem_singleton.mp hw]
      exact ⟨h3, ht⟩, by rw [List.map_cons, List.map_nil, List.sum_cons, List.sum_nil, Nat.add_zero], by omega⟩ ?_
    rintro m σ' H' ⟨r3, r4, ys, zs, es, W, rfl, kp, hF2, tF2, hW2, tW2, pm, wh, rfl, mb⟩
    have wl := sum_pos (fun w : Sg => nodesN w.1 w.2) (l := W) fun w _ => nodes_pos w.1 w.2
    refine ⟨_, et_test (ev_neL (ev_var rfl) hW2 tW2 fun d hd => ?_), fun hb H5 e5 => ?_, fun hb H5 e5 => ?_⟩
    · obtain ⟨w, hw, rfl⟩ := List.mem_map.mp hd
      have z := small_form w.1 w.2
      have := (wh w hw).1
      exact ⟨z.1, Nat.le_trans z.2 (by omega)⟩
    · have nW : W ≠ [] := fun z => by
        rw [z] at hb
        cases hb
      obtain ⟨W', w, rfl⟩ := snoc_of nW
      refine ⟨fun σ2 H2 => ∃ m', m' < _ ∧ _, fun _ _ h => h, ?_⟩
      have tW5 := tW2.mono e5
      rw [List.map_append] at tW5
      obtain ⟨zs', z, rfl, tz, xz⟩ := tW5.pop
      have hW5 := e5 _ _ hW2
      have kp5 := kp.ex e5
      have hF5 := e5 _ _ hF2
      obtain ⟨w3, wt⟩ := wh w (List.mem_append_right _ (List.mem_singleton.mpr rfl))
      refine ⟨_, rfl, .inl ⟨rfl, _, SqL.of hW5⟩, Wl, _, z, rfl, rfl, hW5, by simp, ?_⟩
      rw [List.dropLast_concat]
      have tkW := upd_tup (ys := zs') hW5
      have xz1 : TD1 (upd H5 Wl (.lst zs')) z (formD w.1 w.2) := xz.by tkW
      have tz1 : TDs (upd H5 Wl (.lst zs')) zs' (W'.map sgD) := tz.by tkW
      have tF5 : TDs (upd H5 Wl (.lst zs')) ys (es.map entD) := (tF2.mono e5).by tkW
      have hF6 : upd H5 Wl (.lst zs') Fl = some (.lst ys) := by
        rw [upd_ne nFW]
        exact hF5
      have hW6 : upd H5 Wl (.lst zs') Wl = some (.lst zs') := upd_same
      have kp6 : Kp [Fl, Wl] H1 (upd H5 Wl (.lst zs')) := kp5.upd (by simp)
      generalize upd H5 Wl (.lst zs') = H6 at xz1 tz1 tF5 hF6 hW6 kp6 ⊢
      rw [formD_mbs] at xz1
      obtain ⟨a, xs, rfl, ha, y⟩ := xz1.tup
      obtain ⟨u1, ys1, rfl, y1, y⟩ := y.inv
      obtain ⟨u2, ys2, rfl, y2, y⟩ := y.inv
      cases y.inv0
      cases y1.str
      have el2 := tF5.len
      rw [List.length_map] at el2
      have pl := pm.length_eq
      rw [List.length_append, List.flatMap_append, List.length_append, List.flatMap_cons, List.flatMap_nil, List.append_nil] at pl
      have zl := tz1.len
      rw [List.length_map] at zl
      have em : ((W' ++ [w]).map fun w : Sg => nodesN w.1 w.2).sum = (W'.map fun w : Sg => nodesN w.1 w.2).sum + nodesN w.1 w.2 := by
        rw [List.map_append, List.sum_append, List.map_cons, List.map_nil, List.sum_cons, List.sum_nil, Nat.add_zero]
      rw [List.length_append] at wl
      refine ⟨a, _, rfl, SqT.of ha, rfl, _, _, rfl, u2, _, rfl, rfl, ?_⟩
      obtain ⟨wn, wf⟩ := w
      match wn, wf, w3, wt, y2, pl, pm, wh, mb, em, wl with
      | 0, wf, w3, wt, y2, pl, pm, wh, mb, em, wl =>
        refine s_if (b := true) (et_is (et_test (ev_eqW (ev_var rfl))) (wd_leaf (isLf 0))) (fun _ H7 e7 => ?_) (fun z => nomatch z)
        refine ⟨_, rfl, .inl ⟨rfl, _, SqL.of (e7 _ _ hF6)⟩, ?_⟩
        refine eds_listT (K := K) (ds := (mbs 0 wf).map (·.2)) (ed_var (i := 4) (σ := [some v, some (.ref Fl), some (.ref Wl), some (.str (wdB (isLf 0))), some u2, none]) rfl (y2.mono e7)) H7 (Ex.refl _) _ fun l ls H8 hl0 e8 hl tl => ?_
        have e78 := e7.trans e8
        have hF8 := e78 _ _ hF6
        have ed : (mbs 0 wf).map (·.2) = (sgE ⟨0, wf⟩).map entD := by
          show ((lfs wf).map fun e => (e.2, entD e)).map (·.2) = _
          rw [List.map_map]
          rfl
        rw [ed] at tl
        have ll := tl.len
        rw [List.length_map] at ll
        have nl : l ≠ Fl := fun z => by
          rw [z, e7 _ _ hF6] at hl0
          cases hl0
        refine ⟨Fl, l, ys, ls, rfl, rfl, hF8, hl, sz_of (by omega), _, ?_, some (.str (wdB (isLf 0))), some u2, ys ++ ls, zs', es ++ sgE ⟨0, wf⟩, W', rfl, (kp6.ex e78).upd (by simp), upd_same, ?_, ?_, ?_, ?_, fun w hw => wh w (List.mem_append_left _ hw), rfl, ?_⟩
        · rw [em]
          show _ < _ + 1
          omega
        · rw [List.map_append]
          exact ((tF5.mono e78).app tl).by (upd_tup hF8)
        · rw [upd_ne nFW.symm]
          exact e78 _ _ hW6
        · exact (tz1.mono e78).by (upd_tup hF8)
        · refine List.Perm.trans ?_ pm
          rw [List.flatMap_append, List.flatMap_cons, List.flatMap_nil, List.append_nil, List.append_assoc]
          exact List.Perm.append_left _ List.perm_append_comm
        · omega
      | wn + 1, wf, w3, wt, y2, pl, pm, wh, mb, em, wl =>
        refine s_if (b := false) (et_is (et_test (ev_eqW (ev_var rfl))) (wd_leaf (isLf (_ + 1)))) (fun z => nomatch z) (fun _ H7 e7 => ?_)
        refine ⟨_, rfl, .inl ⟨rfl, _, SqL.of (e7 _ _ hW6)⟩, ?_⟩
        have z := eds_it (te := tOp (rIxT K) (tVar 5) (tC (.int 1))) (g := gName 5) (tt := tYes) (vs := [5]) (wi := iTup K (tVar 4)) (σ := [some v, some (.ref Fl), some (.ref Wl), some (.str (wdB (isLf (wn + 1)))), some u2, none]) (H := H7) (es := brs wf) (enc := fun p => PyData.tuple [boxD p.1, formD wn p.2]) (fun _ => true) (fun p => formD wn p.2) (ei_tup (ed_var rfl (by
          have q := y2.mono e7
          have ed : (mbs (wn + 1) wf).map (·.2) = (brs wf).map fun p => PyData.tuple [boxD p.1, formD wn p.2] := by
            show ((brs wf).map fun p => (p.1, PyData.tuple [boxD p.1, formD wn p.2])).map (·.2) = _
            rw [List.map_map]
            rfl
          rw [ed] at q
          exact q))) (Nat.le_trans wt.1 (by decide)) (fun p hp => turn_nm (fun _ => rfl) (fun _ _ _ _ => et_yes) fun u H4 e4 x4 _ => ed_ix (ed_var rfl x4) ⟨by decide, rfl⟩)
        rw [filt_all] at z
        refine z H7 (Ex.refl _) _ fun l ls H8 hl0 e8 hl tl => ?_
        have e78 := e7.trans e8
        have hW8 := e78 _ _ hW6
        have ed : (brs wf).map (fun p => formD wn p.2) = ((brs wf).map fun p => (⟨wn, p.2⟩ : Sg)).map sgD := by
          rw [List.map_map]
          rfl
        rw [ed] at tl
        have ll := tl.len
        rw [List.length_map, List.length_map] at ll
        have b4 : (brs wf).length ≤ 4 := wt.1
        refine ⟨Wl, l, zs', ls, rfl, rfl, hW8, hl, sz_of (by omega), _, ?_, some (.str (wdB (isLf (wn + 1)))), some u2, ys, zs' ++ ls, es, W' ++ (brs wf).map fun p => (⟨wn, p.2⟩ : Sg), rfl, (kp6.ex e78).upd (by simp), ?_, ?_, upd_same, ?_, ?_, fun w hw => ?_, rfl, ?_⟩
        · rw [em, List.map_append, List.sum_append, List.map_map]
          show _ < _ + (1 + (List.map (fun p : Bx × Fm wn => nodesN wn p.2) (brs wf)).sum)
          show _ + (List.map (fun p : Bx × Fm wn => nodesN wn p.2) (brs wf)).sum < _
          omega
        · rw [upd_ne nFW]
          exact e78 _ _ hF6
        · exact (tF5.mono e78).by (upd_tup hW8)
        · rw [List.map_append]
          exact ((tz1.mono e78).app tl).by (upd_tup hW8)
        · refine List.Perm.trans ?_ pm
          rw [List.flatMap_append, List.flatMap_append, List.flatMap_map, List.flatMap_cons, List.flatMap_nil, List.append_nil]
          exact List.Perm.refl _
        · rcases List.mem_append.mp hw with hw | hw
          · exact wh w (List.mem_append_left _ hw)
          · obtain ⟨p, hp, rfl⟩ := List.mem_map.mp hw
            exact ⟨by have w3' : wn + 1 ≤ 3 := w3; show wn ≤ 3; omega, wt.2 p hp⟩
        · have q : nodesN (wn + 1) wf = 1 + (List.map (fun p : Bx × Fm wn => nodesN wn p.2) (brs wf)).sum := rfl
          have em' : (List.map (fun w : Sg => nodesN w.1 w.2) (W' ++ [⟨wn + 1, wf⟩])).sum = (List.map (fun w : Sg => nodesN w.1 w.2) W').sum + nodesN (wn + 1) wf := em
          rw [List.map_append, List.sum_append, List.map_map]
          show (List.map (fun w : Sg => nodesN w.1 w.2) W').sum + (List.map (fun p : Bx × Fm wn => nodesN wn p.2) (brs wf)).sum ≤ 125
          omega
    · have nW : W = [] := by
        cases W with
        | nil => rfl
        | cons w W => cases hb
      subst nW
      rw [List.flatMap_nil, List.append_nil] at pm
      refine ⟨_, rfl, k Fl ys es H5 hF0 (fun l o q => e5 _ _ (kp l o (fun z => ?_) (e1 _ _ q))) (e5 _ _ hF2) (tF2.mono e5) pm⟩
      rcases List.mem_cons.mp z with z | z
      · rw [z, hF0] at q
        cases q
      · rw [List.mem_singleton.mp z, hW0] at q
        cases q
end
end Q
set_option Elab.async false
set_option linter.all false
set_option maxRecDepth 100000
set_option maxHeartbeats 2000000
/-! forms of any shape: a leaf or a node at each level -/
namespace PB
open PySem
def Gm : Nat → Type
  | 0 => Empty
  | n + 1 => List (Int × Bx) ⊕ List (Bx × Gm n)
def sm {n : Nat} (g : Gm (n + 1)) : List (Int × Bx) ⊕ List (Bx × Gm n) := g
def gL {n : Nat} (es : List (Int × Bx)) : Gm (n + 1) := (Sum.inl es : List (Int × Bx) ⊕ List (Bx × Gm n))
def gN {n : Nat} (bs : List (Bx × Gm n)) : Gm (n + 1) := (Sum.inr bs : List (Int × Bx) ⊕ List (Bx × Gm n))
theorem gm_cases {n : Nat} (g : Gm (n + 1)) : (∃ es, g = gL es) ∨ ∃ bs, g = gN bs := by
  match g with
  | Sum.inl es => exact .inl ⟨es, rfl⟩
  | Sum.inr bs => exact .inr ⟨bs, rfl⟩
/-- a fold over a form -/
def gF {α : Type} (z : α) (l : List (Int × Bx) → α) (nd : (n : Nat) → (Gm n → α) → List (Bx × Gm n) → α) : (n : Nat) → Gm n → α
  | 0, _ => z
  | n + 1, g => match (g : List (Int × Bx) ⊕ List (Bx × Gm n)) with
    | .inl es => l es
    | .inr bs => nd n (gF z l nd n) bs
def gD : (n : Nat) → Gm n → PyData := gF .none (fun es => .tuple [.str "leaf", .tuple (es.map entD)]) fun n r bs => .tuple [.str "node", .tuple (bs.map fun p => PyData.tuple [boxD p.1, r p.2])]
def gEs : (n : Nat) → Gm n → List (Int × Bx) := gF [] (fun es => es) fun n r bs => bs.flatMap fun p => r p.2
def gP : (n : Nat) → Gm n → List Int := gF [] (fun es => [0]) fun n r bs => bs.flatMap fun p => (r p.2).map (· + 1)
def gW : (n : Nat) → Gm n → Nat := gF 0 (fun es => es.length) fun n r bs => bs.length
def gT : (n : Nat) → Gm n → Prop := gF True (fun es => es.length ≤ 100) fun n r bs => bs.length ≤ 100 ∧ ∀ p ∈ bs, (gEs n p.2).length ≤ 100 ∧ (gP n p.2).length ≤ 100 ∧ r p.2
def gO : (n : Nat) → Gm n → Prop := gF True (fun es => ∀ e ∈ es, e.2.ok) fun n r bs => ∀ p ∈ bs, p.1.ok ∧ r p.2
def bxEq (x y : Bx) : Bool := decide (x.l = y.l) && (decide (x.b = y.b) && (decide (x.r = y.r) && decide (x.t = y.t)))
theorem bxEq_iff {x y : Bx} : bxEq x y = true ↔ x = y := by
  unfold bxEq
  rw [Bool.and_eq_true, Bool.and_eq_true, Bool.and_eq_true, decide_eq_true_iff, decide_eq_true_iff, decide_eq_true_iff, decide_eq_true_iff]
  constructor
  · rintro ⟨h1, h2, h3, h4⟩
    cases x
    cases y
    cases h1
    cases h2
    cases h3
    cases h4
    rfl
  · rintro rfl
    exact ⟨rfl, rfl, rfl, rfl⟩
def arB (x : Bx) (es : List (Int × Bx)) : Bool := !es.isEmpty && bxEq (joint (es.map (·.2))) x
def gB : (n : Nat) → Gm n → Bool := gF true (fun es => true) fun n r bs => bs.all fun p => arB p.1 (gEs n p.2) && r p.2
def gS : (n : Nat) → Gm n → Bool := gF true (fun es => decide (es.length ≤ 4)) fun n r bs => (decide (2 ≤ bs.length) && decide (bs.length ≤ 4)) && bs.all fun p => decide (2 ≤ gW n p.2) && r p.2
def up : (n : Nat) → Fm n → Gm (n + 1)
  | 0, es => gL (lfs es)
  | n + 1, bs => gN ((brs bs).map fun p => (p.1, up n p.2))
theorem flat_map2 {α β γ : Type} (f : α → β) (g : β → List γ) (l : List α) : (l.map f).flatMap g = l.flatMap fun x => g (f x) := by rw [List.flatMap_map]
theorem up_D : ∀ (n : Nat) (f : Fm n), gD (n + 1) (up n f) = formD n f
  | 0, es => rfl
  | n + 1, bs => by
    show PyData.tuple [.str "node", .tuple (((brs bs).map fun p => (p.1, up n p.2)).map fun p => PyData.tuple [boxD p.1, gD (n + 1) p.2])] = .tuple [.str "node", .tuple (List.map (fun p : Bx × Fm n => PyData.tuple [boxD p.1, formD n p.2]) (brs bs))]
    rw [List.map_map]
    have e : ((fun p : Bx × Gm (n + 1) => PyData.tuple [boxD p.1, gD (n + 1) p.2]) ∘ fun p : Bx × Fm n => (p.1, up n p.2)) = fun p : Bx × Fm n => PyData.tuple [boxD p.1, formD n p.2] := funext fun p => by
      show PyData.tuple [boxD p.1, gD (n + 1) (up n p.2)] = _
      rw [up_D n p.2]
    rw [e]
theorem up_E : ∀ (n : Nat) (f : Fm n), gEs (n + 1) (up n f) = ents n f
  | 0, es => rfl
  | n + 1, bs => by
    show (((brs bs).map fun p => (p.1, up n p.2)).flatMap fun p => gEs (n + 1) p.2) = List.flatMap (fun p : Bx × Fm n => ents n p.2) (brs bs)
    rw [flat_map2]
    congr 1
    funext p
    exact up_E n p.2
theorem up_P : ∀ (n : Nat) (f : Fm n), gP (n + 1) (up n f) = List.replicate (leaves n f) (n : Int)
  | 0, es => rfl
  | n + 1, bs => by
    show (((brs bs).map fun p => (p.1, up n p.2)).flatMap fun p => (gP (n + 1) p.2).map (· + 1)) = _
    rw [flat_map2]
    have z := rep_flat (fun p : Bx × Fm n => leaves n p.2) (n : Int) (brs bs)
    have e3 : (((n + 1 : Nat)) : Int) = (n : Int) + 1 := by omega
    rw [e3]
    show _ = List.replicate (List.map (fun p : Bx × Fm n => leaves n p.2) (brs bs)).sum ((n : Int) + 1)
    rw [← z]
    congr 1
    funext p
    rw [← up_P n p.2]
theorem up_W : ∀ (n : Nat) (f : Fm n), gW (n + 1) (up n f) = width n f
  | 0, es => rfl
  | n + 1, bs => by
    show ((brs bs).map fun p => (p.1, up n p.2)).length = (brs bs).length
    rw [List.length_map]
theorem pow4n {n : Nat} (h : n ≤ 2) : 4 ^ n ≤ 16 := by
  match n, h with
  | 0, _ => decide
  | 1, _ => decide
  | 2, _ => decide
theorem up_T : ∀ (n : Nat) (f : Fm n), thin n f → n ≤ 3 → gT (n + 1) (up n f)
  | 0, es, h, _ => by
    show (lfs es).length ≤ 100
    have : (lfs es).length ≤ 4 := h
    omega
  | n + 1, bs, h, h3 => by
    obtain ⟨h4, hp⟩ := h
    refine ⟨by rw [List.length_map]; omega, fun p hp' => ?_⟩
    obtain ⟨q, hq, rfl⟩ := List.mem_map.mp hp'
    have tq := hp q hq
    refine ⟨?_, ?_, up_T n q.2 tq (by omega)⟩
    · show (gEs (n + 1) (up n q.2)).length ≤ 100
      rw [up_E]
      exact Nat.le_trans (ents_len n q.2 tq) (Nat.le_trans (pow4 (by omega)) (by decide))
    · show (gP (n + 1) (up n q.2)).length ≤ 100
      rw [up_P, List.length_replicate]
      exact Nat.le_trans (leaves_le n q.2 tq) (Nat.le_trans (pow4n (by omega)) (by decide))
theorem up_O : ∀ (n : Nat) (f : Fm n), boxesOk n f → gO (n + 1) (up n f)
  | 0, es, h => h
  | n + 1, bs, h => fun p hp => by
    obtain ⟨q, hq, rfl⟩ := List.mem_map.mp hp
    exact ⟨(h q hq).1, up_O n q.2 (h q hq).2⟩
theorem up_B : ∀ (n : Nat) (f : Fm n), least n f → gB (n + 1) (up n f) = true
  | 0, es, h => rfl
  | n + 1, bs, h => by
    show (((brs bs).map fun p => (p.1, up n p.2)).all fun p => arB p.1 (gEs (n + 1) p.2) && gB (n + 1) p.2) = true
    rw [List.all_eq_true]
    intro p hp
    obtain ⟨q, hq, rfl⟩ := List.mem_map.mp hp
    obtain ⟨h1, h2, h3⟩ := h q hq
    show (arB q.1 (gEs (n + 1) (up n q.2)) && gB (n + 1) (up n q.2)) = true
    rw [up_B n q.2 h3, up_E]
    unfold arB
    rw [bxEq_iff.mpr h2.symm]
    cases he : ents n q.2 with
    | nil => exact absurd he h1
    | cons e r => rfl
theorem up_S : ∀ (n : Nat) (f : Fm n), sizes n f → gS (n + 1) (up n f) = true
  | 0, es, h => decide_eq_true h
  | n + 1, bs, h => by
    obtain ⟨h2, h4, hp⟩ := h
    show ((decide (2 ≤ ((brs bs).map fun p => (p.1, up n p.2)).length) && decide (((brs bs).map fun p => (p.1, up n p.2)).length ≤ 4)) && ((brs bs).map fun p => (p.1, up n p.2)).all fun p => decide (2 ≤ gW (n + 1) p.2) && gS (n + 1) p.2) = true
    rw [List.length_map, decide_eq_true h2, decide_eq_true h4, Bool.true_and, Bool.true_and, List.all_eq_true]
    intro p hp'
    obtain ⟨q, hq, rfl⟩ := List.mem_map.mp hp'
    obtain ⟨w2, sz⟩ := hp q hq
    show (decide (2 ≤ gW (n + 1) (up n q.2)) && gS (n + 1) (up n q.2)) = true
    rw [up_W, up_S n q.2 sz, decide_eq_true w2]
    rfl
/-- sizes right: leaves are there -/
theorem gP_ne : ∀ (n : Nat) (g : Gm (n + 1)), gS (n + 1) g = true → gP (n + 1) g ≠ []
  | n, g, h => by
    rcases gm_cases g with ⟨es, rfl⟩ | ⟨bs, rfl⟩
    · intro z
      cases z
    · match n, bs, h with
      | 0, bs, h =>
        have h' : ((decide (2 ≤ bs.length) && decide (bs.length ≤ 4)) && bs.all fun p => decide (2 ≤ gW 0 p.2) && gS 0 p.2) = true := h
        match bs, h' with
        | [], h' => cases h'
        | p :: r, _ => exact nomatch (show Empty from p.2)
      | n + 1, bs, h =>
        have h' : ((decide (2 ≤ bs.length) && decide (bs.length ≤ 4)) && bs.all fun p => decide (2 ≤ gW (n + 1) p.2) && gS (n + 1) p.2) = true := h
        obtain ⟨h1, h2⟩ := Bool.and_eq_true_iff.mp h'
        rw [List.all_eq_true] at h2
        match bs, h1, h2 with
        | [], h1, _ => cases h1
        | p :: r, _, h2 =>
          obtain ⟨_, sz⟩ := Bool.and_eq_true_iff.mp (h2 p List.mem_cons_self)
          intro z
          have z' : ((p :: r).flatMap fun p => (gP (n + 1) p.2).map (· + 1)) = [] := z
          rw [List.flatMap_cons] at z'
          exact gP_ne n p.2 sz (List.map_eq_nil_iff.mp (List.append_eq_nil_iff.mp z').1)
/-- leaves all as deep, sizes right: a form of equal depth -/
theorem down : ∀ (m : Nat) (g : Gm m) (d : Nat), gS m g = true → (∀ x ∈ gP m g, x = (d : Int)) → m ≠ 0 →
    ∃ f : Fm d, gD m g = formD d f ∧ gEs m g = ents d f ∧ gW m g = width d f ∧ sizes d f ∧ (gB m g = true → least d f) ∧ (gO m g → boxesOk d f)
  | 0, g, d, _, _, h => absurd rfl h
  | m + 1, g, d, hs, hd, _ => by
    rcases gm_cases g with ⟨es, rfl⟩ | ⟨bs, rfl⟩
    · have e0 : (0 : Int) = (d : Int) := hd 0 (List.mem_singleton.mpr rfl)
      have : d = 0 := by omega
      subst this
      exact ⟨es, rfl, rfl, rfl, (show es.length ≤ 4 from of_decide_eq_true (show decide (es.length ≤ 4) = true from hs)), fun _ => trivial, fun h => h⟩
    · have h' : ((decide (2 ≤ bs.length) && decide (bs.length ≤ 4)) && bs.all fun p => decide (2 ≤ gW m p.2) && gS m p.2) = true := hs
      obtain ⟨h1, h2⟩ := Bool.and_eq_true_iff.mp h'
      obtain ⟨l2, l4⟩ := Bool.and_eq_true_iff.mp h1
      have l2 := of_decide_eq_true l2
      have l4 := of_decide_eq_true l4
      rw [List.all_eq_true] at h2
      have hd' : ∀ x ∈ (bs.flatMap fun p => (gP m p.2).map (· + 1)), x = (d : Int) := hd
      match m, bs, h2, hd', l2, l4 with
      | 0, p :: r, _, _, _, _ => exact nomatch (show Empty from p.2)
      | m + 1, bs, h2, hd', l2, l4 =>
        obtain ⟨p0, r0, e0⟩ : ∃ p r, bs = p :: r := by
          match bs, l2 with
          | p :: r, _ => exact ⟨p, r, rfl⟩
        have hp0 : p0 ∈ bs := by rw [e0]; exact List.mem_cons_self
        have s0 := (Bool.and_eq_true_iff.mp (h2 p0 hp0)).2
        obtain ⟨x0, hx0⟩ : ∃ x, x ∈ gP (m + 1) p0.2 := by
          cases q : gP (m + 1) p0.2 with
          | nil => exact absurd q (gP_ne m p0.2 s0)
          | cons x r => exact ⟨x, List.mem_cons_self⟩
        have nn : ∀ (n : Nat) (g : Gm n) x, x ∈ gP n g → 0 ≤ x := fun n => by
          induction n with
          | zero => intro g; exact nomatch (show Empty from g)
          | succ n ih =>
            intro g x hx
            rcases gm_cases g with ⟨es, rfl⟩ | ⟨bs, rfl⟩
            · rw [List.mem_singleton.mp (show x ∈ [(0 : Int)] from hx)]
              exact Int.le_refl _
            · obtain ⟨p, hp, hx⟩ := List.mem_flatMap.mp (show x ∈ (bs.flatMap fun p => (gP n p.2).map (· + 1)) from hx)
              obtain ⟨y, hy, rfl⟩ := List.mem_map.mp hx
              have := ih p.2 y hy
              omega
        have hd0 := hd' (x0 + 1) (List.mem_flatMap.mpr ⟨p0, hp0, List.mem_map.mpr ⟨x0, hx0, rfl⟩⟩)
        have n0 := nn _ _ _ hx0
        obtain ⟨d', rfl⟩ : ∃ d', d = d' + 1 := ⟨d - 1, by omega⟩
        have ch : ∀ l : List (Bx × Gm (m + 1)), (∀ p ∈ l, (decide (2 ≤ gW (m + 1) p.2) && gS (m + 1) p.2) = true) → (∀ p ∈ l, ∀ x ∈ gP (m + 1) p.2, x = (d' : Int)) → ∃ fs : List (Bx × Fm d'),
            fs.length = l.length ∧ (fs.map fun p => PyData.tuple [boxD p.1, formD d' p.2]) = (l.map fun p => PyData.tuple [boxD p.1, gD (m + 1) p.2]) ∧ (fs.flatMap fun p => ents d' p.2) = (l.flatMap fun p => gEs (m + 1) p.2) ∧
            (∀ p ∈ fs, 2 ≤ width d' p.2 ∧ sizes d' p.2) ∧ ((∀ p ∈ l, (arB p.1 (gEs (m + 1) p.2) && gB (m + 1) p.2) = true) → ∀ p ∈ fs, ents d' p.2 ≠ [] ∧ p.1 = joint ((ents d' p.2).map (·.2)) ∧ least d' p.2) ∧ ((∀ p ∈ l, p.1.ok ∧ gO (m + 1) p.2) → ∀ p ∈ fs, p.1.ok ∧ boxesOk d' p.2) := fun l => by
          induction l with
          | nil => exact fun _ _ => ⟨[], rfl, rfl, rfl, fun p hp => absurd hp (List.not_mem_nil), fun _ p hp => absurd hp (List.not_mem_nil), fun _ p hp => absurd hp (List.not_mem_nil)⟩
          | cons p l ih =>
            intro h1 h2
            obtain ⟨fs, k1, k2, k3, k4, k5, k6⟩ := ih (fun q hq => h1 q (List.mem_cons_of_mem _ hq)) fun q hq => h2 q (List.mem_cons_of_mem _ hq)
            obtain ⟨w2, sz⟩ := Bool.and_eq_true_iff.mp (h1 p List.mem_cons_self)
            have w2 := of_decide_eq_true w2
            obtain ⟨f, f1, f2, f3, f4, f5, f6⟩ := down (m + 1) p.2 d' sz (h2 p List.mem_cons_self) (Nat.succ_ne_zero _)
            refine ⟨(p.1, f) :: fs, by rw [List.length_cons, List.length_cons, k1], by rw [List.map_cons, List.map_cons, k2, f1], by rw [List.flatMap_cons, List.flatMap_cons, k3, f2], fun q hq => ?_, fun h q hq => ?_, fun h q hq => ?_⟩
            · rcases List.mem_cons.mp hq with rfl | hq
              · exact ⟨by rw [← f3]; exact w2, f4⟩
              · exact k4 q hq
            · rcases List.mem_cons.mp hq with rfl | hq
              · obtain ⟨a1, a2⟩ := Bool.and_eq_true_iff.mp (h p List.mem_cons_self)
                obtain ⟨a3, a4⟩ := Bool.and_eq_true_iff.mp a1
                show ents d' f ≠ [] ∧ p.1 = joint ((ents d' f).map (·.2)) ∧ least d' f
                rw [← f2]
                refine ⟨fun z => ?_, (bxEq_iff.mp a4).symm, f5 a2⟩
                rw [z] at a3
                cases a3
              · exact k5 (fun x hx => h x (List.mem_cons_of_mem _ hx)) q hq
            · rcases List.mem_cons.mp hq with rfl | hq
              · exact ⟨(h p List.mem_cons_self).1, f6 (h p List.mem_cons_self).2⟩
              · exact k6 (fun x hx => h x (List.mem_cons_of_mem _ hx)) q hq
        obtain ⟨fs, k1, k2, k3, k4, k5, k6⟩ := ch bs h2 fun p hp x hx => by
          have := hd' (x + 1) (List.mem_flatMap.mpr ⟨p, hp, List.mem_map.mpr ⟨x, hx, rfl⟩⟩)
          omega
        refine ⟨fs, ?_, k3.symm, k1.symm, ⟨by show 2 ≤ fs.length; omega, by show fs.length ≤ 4; omega, k4⟩, fun h => ?_, fun h => k6 h⟩
        · show PyData.tuple [.str "node", .tuple (bs.map fun p => PyData.tuple [boxD p.1, gD (m + 1) p.2])] = .tuple [.str "node", .tuple (fs.map fun p => PyData.tuple [boxD p.1, formD d' p.2])]
          rw [k2]
        · exact k5 (List.all_eq_true.mp h)
theorem boxD_inj {x y : Bx} (h : boxD x = boxD y) : x = y := by
  cases x
  cases y
  unfold boxD at h
  injection h with h
  injection h with h1 h
  injection h with h2 h
  injection h with h3 h
  injection h with h4 h
  injection h1 with h1
  injection h2 with h2
  injection h3 with h3
  injection h4 with h4
  subst h1 h2 h3 h4
  rfl
theorem entD_inj {x y : Int × Bx} (h : entD x = entD y) : x = y := by
  obtain ⟨a, b⟩ := x
  obtain ⟨c, d⟩ := y
  unfold entD at h
  injection h with h
  injection h with h1 h
  injection h with h2 h
  injection h1 with h1
  rw [show a = c from h1, show b = d from boxD_inj h2]
theorem map_inj {α : Type} {f : α → PyData} : ∀ {l m : List α}, (∀ a ∈ l, ∀ b, f a = f b → a = b) → l.map f = m.map f → l = m
  | [], [], _, _ => rfl
  | [], _ :: _, _, h => by cases h
  | _ :: _, [], _, h => by cases h
  | a :: l, b :: m, hi, h => by
    rw [List.map_cons, List.map_cons] at h
    injection h with h1 h2
    rw [hi a List.mem_cons_self b h1, map_inj (fun x hx => hi x (List.mem_cons_of_mem _ hx)) h2]
theorem gD_inj : ∀ (n : Nat) (a b : Gm n), gD n a = gD n b → a = b
  | 0, a, _, _ => nomatch (show Empty from a)
  | n + 1, a, b, h => by
    rcases gm_cases a with ⟨es, rfl⟩ | ⟨bs, rfl⟩
    · rcases gm_cases b with ⟨es', rfl⟩ | ⟨bs', rfl⟩
      · have h' : PyData.tuple [.str "leaf", .tuple (es.map entD)] = .tuple [.str "leaf", .tuple (es'.map entD)] := h
        injection h' with h'
        injection h' with _ h'
        injection h' with h' _
        injection h' with h'
        rw [map_inj (fun x _ y => entD_inj) h']
      · have h' : PyData.tuple [.str "leaf", .tuple (es.map entD)] = .tuple [.str "node", .tuple (bs'.map fun p => PyData.tuple [boxD p.1, gD n p.2])] := h
        injection h' with h'
        injection h' with h' _
        injection h' with h'
        exact absurd h' (by decide)
    · rcases gm_cases b with ⟨es', rfl⟩ | ⟨bs', rfl⟩
      · have h' : PyData.tuple [.str "node", .tuple (bs.map fun p => PyData.tuple [boxD p.1, gD n p.2])] = .tuple [.str "leaf", .tuple (es'.map entD)] := h
        injection h' with h'
        injection h' with h' _
        injection h' with h'
        exact absurd h' (by decide)
      · have h' : PyData.tuple [.str "node", .tuple (bs.map fun p => PyData.tuple [boxD p.1, gD n p.2])] = .tuple [.str "node", .tuple (bs'.map fun p => PyData.tuple [boxD p.1, gD n p.2])] := h
        injection h' with h'
        injection h' with _ h'
        injection h' with h' _
        injection h' with h'
        have z : bs = bs' := map_inj (fun x _ y e => by
          injection e with e
          injection e with e1 e
          injection e with e2 _
          have q1 := boxD_inj e1
          have q2 := gD_inj n x.2 y.2 e2
          obtain ⟨x1, x2⟩ := x
          obtain ⟨y1, y2⟩ := y
          have q1 : x1 = y1 := q1
          have q2 : x2 = y2 := q2
          rw [q1, q2]) h'
        rw [z]
/-- the words of the flaws -/
def fwN (ws : List (Str × Bool)) : List Str := (ws.filter (·.2)).map (·.1)
def gFl (n : Nat) (g : Gm n) (many : Bool) (d : Bool) (tw : Bool) : List (Str × Bool) := [("box", !gB n g), ("depth", d), ("many", many), ("size", !gS n g), ("twice", tw)]
end PB
set_option Elab.async false
set_option linter.all false
set_option maxRecDepth 100000
set_option maxHeartbeats 2000000
/-! entries and leaves of any form; what is built -/
namespace Q
open PySem L2 PySem.Spec PyProof.Rows PySem.Calls
open Evl PB
section
variable {P : Program} {w : World} {K : PySem.W.Frag} {mg : Str → Option Value} {base : Heap}
theorem FnOk.imp {f : Addr} {fd : FuncData} {ps : List Str} {sp sp' : Sp} {k : Nat} {CXv : CXT} (F : FnOk P w K mg base CXv k f fd ps sp) (h : ∀ vs H Q E, sp' vs H Q E → sp vs H Q E) : FnOk P w K mg base CXv k f fd ps sp' :=
  ⟨fun vs H Q E x => F.len vs H Q E (h vs H Q E x), fun A outer s H args us vs Q E hr e0 hb r x => F.run A outer s H args us vs Q E hr e0 hb r (h vs H Q E x)⟩
theorem Cl.imp {k : Nat} {n : Str} {sp sp' : Sp} (c : Cl P w K mg base k n sp) (h : ∀ vs H Q E, sp' vs H Q E → sp vs H Q E) : Cl P w K mg base k n sp' := by
  obtain ⟨f, fd, ps, F, g, kk, b⟩ := c.ex
  exact ⟨⟨f, fd, ps, FnOk.imp F h, g, kk, b⟩⟩
end
def spEntsG (m : Nat) : Sp := fun vs H Q _ => ∃ (n : Nat) (f : Gm n) (v : V), n ≤ m ∧ vs = [v] ∧ TD1 H v (gD n f) ∧ gT n f ∧ ∀ l xs H', H l = none → Ex H H' → H' l = some (.lst xs) → TDs H' xs ((gEs n f).map entD) → Q (.ref l) H'
def spLeafG (m : Nat) : Sp := fun vs H Q _ => ∃ (n : Nat) (f : Gm n) (v : V), n ≤ m ∧ vs = [v] ∧ TD1 H v (gD n f) ∧ gT n f ∧ ∀ l xs H', H l = none → Ex H H' → H' l = some (.lst xs) → TDs H' xs ((gP n f).map PyData.int) → Q (.ref l) H'
def spBuiltG (m : Nat) : Sp := fun vs H Q _ => ∃ (n : Nat) (f : Gm n) (v : V), n ≤ m ∧ vs = [v] ∧ TD1 H v (gD n f) ∧ gT n f ∧ gO n f ∧ ∀ H', Ex H H' → Q (.bl true) H'
def spBranchG (m : Nat) : Sp := fun vs H Q _ => ∃ (n : Nat) (f : Gm n) (x : Bx) (v : V), n ≤ m ∧ vs = [v] ∧ TD1 H v (.tuple [boxD x, gD n f]) ∧ x.ok ∧ gT n f ∧ gO n f ∧ ∀ H', Ex H H' → Q (.bl true) H'
theorem ents_of_G {m : Nat} (vs : List V) (H : Hp) (Q : VK) (E : XK) (h : spEnts m vs H Q E) : spEntsG m vs H Q E := by
  obtain ⟨n, f, v, hn, rfl, hx, ht, h3, k⟩ := h
  exact ⟨n + 1, up n f, v, hn, rfl, by rw [up_D]; exact hx, up_T n f ht h3, fun l xs H' a b c d => k l xs H' a b c (by rw [up_E] at d; exact d)⟩
theorem leaf_of_G {m : Nat} (vs : List V) (H : Hp) (Q : VK) (E : XK) (h : spLeafD m vs H Q E) : spLeafG m vs H Q E := by
  obtain ⟨n, f, v, hn, rfl, hx, ht, h3, k⟩ := h
  exact ⟨n + 1, up n f, v, hn, rfl, by rw [up_D]; exact hx, up_T n f ht h3, fun l xs H' a b c d => k l xs H' a b c (by rw [up_P] at d; exact d)⟩
section
variable {K : PySem.W.Frag} {σ : L2.St} {H : Hp} {te : TE} {D : Ends} {tz : TS} {E : XK} {m n : Nat} {f : Gm n}
theorem eds_entsG (h : EvD te σ H (gD n f)) (hm : n ≤ m) (ht : gT n f) : EvDs (tCall (spEntsG m) [] E (tCons te tNil)) σ H ((gEs n f).map entD) := fun H1 e Q q =>
  h H1 e _ fun v H2 e2 x => ⟨n, f, v, hm, rfl, x, ht, fun l xs H3 hl e3 h3 y => q l xs H3 (fresh_back e2 hl) (e2.trans e3) h3 y⟩
theorem eds_leafG (h : EvD te σ H (gD n f)) (hm : n ≤ m) (ht : gT n f) : EvDs (tCall (spLeafG m) [] E (tCons te tNil)) σ H ((gP n f).map PyData.int) := fun H1 e Q q =>
  h H1 e _ fun v H2 e2 x => ⟨n, f, v, hm, rfl, x, ht, fun l xs H3 hl e3 h3 y => q l xs H3 (fresh_back e2 hl) (e2.trans e3) h3 y⟩
end
section
variable {P : Program} {w : World} {K : PySem.W.Frag} {mg : Str → Option Value} {base : Heap}
theorem ok_entsG {f : Addr} {fd : FuncData} {m : Nat} (F : Fun K "entries_of" "entries_of" sEnts f fd) (T : TB mg) (C : Cl P w K mg base m "entries_of" (spEntsG m)) : FnOk P w K mg base CX0 (m + 1) f fd ["form"] (spEntsG (m + 1)) := by
  refine F.ok scEnts (fun vs H Q E h => ?_) (fun cdv A' outer s H vs Q E hr h => ?_)
  · obtain ⟨n, g, v, _, rfl, _⟩ := h
    rfl
  · obtain ⟨n, g, v, hn, rfl, hx, ht, k⟩ := h
    refine ⟨_, (pss_cons (ps_asg (pv 0) (pg_tup (by rfl) (pgs_cons (pg_name (i := 1) scEnts.nd rfl (.inl rfl)) (pgs_cons (pg_name (i := 2) scEnts.nd rfl (.inl rfl)) pgs_nil))))
      (pss_cons (ps_if (pt_cmpR op_eq (pv 1) pe_str (nomark _)) (pss_one (ps_ret (pe_callTy call_list_of (by rfl) T.list (by decide +kernel) (pa_cons (pv 2) pa_nil)))) pss_nil)
      (pss_one (ps_ret (pe_lc2 (own := [("_", 3), ("inner", 4), ("entry", 5)]) (vs1 := [5]) (g := gTup K 2 (gCons (gName 3) (gCons (gName 4) gNil))) (g1 := gName 5) (by rfl) scEnts.nd (pi_tup (pv 2))
            (blkOk_by (own := [("_", 3), ("inner", 4), ("entry", 5)]) (N := ["form", "word", "members", "_", "inner", "entry"]) (sc := defScope sEnts) (by decide +kernel)) (by decide)
            (fun _ _ _ _ _ => by exact (pg_tup (by rfl) (pgs_cons (pg_name (i := 3) scEnts.nd rfl (Or.inl rfl)) (pgs_cons (pg_name (i := 4) scEnts.nd rfl (Or.inl rfl)) pgs_nil)))) (fun _ _ _ _ _ => pts_nil)
            (wi1 := iList K (tCall (spEntsG m) [] E0 (tCons (tVar 4) tNil))) (fun _ _ _ _ _ => by exact (pi_list (pe_cl C hr (Nat.le_refl _) (by rfl) (by exact (pa_cons (pv 4) pa_nil)))))
            (fun _ _ _ _ _ => pg_name (i := 5) scEnts.nd rfl (Or.inl rfl)) (fun _ _ _ _ _ => pts_nil) (te := tVar 5) (fun _ _ _ _ _ => by exact (pv 5))))))), ?_⟩
    match n, g, hn, hx, ht, k with
    | n + 1, g, hn, hx, ht, k =>
      rcases gm_cases g with ⟨es, rfl⟩ | ⟨bs, rfl⟩
      · refine q_unp2 (d1 := .str "leaf") (d2 := .tuple (es.map entD)) (ed_var rfl hx) fun v1 v2 H1 e1 x1 x2 => ?_
        cases x1.str
        refine q_when (b := true) (et_is (et_test (ev_eqW (ev_var rfl))) (by decide)) (fun _ H2 e2 => ?_) (fun z => nomatch z)
        exact s_retDs (eds_listT (ed_var rfl (x2.mono e2))) fun l xs H3 hl e3 h4 y => k l xs H3 (fresh_back (e1.trans e2) hl) ((e1.trans e2).trans e3) h4 y
      · obtain ⟨hl, hp⟩ : bs.length ≤ 100 ∧ ∀ p ∈ bs, (gEs n p.2).length ≤ 100 ∧ (gP n p.2).length ≤ 100 ∧ gT n p.2 := ht
        refine q_unp2 (d1 := .str "node") (d2 := .tuple (bs.map fun p : Bx × Gm n => PyData.tuple [boxD p.1, gD n p.2])) (ed_var rfl hx) fun v1 v2 H1 e1 x1 x2 => ?_
        cases x1.str
        refine q_when (b := false) (et_is (et_test (ev_eqW (ev_var rfl))) (by decide)) (fun z => nomatch z) (fun _ H2 e2 => ?_)
        have z := eds_it2 (σ := [some v, some (.str "node"), some v2, none, none, none]) (H := H2) (g := gTup K 2 (gCons (gName 3) (gCons (gName 4) gNil))) (te := tVar 5) (g1 := gName 5) (tt1 := tYes) (vs := [3, 4, 5]) (vs1 := [5]) (wi := iTup K (tVar 2)) (wi1 := iList K (tCall (spEntsG m) [] E0 (tCons (tVar 4) tNil)))
          (es := bs) (enc := fun p : Bx × Gm n => PyData.tuple [boxD p.1, gD n p.2]) (enc1 := entD) (sub := fun p => gEs n p.2) (p1 := fun _ _ => true) (F1 := fun _ e => entD e) (ei_tup (ed_var rfl (x2.mono e2))) (Nat.le_trans hl (by decide)) (fun p hpm => (hp p hpm).1) (fun p hpm => ?_)
        · refine s_retDs z fun l xs H3 hl e3 h4 y => k l xs H3 (fresh_back (e1.trans e2) hl) ((e1.trans e2).trans e3) h4 ?_
          rw [flat_filt (fun p : Bx × Gm n => gEs n p.2) entD bs] at y
          exact y
        · intro v H3 e3 x kk kq
          obtain ⟨a, xs, rfl, ha, y⟩ := x.tup
          obtain ⟨u1, ys, rfl, y1, y⟩ := y.inv
          obtain ⟨u2, zs, rfl, y2, y⟩ := y.inv
          cases y.inv0
          refine ⟨a, _, rfl, SqT.of ha, rfl, u1, _, rfl, u2, _, rfl, rfl, kq _ H3 (Ex.refl _) rfl (em_new (eds_entsG (ed_var rfl y2) (by omega) (hp p hpm).2.2)) fun e he H4 tk => turn_nm (fun _ => rfl) (fun _ _ _ _ => et_yes) fun v H5 e5 x5 _ => ed_var rfl x5⟩
theorem ok_leafG {f : Addr} {fd : FuncData} {m : Nat} (F : Fun K "leaf_depths" "leaf_depths" sLeafD f fd) (C : Cl P w K mg base m "leaf_depths" (spLeafG m)) : FnOk P w K mg base CX0 (m + 1) f fd ["form"] (spLeafG (m + 1)) := by
  refine F.ok scLeafD (fun vs H Q E h => ?_) (fun cdv A' outer s H vs Q E hr h => ?_)
  · obtain ⟨n, g, v, _, rfl, _⟩ := h
    rfl
  · obtain ⟨n, g, v, hn, rfl, hx, ht, k⟩ := h
    refine ⟨_, (pss_cons (ps_asg (pv 0) (pg_tup (by rfl) (pgs_cons (pg_name (i := 1) scLeafD.nd rfl (.inl rfl)) (pgs_cons (pg_name (i := 2) scLeafD.nd rfl (.inl rfl)) pgs_nil))))
      (pss_cons (ps_if (pt_cmpR op_eq (pv 1) pe_str (nomark _)) (pss_one (ps_ret (pe_lst (pa_cons (pe_int) pa_nil)))) pss_nil)
      (pss_one (ps_ret (pe_lc2 (own := [("_", 3), ("inner", 4), ("depth", 5)]) (vs1 := [5]) (g := gTup K 2 (gCons (gName 3) (gCons (gName 4) gNil))) (g1 := gName 5) (by rfl) scLeafD.nd (pi_tup (pv 2))
            (blkOk_by (own := [("_", 3), ("inner", 4), ("depth", 5)]) (N := ["form", "word", "members", "_", "inner", "depth"]) (sc := defScope sLeafD) (by decide +kernel)) (by decide)
            (fun _ _ _ _ _ => by exact (pg_tup (by rfl) (pgs_cons (pg_name (i := 3) scLeafD.nd rfl (Or.inl rfl)) (pgs_cons (pg_name (i := 4) scLeafD.nd rfl (Or.inl rfl)) pgs_nil)))) (fun _ _ _ _ _ => pts_nil)
            (wi1 := iList K (tCall (spLeafG m) [] E0 (tCons (tVar 4) tNil))) (fun _ _ _ _ _ => by exact (pi_list (pe_cl C hr (Nat.le_refl _) (by rfl) (by exact (pa_cons (pv 4) pa_nil)))))
            (fun _ _ _ _ _ => pg_name (i := 5) scLeafD.nd rfl (Or.inl rfl)) (fun _ _ _ _ _ => pts_nil) (te := tOp (rI0 fun i j => .int (i + j)) (tVar 5) (tC (.int 1))) (fun _ _ _ _ _ => by exact (pe_op op_add (pv 5) pe_int))))))), ?_⟩
    match n, g, hn, hx, ht, k with
    | n + 1, g, hn, hx, ht, k =>
      rcases gm_cases g with ⟨es, rfl⟩ | ⟨bs, rfl⟩
      · refine q_unp2 (d1 := .str "leaf") (d2 := .tuple (es.map entD)) (ed_var rfl hx) fun v1 v2 H1 e1 x1 x2 => ?_
        cases x1.str
        refine q_when (b := true) (et_is (et_test (ev_eqW (ev_var rfl))) (by decide)) (fun _ H2 e2 => ?_) (fun z => nomatch z)
        exact s_retDs (eds_lst (da_cons (ed_int ev_c) da_nil) (by show 1 ≤ 100000; decide)) fun l xs H3 hl e3 h4 y => k l xs H3 (fresh_back (e1.trans e2) hl) ((e1.trans e2).trans e3) h4 y
      · obtain ⟨hl, hp⟩ : bs.length ≤ 100 ∧ ∀ p ∈ bs, (gEs n p.2).length ≤ 100 ∧ (gP n p.2).length ≤ 100 ∧ gT n p.2 := ht
        refine q_unp2 (d1 := .str "node") (d2 := .tuple (bs.map fun p : Bx × Gm n => PyData.tuple [boxD p.1, gD n p.2])) (ed_var rfl hx) fun v1 v2 H1 e1 x1 x2 => ?_
        cases x1.str
        refine q_when (b := false) (et_is (et_test (ev_eqW (ev_var rfl))) (by decide)) (fun z => nomatch z) (fun _ H2 e2 => ?_)
        have z := eds_it2 (σ := [some v, some (.str "node"), some v2, none, none, none]) (H := H2) (g := gTup K 2 (gCons (gName 3) (gCons (gName 4) gNil))) (te := tOp (rI0 fun i j => .int (i + j)) (tVar 5) (tC (.int 1))) (g1 := gName 5) (tt1 := tYes) (vs := [3, 4, 5]) (vs1 := [5]) (wi := iTup K (tVar 2)) (wi1 := iList K (tCall (spLeafG m) [] E0 (tCons (tVar 4) tNil)))
          (es := bs) (enc := fun p : Bx × Gm n => PyData.tuple [boxD p.1, gD n p.2]) (enc1 := PyData.int) (sub := fun p => gP n p.2) (p1 := fun _ _ => true) (F1 := fun _ i => PyData.int (i + 1)) (ei_tup (ed_var rfl (x2.mono e2))) (Nat.le_trans hl (by decide)) (fun p hpm => (hp p hpm).2.1) (fun p hpm => ?_)
        · refine s_retDs z fun l xs H3 hl e3 h4 y => k l xs H3 (fresh_back (e1.trans e2) hl) ((e1.trans e2).trans e3) h4 ?_
          have e : (bs.flatMap fun e => ((gP n e.2).filter fun _ => true).map fun i => PyData.int (i + 1)) = ((bs.flatMap fun p => (gP n p.2).map (· + 1))).map PyData.int := by
            rw [List.map_flatMap]
            congr 1
            funext p
            rw [filt_all, List.map_map]
            rfl
          rw [e] at y
          exact y
        · intro v H3 e3 x kk kq
          obtain ⟨a, xs, rfl, ha, y⟩ := x.tup
          obtain ⟨u1, ys, rfl, y1, y⟩ := y.inv
          obtain ⟨u2, zs, rfl, y2, y⟩ := y.inv
          cases y.inv0
          refine ⟨a, _, rfl, SqT.of ha, rfl, u1, _, rfl, u2, _, rfl, rfl, kq _ H3 (Ex.refl _) rfl (em_new (eds_leafG (ed_var rfl y2) (by omega) (hp p hpm).2.2)) fun i hi H4 tk => turn_nm (fun _ => rfl) (fun _ _ _ _ => et_yes) fun v H5 e5 x5 _ => by
            cases x5.int
            exact ed_int (ev_op (ev_var rfl) ev_c rv_I0)⟩
theorem ev_branchG {σ : L2.St} {H : Hp} {te : TE} {E : XK} {m n : Nat} {f : Gm n} {x : Bx} (h : EvD te σ H (.tuple [boxD x, gD n f])) (hn : n ≤ m) (ho : x.ok) (ht : gT n f) (hb : gO n f) : Ev (tCall (spBranchG m) [] E (tCons te tNil)) σ H (.bl true) := ev_callD (da_cons h da_nil) fun vs H1 e1 t Q q => by
  obtain ⟨v, ys, rfl, hv, t⟩ := t.inv
  cases t.inv0
  exact ⟨n, f, x, v, hn, rfl, hv, ho, ht, hb, fun H' e' => q H' e'⟩
theorem ev_builtG {σ : L2.St} {H : Hp} {te : TE} {E : XK} {m n : Nat} {f : Gm n} (h : EvD te σ H (gD n f)) (hn : n ≤ m) (ht : gT n f) (hb : gO n f) : Ev (tCall (spBuiltG m) [] E (tCons te tNil)) σ H (.bl true) := ev_callD (da_cons h da_nil) fun vs H1 e1 t Q q => by
  obtain ⟨v, ys, rfl, hv, t⟩ := t.inv
  cases t.inv0
  exact ⟨n, f, v, hn, rfl, hv, ht, hb, fun H' e' => q H' e'⟩
theorem gD_two : ∀ {n : Nat} {g : Gm (n + 1)}, ∃ d1 d2, gD (n + 1) g = .tuple [d1, .tuple d2] ∧ d2.length = gW (n + 1) g := fun {n g} => by
  rcases gm_cases g with ⟨es, rfl⟩ | ⟨bs, rfl⟩
  · exact ⟨.str "leaf", es.map entD, rfl, by rw [List.length_map]; rfl⟩
  · exact ⟨.str "node", bs.map fun p : Bx × Gm n => PyData.tuple [boxD p.1, gD n p.2], rfl, by rw [List.length_map]; rfl⟩
theorem ok_builtG {f : Addr} {fd : FuncData} {m : Nat} (F : Fun K "is_built" "is_built" sBuilt f fd) (T : TI mg) (A : TAl mg) (CE : Cl P w K mg base 3 "is_entry" spIsEnt) (C : Cl P w K mg base (2 * m + 5) "_is_branch" (spBranchG m)) : FnOk P w K mg base CX0 (2 * m + 6) f fd ["value"] (spBuiltG (m + 1)) := by
  refine F.ok scBuilt (fun vs H Q E h => ?_) (fun cdv A' outer s H vs Q E hr h => ?_)
  · obtain ⟨n, g, v, _, rfl, _⟩ := h
    rfl
  · obtain ⟨n, g, v, hn, rfl, hx, ht, hb, k⟩ := h
    refine ⟨_, (pss_cons (ps_if (pw_or (pt_not (pt_val (pe_callB call_isi (by rfl) T.isi PyProof.Rows.boot_isinstance (pa_cons (pv 0) (pa_cons (pe_bltn (v := .ty "tuple") (by rfl) T.tuple (by decide +kernel) rfl) pa_nil))))) (pw_or (pt_cmpR op_ne (pe_callB call_len_seq (by rfl) T.len PySem.boot_len (pa_cons (pv 0) pa_nil)) pe_int (nomark _)) (pw_or1 (pt_not (pt_val (pe_callB call_isi (by rfl) T.isi PyProof.Rows.boot_isinstance (pa_cons ((pe_ix ix_tup (pv 0) pe_int (fun _ _ => rfl))) (pa_cons (pe_bltn (v := .ty "tuple") (by rfl) T.tuple (by decide +kernel) rfl) pa_nil)))))))).pt pss_never pss_nil)
      (pss_cons (ps_asg (pv 0) (pg_tup (by rfl) (pgs_cons (pg_name (i := 1) scBuilt.nd rfl (.inl rfl)) (pgs_cons (pg_name (i := 2) scBuilt.nd rfl (.inl rfl)) pgs_nil))))
      (pss_cons (ps_if (pt_cmpR op_eq (pv 1) pe_str (nomark _)) (pss_one (ps_ret (pe_callB (cr_all rfl) (by rfl) A.all (by decide +kernel) (pa_cons (pe_lc (own := [("member", 3)]) (g := gName 3) (by rfl) scBuilt.nd (pi_tup (pv 2))
            (blkOk_by (own := [("member", 3)]) (N := ["value", "word", "members", "member"]) (sc := defScope sBuilt) (by decide +kernel))
            (fun _ _ _ _ _ => pg_name (i := 3) scBuilt.nd rfl (Or.inl rfl)) (fun _ _ _ _ _ => pts_nil)
            (te := tCall spIsEnt [] E0 (tCons (tVar 3) tNil)) (fun _ _ _ _ _ => by exact (pe_cl CE hr (by omega) (by rfl) (by exact (pa_cons (pv 3) pa_nil))))) pa_nil)))) pss_nil)
      (pss_one (ps_ret (pe_and (pe_cmpR op_eq (pv 1) pe_str (nomark _)) (pe_one (pe_callB (cr_all rfl) (by rfl) A.all (by decide +kernel) (pa_cons (pe_lc (own := [("member", 3)]) (g := gName 3) (by rfl) scBuilt.nd (pi_tup (pv 2))
            (blkOk_by (own := [("member", 3)]) (N := ["value", "word", "members", "member"]) (sc := defScope sBuilt) (by decide +kernel))
            (fun _ _ _ _ _ => pg_name (i := 3) scBuilt.nd rfl (Or.inl rfl)) (fun _ _ _ _ _ => pts_nil)
            (te := tCall (spBranchG m) [] E0 (tCons (tVar 3) tNil)) (fun _ _ _ _ _ => by exact (pe_cl C hr (Nat.le_refl _) (by rfl) (by exact (pa_cons (pv 3) pa_nil))))) pa_nil))))))))), ?_⟩
    match n, g, hn, hx, ht, hb with
    | n + 1, g, hn, hx, ht, hb =>
      obtain ⟨d1, d2, ed, _⟩ := gD_two (n := n) (g := g)
      have hx' := hx
      rw [ed] at hx'
      refine q_not (et_or (et_not (a := true) (et_isTup rfl hx')) fun _ => et_or (b := false) (et_is (et_test (ev_op (ev_lenT (ed_var rfl hx')) ev_c (rv_ne rfl))) rfl) fun _ => et_not (et_isTD (ed_ix (ed_var rfl hx') ⟨by decide, rfl⟩))) fun H1 e1 => ?_
      clear hx' ed
      rcases gm_cases g with ⟨es, rfl⟩ | ⟨bs, rfl⟩
      · refine q_unp2 (d1 := .str "leaf") (d2 := .tuple (es.map entD)) (ed_var rfl (hx.mono e1)) fun v1 v2 H2 e2 x1 x2 => ?_
        cases x1.str
        refine q_when (b := true) (et_is (et_test (ev_eqW (ev_var rfl))) (by decide)) (fun _ H3 e3 => ?_) (fun z => nomatch z)
        exact s_ret (ev_allLc (es := es) (enc := entD) (ei_tup (ed_var rfl (x2.mono e3))) (Nat.le_trans ht (by decide)) fun e he => turn_nm (fun _ => rfl) (fun _ _ _ _ => et_yes) fun u H4 e4 x4 _ => ed_true (ev_isent (ed_var rfl x4) (hb e he))) fun H4 e4 => k H4 (((e1.trans e2).trans e3).trans e4)
      · obtain ⟨hl, hp⟩ : bs.length ≤ 100 ∧ ∀ p ∈ bs, (gEs n p.2).length ≤ 100 ∧ (gP n p.2).length ≤ 100 ∧ gT n p.2 := ht
        have hb' : ∀ p ∈ bs, p.1.ok ∧ gO n p.2 := hb
        refine q_unp2 (d1 := .str "node") (d2 := .tuple (bs.map fun p : Bx × Gm n => PyData.tuple [boxD p.1, gD n p.2])) (ed_var rfl (hx.mono e1)) fun v1 v2 H2 e2 x1 x2 => ?_
        cases x1.str
        refine q_when (b := false) (et_is (et_test (ev_eqW (ev_var rfl))) (by decide)) (fun z => nomatch z) (fun _ H3 e3 => ?_)
        exact s_ret (ev_is (ev_andV (a := true) (ev_is (ev_eqW (ev_var rfl)) rfl) fun _ => ev_allLc (es := bs) (enc := fun p : Bx × Gm n => PyData.tuple [boxD p.1, gD n p.2]) (ei_tup (ed_var rfl (x2.mono e3))) (Nat.le_trans hl (by decide)) fun p hpm => turn_nm (fun _ => rfl) (fun _ _ _ _ => et_yes) fun u H4 e4 x4 _ => ed_true (ev_branchG (ed_var rfl x4) (by omega) (hb' p hpm).1 (hp p hpm).2.2 (hb' p hpm).2)) rfl) fun H4 e4 => k H4 (((e1.trans e2).trans e3).trans e4)
theorem ok_branchG {f : Addr} {fd : FuncData} {m : Nat} (F : Fun K "_is_branch" "_is_branch" sBranch f fd) (T : TI mg) (CB : Cl P w K mg base 2 "is_box" spIsBox) (C : Cl P w K mg base (2 * m + 4) "is_built" (spBuiltG m)) : FnOk P w K mg base CX0 (2 * m + 5) f fd ["value"] (spBranchG m) := by
  refine F.ok scBranch (fun vs H Q E h => ?_) (fun cdv A' outer s H vs Q E hr h => ?_)
  · obtain ⟨n, g, x, v, _, rfl, _⟩ := h
    rfl
  · obtain ⟨n, g, x, v, hn, rfl, hx, ho, ht, hb, k⟩ := h
    refine ⟨_, pss_one (ps_ret (pe_and (pe_callB call_isi (by rfl) T.isi PyProof.Rows.boot_isinstance (pa_cons (pv 0) (pa_cons (pe_bltn (v := .ty "tuple") (by rfl) T.tuple (by decide +kernel) rfl) pa_nil))) (pe_and (pe_cmpR op_eq (pe_callB call_len_seq (by rfl) T.len PySem.boot_len (pa_cons (pv 0) pa_nil)) pe_int (nomark _)) (pe_and (pe_cl CB hr (by omega) (by rfl) (pa_cons ((pe_ix ix_tup (pv 0) pe_int (fun _ _ => rfl))) pa_nil)) (pe_one (pe_cl C hr (Nat.le_refl _) (by rfl) (pa_cons ((pe_ix ix_tup (pv 0) pe_int (fun _ _ => rfl))) pa_nil))))))), ?_⟩
    obtain ⟨a, xs, rfl, ha, _⟩ := id hx.tup
    refine s_ret (ev_is (ev_andV (b := true) (a := true) (fun H1 e1 Q q => ⟨_, rfl, _, _, _, _, _, rfl, .ty _, .base (.tup (e1 _ _ ha)), kit_ty (by decide +kernel), q H1 (Ex.refl _)⟩) fun _ => ev_is (ev_andV (a := true) (b := true) (ev_is (ev_op (ev_lenT (ed_var rfl hx)) ev_c (rv_eq rfl)) rfl) fun _ => ev_is (ev_andV (ev_isbox (ed_ix (ed_var rfl hx) ⟨by decide, rfl⟩) ho) fun _ => ev_builtG (ed_ix (ed_var rfl hx) ⟨by decide, rfl⟩) hn ht hb) rfl) rfl) rfl) fun H1 e1 => k H1 e1
end
end Q
set_option Elab.async false
set_option linter.all false
set_option maxRecDepth 100000
set_option maxHeartbeats 2000000
/-! least boxes and right sizes of any form -/
namespace PB
open PySem
theorem eqv_box (x y : Bx) : PyData.eqv (boxD x) (boxD y) = bxEq x y := by
  simp [PyData.eqv, PyData.eqvAll, boxD, bxEq]
  rfl
end PB
namespace Q
open PySem L2 PySem.Spec PyProof.Rows PySem.Calls
open Evl PB
def spIsArG (m : Nat) : Sp := fun vs H Q _ => ∃ (n : Nat) (f : Gm n) (x : Bx) (u v : V), n ≤ m ∧ vs = [u, v] ∧ TD1 H u (boxD x) ∧ TD1 H v (gD n f) ∧ gT n f ∧ (gEs n f).length ≤ 4000 ∧ ∀ H', Ex H H' → Q (.bl (arB x (gEs n f))) H'
def spLeastG (m : Nat) : Sp := fun vs H Q _ => ∃ (n : Nat) (f : Gm n) (v : V), n ≤ m ∧ vs = [v] ∧ TD1 H v (gD n f) ∧ gT n f ∧ ∀ H', Ex H H' → Q (.bl (gB n f)) H'
def spSizesG (m : Nat) : Sp := fun vs H Q _ => ∃ (n : Nat) (f : Gm n) (v : V), n ≤ m ∧ vs = [v] ∧ TD1 H v (gD n f) ∧ gT n f ∧ ∀ H', Ex H H' → Q (.bl (gS n f)) H'
section
variable {K : PySem.W.Frag} {σ : L2.St} {H : Hp} {te tl ta tb tc : TE} {E : XK} {d d1 d2 : PyData} {m n : Nat} {f : Gm n} {x : Bx} {g : TG} {vs : List Nat} {wi : L2.TI}
theorem ev_eqD (h1 : EvD ta σ H d1) (h2 : EvD tb σ H d2) (s1 : SeqAt.shaped d1 = true) (s2 : SeqAt.shaped d2 = true) : Ev (tOp (rEqD K) ta tb) σ H (.bl (PyData.eqv d1 d2)) := fun H1 e Q q =>
  h1 H1 e _ fun u H2 e2 a => h2 H2 (e.trans e2) _ fun v H3 e3 b => ⟨d1, d2, (a.mono e3).dp, b.dp, s1, s2, q H3 (e2.trans e3)⟩
theorem ev_isarG (h1 : EvD ta σ H (boxD x)) (h2 : EvD tb σ H (gD n f)) (hm : n ≤ m) (ht : gT n f) (hl : (gEs n f).length ≤ 4000) : Ev (tCall (spIsArG m) [] E (tCons ta (tCons tb tNil))) σ H (.bl (arB x (gEs n f))) := ev_callD (da_cons h1 (da_cons h2 da_nil)) fun vs H1 e1 t Q q => by
  obtain ⟨u, ys, rfl, hu, t⟩ := t.inv
  obtain ⟨v, zs, rfl, hv, t⟩ := t.inv
  cases t.inv0
  exact ⟨n, f, x, u, v, hm, rfl, hu, hv, ht, hl, fun H' e' => q H' e'⟩
theorem ev_leastG (h : EvD te σ H (gD n f)) (hm : n ≤ m) (ht : gT n f) : Ev (tCall (spLeastG m) [] E (tCons te tNil)) σ H (.bl (gB n f)) := ev_callD (da_cons h da_nil) fun vs H1 e1 t Q q => by
  obtain ⟨v, ys, rfl, hv, t⟩ := t.inv
  cases t.inv0
  exact ⟨n, f, v, hm, rfl, hv, ht, fun H' e' => q H' e'⟩
theorem ev_sizesG (h : EvD te σ H (gD n f)) (hm : n ≤ m) (ht : gT n f) : Ev (tCall (spSizesG m) [] E (tCons te tNil)) σ H (.bl (gS n f)) := ev_callD (da_cons h da_nil) fun vs H1 e1 t Q q => by
  obtain ⟨v, ys, rfl, hv, t⟩ := t.inv
  cases t.inv0
  exact ⟨n, f, v, hm, rfl, hv, ht, fun H' e' => q H' e'⟩
theorem ev_chainB {n m l : Int} (ha : Ev ta σ H (.int n)) (hb : Ev tb σ H (.int m)) (hc : Ev tc σ H (.int l)) : Ev (tChain (rI0 fun i j => .bl (decide (i ≤ j))) (rI0 fun i j => .bl (decide (i ≤ j))) ta tb tc) σ H (.bl (decide (n ≤ m) && decide (m ≤ l))) := fun H1 e Q q =>
  ha H1 e _ fun H2 e2 => hb H2 (e.trans e2) _ fun H3 e3 => ⟨n, m, rfl, rfl, _, rfl, by
    cases h : decide (n ≤ m) with
    | true =>
      rw [if_pos rfl]
      refine hc H3 ((e.trans e2).trans e3) _ fun H4 e4 => ⟨m, l, rfl, rfl, ?_⟩
      have z := q H4 ((e2.trans e3).trans e4)
      rw [h, Bool.true_and] at z
      exact z
    | false =>
      rw [if_neg Bool.false_ne_true]
      have z := q H3 (e2.trans e3)
      rw [h, Bool.false_and] at z
      exact z⟩
/-- all([.. for x in ..]) -/
theorem ev_allLcB {α : Type} {enc : α → PyData} {es : List α} (F : α → Bool) (h : EvI wi σ H (es.map enc)) (hz : es.length ≤ 40000) (hs : ∀ e ∈ es, Turn1 g tYes te vs σ H enc (fun _ => true) (fun e => PyData.bool (F e)) e) : Ev (tCB (rAll K) (tCons (tLc wi g tYes te vs) tNil)) σ H (.bl (es.all F)) := by
  have z := eds_it (te := te) (fun _ => true) (fun e => PyData.bool (F e)) h hz hs
  rw [filt_all] at z
  have e : es.map (fun e => PyData.bool (F e)) = (es.map F).map PyData.bool := by rw [List.map_map]; rfl
  rw [e] at z
  refine ev_is (ev_all z) ?_
  congr 1
  rw [List.all_map]
  rfl
theorem ed_bool {b : Bool} (h : Ev te σ H (.bl b)) : EvD te σ H (.bool b) := ed_of h (TDs.bl b .nil)
end
section
variable {P : Program} {w : World} {K : PySem.W.Frag} {mg : Str → Option Value} {base : Heap}
theorem ok_isarG {f : Addr} {fd : FuncData} {m : Nat} (F : Fun K "_is_around" "_is_around" sIsAr f fd) (T : TI mg) (CE : Cl P w K mg base m "entries_of" (spEntsG m)) (CA : Cl P w K mg base 1 "box_around" spAround) : FnOk P w K mg base CX0 (m + 2) f fd ["box", "form"] (spIsArG m) := by
  refine F.ok scIsAr (fun vs H Q E h => ?_) (fun cdv A' outer s H vs Q E hr h => ?_)
  · obtain ⟨n, g, x, u, v, _, rfl, _⟩ := h
    rfl
  · obtain ⟨n, g, x, u, v, hn, rfl, hu, hv, ht, hlen, k⟩ := h
    have hun := hr.units
    refine ⟨_, (pss_cons (ps_setLc (i := 2) (own := [("_", 3), ("own", 4)]) (g := gTup K 2 (gCons (gName 3) (gCons (gName 4) gNil))) (by rfl) scIsAr.nd rfl rfl (sw_true rfl rfl rfl (by decide +kernel)) (pi_list (pe_cl CE hr (by omega) (by rfl) (pa_cons (pv 1) pa_nil)))
            (blkOk_by (own := [("_", 3), ("own", 4)]) (N := ["box", "form", "boxes", "_", "own"]) (sc := defScope sIsAr) (by decide +kernel))
            (fun _ _ _ _ _ => by exact (pg_tup (by rfl) (pgs_cons (pg_name (i := 3) scIsAr.nd rfl (Or.inl rfl)) (pgs_cons (pg_name (i := 4) scIsAr.nd rfl (Or.inl rfl)) pgs_nil)))) (fun _ _ _ _ _ => pts_nil)
            (te := tVar 4) (fun _ _ _ _ _ => by exact (pv 4)))
      (pss_one (ps_ret (pe_and (pe_cmpR op_gt (pe_callB call_len_seq (by rfl) T.len PySem.boot_len (pa_cons (pv 2) pa_nil)) pe_int (nomark _)) (pe_one (pe_cmpR (op_eqD hun) (pe_cl CA hr (by omega) (by rfl) (pa_cons (pv 2) pa_nil)) (pv 0) (nomark _))))))), ?_⟩
    refine q_asgDs (ds := ((gEs n g).map (·.2)).map boxD) ?_ fun l xs H1 e1 _ hl y => ?_
    · have z := eds_it (te := tVar 4) (g := gTup K 2 (gCons (gName 3) (gCons (gName 4) gNil))) (tt := tYes) (vs := [3, 4]) (wi := iList K (tCall (spEntsG m) [] E0 (tCons (tVar 1) tNil))) (σ := [some u, some v, none, none, none]) (H := H) (es := gEs n g) (enc := entD) (fun _ => true) (fun e => boxD e.2) (ei_list (ld_new (eds_entsG (ed_var rfl hv) hn ht))) (by omega) (fun e he => turn_t2 (d1 := .int e.1) (d2 := boxD e.2) rfl (fun _ _ => rfl) (fun _ _ _ _ _ _ => et_yes) fun u1 v1 H2 e2 y1 y2 _ => ed_var rfl y2)
      rw [filt_all] at z
      rw [List.map_map]
      exact z
    · have ea : arB x (gEs n g) = (decide ((0 : Int) < (((gEs n g).map (·.2)).map boxD).length) && bxEq (joint ((gEs n g).map (·.2))) x) := by
        unfold arB
        cases gEs n g with
        | nil => rfl
        | cons e r =>
          rw [decide_eq_true (by rw [List.length_map, List.length_map, List.length_cons]; omega)]
          rfl
      refine s_ret (ev_is (ev_andV (a := decide ((0 : Int) < (((gEs n g).map (·.2)).map boxD).length)) (b := bxEq (joint ((gEs n g).map (·.2))) x) (ev_op (ev_lenL (ld_of (ev_var rfl) hl y)) ev_c rv_I0) fun hp => ?_) (by rw [ea])) fun H2 e2 => k H2 (e1.trans e2)
      have hp := of_decide_eq_true hp
      rw [List.length_map] at hp
      refine ev_is (ev_eqD (ed_aroundV (ev_var rfl) hl y (fun z => by rw [z] at hp; cases hp) (by rw [List.length_map]; omega)) (ed_var rfl (hu.mono e1)) (shaped_box _) (shaped_box _)) ?_
      rw [eqv_box]
theorem ok_leastG {f : Addr} {fd : FuncData} {m : Nat} (F : Fun K "has_least_boxes" "has_least_boxes" sLeast f fd) (A : TAl mg) (CI : Cl P w K mg base (m + 2) "_is_around" (spIsArG m)) (C : Cl P w K mg base (m + 3) "has_least_boxes" (spLeastG m)) : FnOk P w K mg base CX0 (m + 4) f fd ["form"] (spLeastG (m + 1)) := by
  refine F.ok scLeast (fun vs H Q E h => ?_) (fun cdv A' outer s H vs Q E hr h => ?_)
  · obtain ⟨n, g, v, _, rfl, _⟩ := h
    rfl
  · obtain ⟨n, g, v, hn, rfl, hx, ht, k⟩ := h
    refine ⟨_, (pss_cons (ps_asg (pv 0) (pg_tup (by rfl) (pgs_cons (pg_name (i := 1) scLeast.nd rfl (.inl rfl)) (pgs_cons (pg_name (i := 2) scLeast.nd rfl (.inl rfl)) pgs_nil))))
      (pss_one (ps_ret (pe_or (pe_cmpR op_eq (pv 1) pe_str (nomark _)) (pe_one (pe_callB (cr_all rfl) (by rfl) A.all (by decide +kernel) (pa_cons (pe_lc (own := [("box", 3), ("inner", 4)]) (g := gTup K 2 (gCons (gName 3) (gCons (gName 4) gNil))) (by rfl) scLeast.nd (pi_tup (pv 2))
            (blkOk_by (own := [("box", 3), ("inner", 4)]) (N := ["form", "word", "members", "box", "inner"]) (sc := defScope sLeast) (by decide +kernel))
            (fun _ _ _ _ _ => by exact (pg_tup (by rfl) (pgs_cons (pg_name (i := 3) scLeast.nd rfl (Or.inl rfl)) (pgs_cons (pg_name (i := 4) scLeast.nd rfl (Or.inl rfl)) pgs_nil)))) (fun _ _ _ _ _ => pts_nil)
            (te := tAndV (tCall (spIsArG m) [] E0 (tCons (tVar 3) (tCons (tVar 4) tNil))) (tCall (spLeastG m) [] E0 (tCons (tVar 4) tNil))) (fun _ _ _ _ _ => by exact (pe_and (pe_cl CI hr (by omega) (by rfl) (by exact (pa_cons (pv 3) (pa_cons (pv 4) pa_nil)))) (pe_one (pe_cl C hr (Nat.le_refl _) (by rfl) (by exact (pa_cons (pv 4) pa_nil))))))) pa_nil))))))), ?_⟩
    match n, g, hn, hx, ht, k with
    | n + 1, g, hn, hx, ht, k =>
      rcases gm_cases g with ⟨es, rfl⟩ | ⟨bs, rfl⟩
      · refine q_unp2 (d1 := .str "leaf") (d2 := .tuple (es.map entD)) (ed_var rfl hx) fun v1 v2 H1 e1 x1 x2 => ?_
        cases x1.str
        exact s_ret (ev_is (ev_orV (a := true) (b := true) (ev_is (ev_eqW (ev_var rfl)) rfl) fun z => nomatch z) rfl) fun H2 e2 => k H2 (e1.trans e2)
      · obtain ⟨hl, hp⟩ : bs.length ≤ 100 ∧ ∀ p ∈ bs, (gEs n p.2).length ≤ 100 ∧ (gP n p.2).length ≤ 100 ∧ gT n p.2 := ht
        refine q_unp2 (d1 := .str "node") (d2 := .tuple (bs.map fun p : Bx × Gm n => PyData.tuple [boxD p.1, gD n p.2])) (ed_var rfl hx) fun v1 v2 H1 e1 x1 x2 => ?_
        cases x1.str
        exact s_ret (ev_is (ev_orV (a := false) (b := gB (n + 1) (gN bs)) (ev_is (ev_eqW (ev_var rfl)) (by decide)) fun _ => ev_allLcB (es := bs) (enc := fun p : Bx × Gm n => PyData.tuple [boxD p.1, gD n p.2]) (fun p => arB p.1 (gEs n p.2) && gB n p.2) (ei_tup (ed_var rfl x2)) (Nat.le_trans hl (by decide)) fun p hpm => turn_t2 (d1 := boxD p.1) (d2 := gD n p.2) rfl (fun _ _ => rfl) (fun _ _ _ _ _ _ => et_yes) fun u1 u2 H2 e2 y1 y2 _ => ed_bool (ev_andV (ev_isarG (ed_var rfl y1) (ed_var rfl y2) (by omega) (hp p hpm).2.2 (Nat.le_trans (hp p hpm).1 (by decide))) fun _ => ev_leastG (ed_var rfl y2) (by omega) (hp p hpm).2.2)) (by rw [Bool.false_or])) fun H2 e2 => k H2 (e1.trans e2)
theorem ok_sizesG {f : Addr} {fd : FuncData} {m : Nat} (F : Fun K "has_right_sizes" "has_right_sizes" sSizes f fd) (T : TI mg) (A : TAl mg) (G : TGl mg) (C : Cl P w K mg base m "has_right_sizes" (spSizesG m)) : FnOk P w K mg base CX0 (m + 1) f fd ["form"] (spSizesG (m + 1)) := by
  obtain ⟨t4, g4⟩ := G.most
  obtain ⟨t2, g2⟩ := G.least
  refine F.ok scSizes (fun vs H Q E h => ?_) (fun cdv A' outer s H vs Q E hr h => ?_)
  · obtain ⟨n, g, v, _, rfl, _⟩ := h
    rfl
  · obtain ⟨n, g, v, hn, rfl, hx, ht, k⟩ := h
    refine ⟨_, (pss_cons (ps_asg (pv 0) (pg_tup (by rfl) (pgs_cons (pg_name (i := 1) scSizes.nd rfl (.inl rfl)) (pgs_cons (pg_name (i := 2) scSizes.nd rfl (.inl rfl)) pgs_nil))))
      (pss_cons (ps_if (pt_cmpR op_eq (pv 1) pe_str (nomark _)) (pss_one (ps_ret (pe_cmpR op_le (pe_callB call_len_seq (by rfl) T.len PySem.boot_len (pa_cons (pv 2) pa_nil)) (pe_glob (v := .int 4) (by rfl) g4 ⟨_, rfl⟩) (nomark _)))) pss_nil)
      (pss_cons (ps_if (pt_not (pt_chain op_le op_le (pe_glob (v := .int 2) (by rfl) g2 ⟨_, rfl⟩) (pe_callB call_len_seq (by rfl) T.len PySem.boot_len (pa_cons (pv 2) pa_nil)) (pe_glob (v := .int 4) (by rfl) g4 ⟨_, rfl⟩))) (pss_one (ps_ret pe_bl)) pss_nil)
      (pss_one (ps_ret (pe_callB (cr_all rfl) (by rfl) A.all (by decide +kernel) (pa_cons (pe_lc (own := [("_", 3), ("inner", 4)]) (g := gTup K 2 (gCons (gName 3) (gCons (gName 4) gNil))) (by rfl) scSizes.nd (pi_tup (pv 2))
            (blkOk_by (own := [("_", 3), ("inner", 4)]) (N := ["form", "word", "members", "_", "inner"]) (sc := defScope sSizes) (by decide +kernel))
            (fun _ _ _ _ _ => by exact (pg_tup (by rfl) (pgs_cons (pg_name (i := 3) scSizes.nd rfl (Or.inl rfl)) (pgs_cons (pg_name (i := 4) scSizes.nd rfl (Or.inl rfl)) pgs_nil)))) (fun _ _ _ _ _ => pts_nil)
            (te := tAndV (tOp (rI0 fun i j => .bl (decide (j ≤ i))) (tCB (rLn K) (tCons (tOp (rIxT K) (tVar 4) (tC (.int 1))) tNil)) (tC (.int 2))) (tCall (spSizesG m) [] E0 (tCons (tVar 4) tNil))) (fun _ _ _ _ _ => by exact (pe_and (pe_cmpR op_ge (pe_callB call_len_seq (by rfl) T.len PySem.boot_len (by exact (pa_cons ((pe_ix ix_tup (pv 4) pe_int (fun _ _ => rfl))) pa_nil))) (pe_glob (v := .int 2) (by rfl) g2 ⟨_, rfl⟩) (nomark _)) (pe_one (pe_cl C hr (Nat.le_refl _) (by rfl) (by exact (pa_cons (pv 4) pa_nil))))))) pa_nil))))))), ?_⟩
    match n, g, hn, hx, ht, k with
    | n + 1, g, hn, hx, ht, k =>
      rcases gm_cases g with ⟨es, rfl⟩ | ⟨bs, rfl⟩
      · refine q_unp2 (d1 := .str "leaf") (d2 := .tuple (es.map entD)) (ed_var rfl hx) fun v1 v2 H1 e1 x1 x2 => ?_
        cases x1.str
        refine q_when (b := true) (et_is (et_test (ev_eqW (ev_var rfl))) (by decide)) (fun _ H2 e2 => ?_) (fun z => nomatch z)
        refine s_ret (ev_is (ev_op (ev_lenT (ed_var rfl (x2.mono e2))) ev_c rv_I0) ?_) fun H3 e3 => k H3 ((e1.trans e2).trans e3)
        rw [List.length_map]
        have z : gS (n + 1) (gL es) = decide (es.length ≤ 4) := rfl
        rw [z]
        congr 1
        exact decide_eq_decide.mpr (by omega)
      · obtain ⟨hl, hp⟩ : bs.length ≤ 100 ∧ ∀ p ∈ bs, (gEs n p.2).length ≤ 100 ∧ (gP n p.2).length ≤ 100 ∧ gT n p.2 := ht
        have gs : gS (n + 1) (gN bs) = ((decide (2 ≤ bs.length) && decide (bs.length ≤ 4)) && bs.all fun p => decide (2 ≤ gW n p.2) && gS n p.2) := rfl
        rw [gs] at k
        refine q_unp2 (d1 := .str "node") (d2 := .tuple (bs.map fun p : Bx × Gm n => PyData.tuple [boxD p.1, gD n p.2])) (ed_var rfl hx) fun v1 v2 H1 e1 x1 x2 => ?_
        cases x1.str
        refine q_when (b := false) (et_is (et_test (ev_eqW (ev_var rfl))) (by decide)) (fun z => nomatch z) (fun _ H2 e2 => ?_)
        refine q_when (et_not (et_is (b := decide (2 ≤ bs.length) && decide (bs.length ≤ 4)) (et_test (ev_chainB ev_c (ev_lenT (ed_var rfl (x2.mono e2))) ev_c)) (by
          rw [List.length_map]
          have a1 : decide ((2 : Int) ≤ (bs.length : Int)) = decide (2 ≤ bs.length) := decide_eq_decide.mpr (by omega)
          have a2 : decide ((bs.length : Int) ≤ 4) = decide (bs.length ≤ 4) := decide_eq_decide.mpr (by omega)
          rw [a1, a2]))) (fun hb H3 e3 => ?_) (fun hb H3 e3 => ?_)
        · have hb' : (decide (2 ≤ bs.length) && decide (bs.length ≤ 4)) = false := by
            cases q : (decide (2 ≤ bs.length) && decide (bs.length ≤ 4)) with
            | false => rfl
            | true =>
              rw [q] at hb
              cases hb
          rw [hb', Bool.false_and] at k
          exact s_ret ev_c fun H4 e4 => k H4 (((e1.trans e2).trans e3).trans e4)
        · have hb' : (decide (2 ≤ bs.length) && decide (bs.length ≤ 4)) = true := by
            cases q : (decide (2 ≤ bs.length) && decide (bs.length ≤ 4)) with
            | true => rfl
            | false =>
              rw [q] at hb
              cases hb
          rw [hb', Bool.true_and] at k
          refine s_ret (ev_allLcB (es := bs) (enc := fun p : Bx × Gm n => PyData.tuple [boxD p.1, gD n p.2]) (fun p => decide (2 ≤ gW n p.2) && gS n p.2) (ei_tup (ed_var rfl (x2.mono (e2.trans e3)))) (Nat.le_trans hl (by decide)) fun p hpm => turn_t2 (d1 := boxD p.1) (d2 := gD n p.2) rfl (fun _ _ => rfl) (fun _ _ _ _ _ _ => et_yes) fun u1 u2 H4 e4 y1 y2 _ => ?_) fun H4 e4 => k H4 (((e1.trans e2).trans e3).trans e4)
          match n, bs, p, hpm, hn, hp, y2 with
          | n + 1, bs, p, hpm, hn, hp, y2 =>
            obtain ⟨d1, d2, ed, el⟩ := gD_two (n := n) (g := p.2)
            have y2' := y2
            rw [ed] at y2'
            refine ed_bool (ev_andV (ev_is (ev_op (ev_lenT (ed_ix (ed_var rfl y2') ⟨by decide, rfl⟩)) ev_c rv_I0) ?_) fun _ => ev_sizesG (ed_var rfl y2) (by omega) (hp p hpm).2.2)
            rw [el]
            congr 1
            exact decide_eq_decide.mpr (by omega)
          | 0, bs, p, hpm, _, _, _ => exact nomatch (show Empty from p.2)
end
end Q
set_option Elab.async false
set_option linter.all false
set_option maxRecDepth 100000
set_option maxHeartbeats 4000000
/-! the flaws of any form -/
namespace Q
open PySem L2 PySem.Spec PyProof.Rows PySem.Calls
open Evl PB
abbrev sIsRF : Stmt := top 38
/-- the flaws of a form, by the words' order -/
def flW (n : Nat) (g : Gm n) : List (Str × Bool) := gFl n g (decide (300 < (gEs n g).length)) (decide (1 < diffN (gP n g))) (decide (diffN ((gEs n g).map (·.1)) < (gEs n g).length))
def flaws (n : Nat) (g : Gm n) : List Str := fwN (flW n g)
def spFlawsG (m : Nat) : Sp := fun vs H Q _ => ∃ (n : Nat) (g : Gm n) (v : V), n ≤ m ∧ vs = [v] ∧ TD1 H v (gD n g) ∧ gT n g ∧ gO n g ∧ (gEs n g).length ≤ 4000 ∧ (gP n g).length ≤ 4000 ∧ ∀ t H', Ex H H' → H' t = some (.tup ((flaws n g).map V.str)) → Q (.ref t) H'
def spIsRF (m : Nat) : Sp := fun vs H Q _ => ∃ (n : Nat) (g : Gm n) (v : V), n ≤ m ∧ vs = [v] ∧ TD1 H v (gD n g) ∧ gT n g ∧ gO n g ∧ (gEs n g).length ≤ 4000 ∧ (gP n g).length ≤ 4000 ∧ ∀ H', Ex H H' → Q (.bl (flaws n g).isEmpty) H'
theorem fwN_snoc {ws : List (Str × Bool)} {i : Nat} {s : Str} {b : Bool} (h : ws[i]? = some (s, b)) : fwN (ws.take (i + 1)) = fwN (ws.take i) ++ (if b = true then [s] else []) := by
  unfold fwN
  rw [take_snoc h, List.filter_append, List.map_append]
  cases b <;> rfl
theorem fwN_le (ws : List (Str × Bool)) : (fwN ws).length ≤ ws.length := by
  unfold fwN
  rw [List.length_map]
  exact List.length_filter_le _ _
theorem TDs.strs {H : Hp} : ∀ ws : List Str, TDs H (ws.map V.str) (ws.map PyData.str)
  | [] => .nil
  | w :: ws => .str w (TDs.strs ws)
theorem diff_le (ns : List Int) : diffN ns ≤ ns.length := PyProof.Rows.firstMet_length_le _ _
/-- a right form has none -/
theorem flaws_up {n : Nat} {f : Fm n} (hl : least n f) (hz : sizes n f) (nd : ((ents n f).map (·.1)).Nodup) (hc : (ents n f).length ≤ 300) : flaws (n + 1) (up n f) = [] := by
  unfold flaws flW gFl
  rw [up_B n f hl, up_S n f hz, up_E, up_P, diff_nodup nd, decide_eq_false (show ¬ 300 < (ents n f).length by omega), decide_eq_false (show ¬ ((ents n f).map (·.1)).length < (ents n f).length by rw [List.length_map]; omega)]
  obtain ⟨c, hcc⟩ : ∃ c, leaves n f = c + 1 := ⟨leaves n f - 1, by have := leaves_pos n f hz; omega⟩
  rw [hcc, diff_same]
  rfl
/-- no flaws: right -/
theorem flaws_none {n : Nat} {g : Gm n} (h : flaws n g = []) : gB n g = true ∧ ¬ 1 < diffN (gP n g) ∧ ¬ 300 < (gEs n g).length ∧ gS n g = true ∧ ¬ diffN ((gEs n g).map (·.1)) < (gEs n g).length := by
  have z : ∀ p ∈ flW n g, p.2 = false := fun p hp => by
    cases q : p.2 with
    | false => rfl
    | true =>
      have : p ∈ (flW n g).filter (·.2) := List.mem_filter.mpr ⟨hp, q⟩
      have e : (flW n g).filter (·.2) = [] := List.map_eq_nil_iff.mp h
      rw [e] at this
      cases this
  unfold flW gFl at z
  have h1 := z _ List.mem_cons_self
  have h2 := z _ (List.mem_cons_of_mem _ List.mem_cons_self)
  have h3 := z _ (List.mem_cons_of_mem _ (List.mem_cons_of_mem _ List.mem_cons_self))
  have h4 := z _ (List.mem_cons_of_mem _ (List.mem_cons_of_mem _ (List.mem_cons_of_mem _ List.mem_cons_self)))
  have h5 := z _ (List.mem_cons_of_mem _ (List.mem_cons_of_mem _ (List.mem_cons_of_mem _ (List.mem_cons_of_mem _ List.mem_cons_self))))
  refine ⟨?_, of_decide_eq_false h2, of_decide_eq_false h3, ?_, of_decide_eq_false h5⟩
  · cases q : gB n g with
    | true => rfl
    | false =>
      rw [q] at h1
      cases h1
  · cases q : gS n g with
    | true => rfl
    | false =>
      rw [q] at h4
      cases h4
section
variable {P : Program} {w : World} {K : PySem.W.Frag} {mg : Str → Option Value} {base : Heap}
theorem ok_flawsG {f : Addr} {fd : FuncData} (F : Fun K "form_flaws" "form_flaws" sFlaws f fd) (T : TSt mg) (G : TGl mg) (CB : Cl P w K mg base 12 "is_built" (spBuiltG 4)) (CE : Cl P w K mg base 4 "entries_of" (spEntsG 4)) (CD : Cl P w K mg base 4 "leaf_depths" (spLeafG 4)) (CL : Cl P w K mg base 7 "has_least_boxes" (spLeastG 4)) (CS : Cl P w K mg base 4 "has_right_sizes" (spSizesG 4)) :
    FnOk P w K mg base CX0 13 f fd ["value"] (spFlawsG 4) := by
  obtain ⟨t3, g3⟩ := G.max
  refine F.ok scFlaws (fun vs H Q E h => ?_) (fun cdv A' outer s H vs Q E hr h => ?_)
  · obtain ⟨n, g, v, _, rfl, _⟩ := h
    rfl
  · obtain ⟨n, g, v, h4, rfl, hx, ht, hb, le, lp, k⟩ := h
    have hu := hr.units
    refine ⟨_, (pss_cons (ps_if (pt_not (pt_val (pe_cl CB hr (by decide) (by rfl) (pa_cons (pv 0) pa_nil)))) pss_never pss_nil)
      (pss_cons (ps_setLc (i := 1) (own := [("number", 3), ("_", 4)]) (g := gTup K 2 (gCons (gName 3) (gCons (gName 4) gNil))) (by rfl) scFlaws.nd rfl rfl (sw_true rfl rfl rfl (by decide +kernel)) (pi_list (pe_cl CE hr (by decide) (by rfl) (pa_cons (pv 0) pa_nil)))
            (blkOk_by (own := [("number", 3), ("_", 4)]) (N := ["value", "numbers", "told", "number", "_", "word"]) (sc := defScope sFlaws) (by decide +kernel))
            (fun _ _ _ _ _ => by exact (pg_tup (by rfl) (pgs_cons (pg_name (i := 3) scFlaws.nd rfl (Or.inl rfl)) (pgs_cons (pg_name (i := 4) scFlaws.nd rfl (Or.inl rfl)) pgs_nil)))) (fun _ _ _ _ _ => pts_nil)
            (te := tVar 3) (fun _ _ _ _ _ => by exact (pv 3)))
      (pss_cons (ps_set (i := 2) scFlaws.nd rfl (Or.inr rfl) (pe_disp (pps_cons pe_str (pe_not (pe_cl CL hr (by decide) (by rfl) (pa_cons (pv 0) pa_nil))) (pps_cons pe_str (pe_cmpR op_gt (pe_lenSetA (by rfl) T.len (by rfl) T.set (pe_cl CD hr (by decide) (by rfl) (pa_cons (pv 0) pa_nil))) pe_int (nomark _))
          (pps_cons pe_str (pe_cmpR op_gt (pe_callB call_len_seq (by rfl) T.len PySem.boot_len (pa_cons (pv 1) pa_nil)) (pe_glob (v := .int 300) (by rfl) g3 ⟨_, rfl⟩) (nomark _)) (pps_cons pe_str (pe_not (pe_cl CS hr (by decide) (by rfl) (pa_cons (pv 0) pa_nil))) (pps_cons pe_str (pe_cmpR op_lt (pe_lenSetA (by rfl) T.len (by rfl) T.set (pv 1)) (pe_callB call_len_seq (by rfl) T.len PySem.boot_len (pa_cons (pv 1) pa_nil)) (nomark _)) pps_nil))))) (by rfl) (by rfl) (fun z => by cases z) (by decide)))
      (pss_one (ps_ret (pe_callTy call_tuple_of (by rfl) T.tuple (by decide +kernel) (pa_cons (pe_lock (pe_lc (own := [("word", 5)]) (g := gName 5) (by rfl) scFlaws.nd (pi_keys (pv 2))
            (blkOk_by (own := [("word", 5)]) (N := ["value", "numbers", "told", "number", "_", "word"]) (sc := defScope sFlaws) (by decide +kernel))
            (fun _ _ _ _ _ => pg_name (i := 5) scFlaws.nd rfl (Or.inl rfl)) (tt := tB (tDGet (tVar 2) (tVar 5))) (fun _ _ _ _ _ => by exact (pts_one (pt_val (pe_dget (hu_of hr) (pv 2) (pv 5) (fun _ _ => rfl)))))
            (te := tVar 5) (fun _ _ _ _ _ => by exact (pv 5)))) pa_nil))))))), ?_⟩
    refine q_not (et_not (a := true) (et_B (ev_builtG (ed_var rfl hx) h4 ht hb))) fun H1 e1 => ?_
    refine q_asgDs (ds := ((gEs n g).map (·.1)).map PyData.int) ?_ fun ln xs H2 e2 _ hln y => ?_
    · have z := eds_it (te := tVar 3) (g := gTup K 2 (gCons (gName 3) (gCons (gName 4) gNil))) (tt := tYes) (vs := [3, 4]) (wi := iList K (tCall (spEntsG 4) [] E0 (tCons (tVar 0) tNil))) (σ := [some v, none, none, none, none, none]) (H := H1) (es := gEs n g) (enc := entD) (fun _ => true) (fun e => PyData.int e.1) (ei_list (ld_new (eds_entsG (ed_var rfl (hx.mono e1)) h4 ht))) (by omega) (fun e he => turn_t2 (d1 := .int e.1) (d2 := boxD e.2) rfl (fun _ _ => rfl) (fun _ _ _ _ _ _ => et_yes) fun u1 v1 H2 e2 y1 y2 _ => ed_var rfl y1)
      rw [filt_all] at z
      rw [List.map_map]
      exact z
    have hx2 := hx.mono (e1.trans e2)
    refine q_asgQ fun p hp => ?_
    have eP := Ex.new (o := .dK []) hp
    have hp0 : upd H2 p (.dK []) p = some (.dK []) := upd_same
    have hln3 := eP _ _ hln
    have y3 := y.mono eP
    have hx3 := hx2.mono eP
    have e3 := (e1.trans e2).trans eP
    generalize upd H2 p (.dK []) = H3 at hp0 hln3 y3 hx3 e3 ⊢
    have lnm : ((gEs n g).map (·.1)).length ≤ 4000 := by rw [List.length_map]; omega
    refine tp_cons (ev_notV (ev_leastG (ed_var rfl hx3) h4 ht)) fun H4 e4 => ?_
    refine tp_cons (b := decide (1 < diffN (gP n g))) (ev_is (ev_op (ev_lenSet (ld_new (eds_leafG (ed_var rfl (hx3.mono e4)) h4 ht)) lp) ev_c rv_I0) (by congr 1; exact decide_eq_decide.mpr (by omega))) fun H5 e5 => ?_
    refine tp_cons (b := decide (300 < (gEs n g).length)) (ev_is (ev_op (ev_lenL (ld_of (ev_var rfl) (e5 _ _ (e4 _ _ hln3)) (y3.mono (e4.trans e5)))) ev_c rv_I0) (by rw [List.length_map, List.length_map]; congr 1; exact decide_eq_decide.mpr (by omega))) fun H6 e6 => ?_
    have e36 := (e4.trans e5).trans e6
    refine tp_cons (ev_notV (ev_sizesG (ed_var rfl (hx3.mono e36)) h4 ht)) fun H7 e7 => ?_
    have e37 := e36.trans e7
    refine tp_cons (b := decide (diffN ((gEs n g).map (·.1)) < (gEs n g).length)) (ev_is (ev_op (ev_lenSet (ld_of (ev_var rfl) (e37 _ _ hln3) (y3.mono e37)) lnm) (ev_lenL (ld_of (ev_var rfl) (e37 _ _ hln3) (y3.mono e37))) rv_I0) (by rw [List.length_map, List.length_map]; congr 1; exact decide_eq_decide.mpr (by omega))) fun H8 e8 => ?_
    have e38 := e37.trans e8
    generalize hws : flW n g = ws
    have hk5 : ∃ b1 b2 b3 b4 b5 : Bool, ws = ([("box", b1), ("depth", b2), ("many", b3), ("size", b4), ("twice", b5)] : List (Str × Bool)) ∧ b1 = !gB n g ∧ b2 = decide (1 < diffN (gP n g)) ∧ b3 = decide (300 < (gEs n g).length) ∧ b4 = !gS n g ∧ b5 = decide (diffN ((gEs n g).map (·.1)) < (gEs n g).length) := ⟨_, _, _, _, _, hws.symm, rfl, rfl, rfl, rfl, rfl⟩
    obtain ⟨b1, b2, b3, b4, b5, hw5, q1, q2, q3, q4, q5⟩ := hk5
    rw [← q1, ← q2, ← q3, ← q4, ← q5]
    have kf : flaws n g = fwN ws := by rw [← hws]; rfl
    rw [kf] at k
    have kv : ∃ kvs : List (Key × V), kvs = [(.inr "box", .bl b1), (.inr "depth", .bl b2), (.inr "many", .bl b3), (.inr "size", .bl b4), (.inr "twice", .bl b5)] := ⟨_, rfl⟩
    obtain ⟨kvs, hkvs⟩ := kv
    refine ⟨e38 _ _ hp0, kvs, by rw [hkvs]; rfl, by rw [hkvs]; show 5 ≤ 15; decide, ?_⟩
    have hm : mergeK [] kvs = kvs := by rw [hkvs]; rfl
    rw [hm]
    have hp9 : upd H8 p (.dK kvs) p = some (.dK kvs) := upd_same
    have nP : H p = none := fresh_back (e1.trans e2) hp
    have e9 : Ex H (upd H8 p (.dK kvs)) := Ex.mut (e3.trans e38) nP
    generalize upd H8 p (.dK kvs) = H9 at hp9 e9 ⊢
    have val : ∀ (i : Nat) kk u, kvs[i]? = some (kk, u) → ∃ s b, kk = .inr s ∧ u = .bl b ∧ ws[i]? = some (s, b) ∧ valV kvs kk = some (.bl b) := fun i kk u hk => by
      rw [hkvs] at hk ⊢
      rw [hw5]
      match i, hk with
      | 0, hk => cases hk; exact ⟨_, _, rfl, rfl, rfl, rfl⟩
      | 1, hk => cases hk; exact ⟨_, _, rfl, rfl, rfl, rfl⟩
      | 2, hk => cases hk; exact ⟨_, _, rfl, rfl, rfl, rfl⟩
      | 3, hk => cases hk; exact ⟨_, _, rfl, rfl, rfl, rfl⟩
      | 4, hk => cases hk; exact ⟨_, _, rfl, rfl, rfl, rfl⟩
      | i + 5, hk => cases hk
    have wl : ws.length = 5 := by rw [hw5]; rfl
    have kl : kvs.length = 5 := by rw [hkvs]; rfl
    refine ⟨p, .dK kvs, hp9, trivial, fun od => ?_⟩
    refine ⟨_, rfl, p, od, rfl, .inl ⟨kvs, upd_same, fun Dl hD => ?_⟩⟩
    have nDp : Dl ≠ p := fun z => by
      rw [z, upd_same] at hD
      cases hD
    have hD9 : H9 Dl = none := by
      rw [upd_ne nDp] at hD
      exact hD
    refine lc_it walk_keys (fun i H' => H' p = some (.frz od (.dK kvs)) ∧ H' Dl = some (.lst ((fwN (ws.take i)).map V.str)) ∧ ∀ l o, l ≠ p → H9 l = some o → H' l = some o) ⟨by rw [upd_ne (Ne.symm nDp)]; exact upd_same, upd_same, fun l o n1 q => by
      rw [upd_ne (ne_of_none q hD9), upd_ne n1]
      exact q⟩ (fun i H' _ c => c.1) (fun i x H' H'' hi c yy => ?_) fun H' c => ?_
    · obtain ⟨rfl, kk, u, hk, rfl⟩ := yy
      refine ⟨rfl, ?_⟩
      obtain ⟨s0, b0, rfl, rfl, hw, hv⟩ := val i kk u hk
      refine ⟨_, rfl, _, rfl, p, .bl b0, rfl, .inl ⟨kvs, .inr s0, .inr ⟨od, c.1⟩, rfl, hv.symm⟩, b0, rfl, ?_⟩
      have es := fwN_snoc hw
      cases b0 with
      | false =>
        show (if (false : Bool) = true then _ else _)
        rw [if_neg (by decide)]
        rw [if_neg (by decide), List.append_nil] at es
        refine ⟨c.1, ?_, c.2.2⟩
        rw [es]
        exact c.2.1
      | true =>
        show (if (true : Bool) = true then _ else _)
        rw [if_pos rfl]
        rw [if_pos rfl] at es
        refine ⟨_, rfl, _, c.2.1, sz_lt (by
          rw [List.length_map]
          have := fwN_le (ws.take i)
          rw [List.length_take] at this
          omega), ?_, ?_, fun l o n1 q => ?_⟩
        · rw [upd_ne (Ne.symm nDp)]
          exact c.1
        · rw [es, List.map_append]
          exact upd_same
        · rw [upd_ne (ne_of_none q hD9)]
          exact c.2.2 l o n1 q
    · have eF : Ex H9 (upd H' p (.dK kvs)) := fun l o q => by
        by_cases z : l = p
        · subst z
          rw [hp9] at q
          cases q
          exact upd_same
        · rw [upd_ne z]
          exact c.2.2 l o z q
      have tk : ws.take kvs.length = ws := List.take_of_length_le (by omega)
      have c2 := c.2.1
      rw [tk] at c2
      refine ⟨c.1, Dl, (fwN ws).map V.str, rfl, .inl ⟨SqL.of (by rw [upd_ne nDp]; exact c2), fun l hl9 => ?_⟩⟩
      exact k l _ ((e9.trans eF).trans (Ex.new hl9)) upd_same
theorem scIsRF : FnScope ["value"] ["value"] (defScope sIsRF) := ⟨rfl, rfl, rfl, by decide +kernel, rfl, by decide +kernel, by decide +kernel⟩
theorem shp_strs (ws : List Str) (h : ∀ w ∈ ws, (PyData.str w).canLay0 = true) : SeqAt.shaped (.tuple (ws.map PyData.str)) = true := by
  unfold SeqAt.shaped
  have h1 : (PyData.tuple (ws.map PyData.str)).canLay0 = true := by
    show PyData.canLayAll0 (ws.map PyData.str) = true
    induction ws with
    | nil => rfl
    | cons w ws ih =>
      show ((PyData.str w).canLay0 && PyData.canLayAll0 (ws.map PyData.str)) = true
      rw [h w List.mem_cons_self, ih fun x hx => h x (List.mem_cons_of_mem _ hx)]
      rfl
  have h2 : (PyData.tuple (ws.map PyData.str)).depth ≤ 64 := by
    have : PyData.depthAll (ws.map PyData.str) ≤ 1 := by
      induction ws with
      | nil => exact Nat.zero_le _
      | cons w ws ih =>
        refine Nat.max_le.mpr ⟨Nat.zero_le _, ih (fun x hx => h x (List.mem_cons_of_mem _ hx)) ?_⟩
        have q : ((PyData.str w).canLay0 && PyData.canLayAll0 (ws.map PyData.str)) = true := h1
        exact (Bool.and_eq_true_iff.mp q).2
    simp only [PyData.depth]
    omega
  rw [h1, decide_eq_true h2]
  rfl
theorem flaws_words {n : Nat} {g : Gm n} {x : Str} (h : x ∈ flaws n g) : x ∈ (["box", "depth", "many", "size", "twice"] : List Str) := by
  obtain ⟨p, hp, rfl⟩ := List.mem_map.mp h
  have hp := (List.mem_filter.mp hp).1
  have z : (flW n g).map (·.1) = (["box", "depth", "many", "size", "twice"] : List Str) := rfl
  rw [← z]
  exact List.mem_map.mpr ⟨p, hp, rfl⟩
theorem flaws_lay {n : Nat} {g : Gm n} : ∀ x ∈ flaws n g, (PyData.str x).canLay0 = true := fun x hx => by
  have q := flaws_words hx
  revert x
  intro x _ q
  have all : (["box", "depth", "many", "size", "twice"] : List Str).all (fun w => (PyData.str w).canLay0) = true := by decide +kernel
  exact List.all_eq_true.mp all x q
theorem eqv_nil (ds : List PyData) : PyData.eqv (.tuple ds) (.tuple []) = ds.isEmpty := by
  cases ds with
  | nil => rfl
  | cons d ds => simp [PyData.eqv, PyData.eqvAll]
theorem ok_isrf {f : Addr} {fd : FuncData} (F : Fun K "is_right_form" "is_right_form" sIsRF f fd) (CF : Cl P w K mg base 13 "form_flaws" (spFlawsG 4)) : FnOk P w K mg base CX0 14 f fd ["value"] (spIsRF 4) := by
  refine F.ok scIsRF (fun vs H Q E h => ?_) (fun cdv A' outer s H vs Q E hr h => ?_)
  · obtain ⟨n, g, v, _, rfl, _⟩ := h
    rfl
  · obtain ⟨n, g, v, h4, rfl, hx, ht, hb, le, lp, k⟩ := h
    have hun := hr.units
    refine ⟨_, pss_one (ps_ret (pe_cmpR (op_eqD hun) (pe_cl CF hr (by decide) (by rfl) (pa_cons (pv 0) pa_nil)) (pe_tup pa_nil) (nomark _))), ?_⟩
    have h1 : EvD (tCall (spFlawsG 4) [] E0 (tCons (tVar 0) tNil)) [some v] H (.tuple ((flaws n g).map PyData.str)) := fun H1 e1 Q q => ⟨_, rfl, n, g, v, h4, rfl, hx.mono e1, ht, hb, le, lp, fun t H2 e2 h2 => q _ H2 e2 (TD1.mk h2 (TDs.strs _))⟩
    refine s_ret (ev_is (ev_eqD (K := K) h1 (ed_tup da_nil (by decide)) (shp_strs _ flaws_lay) (by rfl)) ?_) fun H3 e3 => k H3 e3
    rw [eqv_nil]
    cases flaws n g <;> rfl
theorem flaws_of_G (vs : List V) (H : Hp) (Q : VK) (E : XK) (h : spFlaws vs H Q E) : spFlawsG 4 vs H Q E := by
  obtain ⟨n, f, v, h3, rfl, hx, hb, hl, hz, nd, k⟩ := h
  have ht := sizes_thin n f hz
  have tt := up_T n f ht h3
  have el := ents_len n f ht
  have p4 : 4 ^ (n + 1) ≤ 256 := by
    match n, h3 with
    | 0, _ => decide
    | 1, _ => decide
    | 2, _ => decide
    | 3, _ => decide
  have ll := leaves_le n f ht
  have p4' := pow4' h3
  refine ⟨n + 1, up n f, v, by omega, rfl, by rw [up_D]; exact hx, tt, up_O n f hb, by rw [up_E]; omega, by rw [up_P, List.length_replicate]; omega, fun t H' e h' => k t H' e ?_⟩
  rw [flaws_up hl hz nd (by omega)] at h'
  exact h'
end
end Q
set_option Elab.async false
set_option linter.all false
set_option maxRecDepth 100000
set_option maxHeartbeats 4000000
/-! what a class of one's own says to in, len, ==, !=, str -/
namespace Q
open PySem L2 PySem.Spec PyProof.Rows PySem.Calls
open Evl
section
variable {X : Cx} {pins : List (Addr × Obj)} {σ : L2.St} {H : Hp} {s : Shared} {n k j : Nat} {C f : Addr} {fd : FuncData} {ps : List Str} {sp : Sp} {A1 : Around} {m : Str}
/-- the class's own function is called -/
theorem call_own {EO : Value → Shared → Prop} {vs : List V} {us : List Value} {Q : VK} (sb : Sub X n A1) (F : FnOk X.prog X.w X.K X.mg X.base CX0 n f fd ps sp) (hb : Binds X.K fd ps []) (I : Inv X pins σ H s) (r : Vals vs us) (hsp : sp vs H Q E0) :
    wpAny (model X.prog X.w) A1 (call (.ref f) us) (EP X pins σ Q) EO s := by
  have e0 : Env0 X.prog X.w X.K X.mg X.base A1 X.stack s H := by
    have e := I.env0
    exact ⟨by rw [sb.fr]; exact e.frames, e.mod, e.bs, e.bsz, e.funs, e.frf, e.hok, e.bare⟩
  have hl := F.len _ _ _ _ hsp
  refine wpAny_call (codeAny_mono (F.run A1 X.stack s H ⟨us, []⟩ us vs Q E0 sb.room e0 (by
    have := hb s us I.kIn (by simpa using r.length.symm.trans hl)
    simpa using this) r hsp) fun r s' hq => ?_)
  cases r with
  | error e => exact False.elim hq
  | ok fl =>
    cases fl with
    | ret u =>
      obtain ⟨v, H', I', rv, q⟩ := I.after hq
      exact ⟨v, H', I', rv, q⟩
    | next => exact False.elim hq
    | brk => exact False.elim hq
    | cont => exact False.elim hq
/-- an instance of the class stands at a -/
def InsAt (H : Hp) (C a : Addr) : Prop := ∃ dx fs, H a = some (.ins C dx fs)
theorem ins_at (I : Inv X pins σ H s) {a : Addr} (h : InsAt H C a) : ∃ ox od, PySem.W.InstAt s.heap a ox C od := by
  obtain ⟨dx, fs, ha⟩ := h
  obtain ⟨mA, J, _⟩ := ins_get I.hok ha
  obtain ⟨od, J, _⟩ := J.look
  exact ⟨_, _, J⟩
/-- x in o -/
def rInOwn (C : Addr) (sp : Sp) (neg : Bool) : R2 := fun x y H Q => ∃ a, y = .ref a ∧ InsAt H C a ∧ sp [.ref a, x] H (fun v H' => ∃ b, v = .bl b ∧ Q (.bl (if neg = true then !b else b)) H') E0
theorem op_inOwn (c : Mt X.prog X.w X.K X.mg X.base k C "__contains__" sp) (hr : Room j X.A) (hk : k ≤ j) : OpR X (compareOp .In) (rInOwn C sp false) := by
  intro pins s σ H x y v u Q I rx ry h
  obtain ⟨a, rfl, ha, h⟩ := h
  cases ry
  obtain ⟨f, fd, ps, h1, h2, F, b⟩ := c.ex
  obtain ⟨ox, od, J⟩ := ins_at I ha
  obtain ⟨m, hF⟩ := I.fr
  refine PySem.W.in_K hF I.ok.mod.kin J h2.at_ h2.fn ?_
  refine wpAny_mono (call_own (⟨hr.mono hk, rfl⟩ : Sub X k X.A) F b I (vs := [.ref a, x]) (.cons rfl (.cons rx .nil)) h) (fun r s' q => ?_) fun _ _ z => z
  obtain ⟨z, H', I', rz, bb, rfl, q⟩ := q
  cases rz
  exact wpAny_truthy_bool ⟨.bl bb, H', I', rfl, q⟩
theorem op_notInOwn (c : Mt X.prog X.w X.K X.mg X.base k C "__contains__" sp) (hr : Room j X.A) (hk : k ≤ j) : OpR X (compareOp .NotIn) (rInOwn C sp true) := by
  intro pins s σ H x y v u Q I rx ry h
  obtain ⟨a, rfl, ha, h⟩ := h
  cases ry
  obtain ⟨f, fd, ps, h1, h2, F, b⟩ := c.ex
  obtain ⟨ox, od, J⟩ := ins_at I ha
  obtain ⟨m, hF⟩ := I.fr
  refine PySem.W.notIn_K hF I.ok.mod.kin J h2.at_ h2.fn ?_
  refine wpAny_mono (call_own (⟨hr.mono hk, rfl⟩ : Sub X k X.A) F b I (vs := [.ref a, x]) (.cons rfl (.cons rx .nil)) h) (fun r s' q => ?_) fun _ _ z => z
  obtain ⟨z, H', I', rz, bb, rfl, q⟩ := q
  cases rz
  exact wpAny_truthy_bool ⟨.bl (!bb), H', I', rfl, q⟩
/-- len(o) -/
def rLenOwn (C : Addr) (sp : Sp) : List V → Hp → VK → Prop := fun xs H Q => ∃ a, xs = [.ref a] ∧ InsAt H C a ∧ sp [.ref a] H (fun v H' => ∃ n : Nat, v = .int (n : Int) ∧ (n : Int) < 2 ^ 63 ∧ Q (.int (n : Int)) H') E0
theorem len_own {EO : Value → Shared → Prop} {Q : VK} {a : Addr} {A1 : Around} (c : Mt X.prog X.w X.K X.mg X.base k C "__len__" sp) (sb : Sub X (k + 1) A1) (I : Inv X pins σ H s) (h : rLenOwn C sp [.ref a] H Q) : wpAny (model X.prog X.w) A1 (call (.builtin "len") [.ref a]) (EP X pins σ Q) EO s := by
  obtain ⟨a', e, ha, h⟩ := h
  cases e
  obtain ⟨f, fd, ps, h1, h2, F, b⟩ := c.ex
  obtain ⟨ox, od, J⟩ := ins_at I ha
  obtain ⟨m, hF⟩ := I.fr
  refine PySem.W.len_K hF I.ok.mod.kin J h2.at_ h2.fn ?_
  refine wpAny_mono (call_own sb.in1 F b I (vs := [.ref a]) (.cons rfl .nil) h) (fun r s' q => ?_) fun _ _ z => z
  obtain ⟨z, H', I', rz, n, rfl, hn, q⟩ := q
  obtain ⟨t, rfl⟩ := rz
  exact ⟨⟨by omega, hn⟩, .int (n : Int), H', Inv.tok I' _, ⟨_, rfl⟩, q⟩
theorem cr_lenOwn (c : Mt X.prog X.w X.K X.mg X.base k C "__len__" sp) (hr : Room j X.A) (hk : k + 1 ≤ j) : CallR X (.builtin "len") (rLenOwn C sp) := by
  intro pins s σ H xs us Q I rv h
  obtain ⟨a, rfl, _⟩ := id h
  obtain ⟨u, rfl, ru⟩ := rv.one
  cases ru
  exact len_own c ⟨hr.mono hk, rfl⟩ I h
/-- str(o) -/
def rStrOwn (C : Addr) (sp : Sp) : List V → Hp → VK → Prop := fun xs H Q => ∃ a, xs = [.ref a] ∧ InsAt H C a ∧ sp [.ref a] H (fun v H' => ∃ y : Str, v = .str y ∧ Q (.str y) H') E0
theorem cr_strOwn (c : Mt X.prog X.w X.K X.mg X.base k C "__str__" sp) (hr : Room j X.A) (hk : k + 2 ≤ j) (hu : X.A.in1.in1.units < cLine) : CallR X (.type "str") (rStrOwn C sp) := by
  intro pins s σ H xs us Q I rv h
  obtain ⟨a, rfl, ha, h⟩ := h
  obtain ⟨u, rfl, ru⟩ := rv.one
  cases ru
  obtain ⟨f, fd, ps, h1, h2, F, b⟩ := c.ex
  obtain ⟨ox, od, J⟩ := ins_at I ha
  refine PySem.W.kso_call hu I.kIn J h2.at_ h2.fn ?_
  have sb : Sub X k X.A.in1.in1 := (Sub.in1 (Sub.in1 (⟨hr.mono hk, rfl⟩ : Sub X (k + 2) X.A)))
  refine wpAny_mono (call_own sb F b I (vs := [.ref a]) (.cons rfl .nil) h) (fun r s' q => ?_) fun _ _ z => z
  obtain ⟨z, H', I', rz, y, rfl, q⟩ := q
  obtain ⟨t, rfl⟩ := rz
  exact ⟨.str y, H', I', ⟨t, rfl⟩, q⟩
/-- o == p -/
def rEqOwn (C : Addr) (sp : Sp) (neg : Bool) : R2 := fun x y H Q => ∃ a b, x = .ref a ∧ y = .ref b ∧ InsAt H C a ∧ InsAt H C b ∧ sp [.ref a, .ref b] H (fun v H' => ∃ k, v = .bl k ∧ Q (.bl (if neg = true then !k else k)) H') E0
theorem op_eqOwn (c : Mt X.prog X.w X.K X.mg X.base k C "__eq__" sp) (hr : Room j X.A) (hk : k ≤ j) : OpR X (compareOp .Eq) (rEqOwn C sp false) := by
  intro pins s σ H x y v u Q I rx ry h
  obtain ⟨a, b', rfl, rfl, ha, hb', h⟩ := h
  cases rx
  cases ry
  obtain ⟨f, fd, ps, h1, h2, F, b⟩ := c.ex
  obtain ⟨ox, od, J⟩ := ins_at I ha
  obtain ⟨oy, oe, J'⟩ := ins_at I hb'
  obtain ⟨m, hF⟩ := I.fr
  show wpAny (model X.prog X.w) X.A (richCompare .Eq (.ref a) (.ref b')) (EP X pins σ Q) X.xe s
  refine PySem.W.cmp_K (op := .Eq) (tb := .ref C) hr.units0 hF I.ok.mod.kin J J'.type (by simp [PySem.W.notFirst]) h2.at_ h2.fn ?_
  refine wpAny_mono (call_own (⟨hr.mono hk, rfl⟩ : Sub X k X.A) F b I (vs := [.ref a, .ref b']) (.cons rfl (.cons rfl .nil)) h) (fun r s' q => ?_) fun _ _ z => z
  obtain ⟨z, H', I', rz, kk, rfl, q⟩ := q
  cases rz
  exact ⟨.bl kk, H', I', rfl, q⟩
open Builtin in
theorem op_neOwn (c : Mt X.prog X.w X.K X.mg X.base k C "__eq__" sp) (hne : PySem.W.findIn X.K (.ref C) "__ne__" = some (some (.builtin "object.__ne__"))) (hm : PySem.W.mroIn X.K C (.type "object") = some true) (hr : Room j X.A) (hk : k + 1 ≤ j) (hu : X.A.in1.units < cLine) :
    OpR X (compareOp .NotEq) (rEqOwn C sp true) := by
  intro pins s σ H x y v u Q I rx ry h
  obtain ⟨a, b', rfl, rfl, ha, hb', h⟩ := h
  cases rx
  cases ry
  obtain ⟨f, fd, ps, h1, h2, F, b⟩ := c.ex
  obtain ⟨ox, od, J⟩ := ins_at I ha
  obtain ⟨oy, oe, J'⟩ := ins_at I hb'
  show wpAny (model X.prog X.w) X.A (richCompare .NotEq (.ref a) (.ref b')) (EP X pins σ Q) X.xe s
  have body : wpAny (model X.prog X.w) X.A (call (.builtin "object.__ne__") [.ref a, .ref b']) (fun r s' => ∃ kk, r = .bool (!kk) ∧ EP X pins σ Q (.bool (!kk)) s') X.xe s := by
    refine wpAny_call (codeAny_call_builtin PySem.F.cmp_object.ne.plain PySem.F.cmpEntry_ne (PySem.W.check_slot (i := "object.__ne__") (owner := "object") (n := "__ne__") (by decide +kernel) (by decide +kernel) (J.type.andThen (PySem.W.looks_mroIn I.kIn hm)) (PySem.F.cmpArgs_ne _ _) ?_))
    unfold Builtin.«object.__ne__»
    refine wpAny_bind (m := slotArgs "__ne__" 1 _) (wpAny_pure ?_)
    refine wpAny_bind (m := cRoomFor _ _) (wpAny_cRoomFor hu ?_)
    refine wpAny_bind (m := callSpecialIfBound? (.ref a) (Str.ofString "__eq__") _) (PySem.W.ifBound_K I.kIn J h2.at_ h2.fn ?_)
    have sb : Sub X k X.A.in1 := Sub.in1 (⟨hr.mono hk, rfl⟩ : Sub X (k + 1) X.A)
    refine wpAny_mono (call_own sb F b I (vs := [.ref a, .ref b']) (.cons rfl (.cons rfl .nil)) h) (fun r s' q => ?_) fun _ _ z => z
    obtain ⟨z, H', I', rz, kk, rfl, q⟩ := q
    cases rz
    refine wpAny_bind (m := truthy (.bool kk)) (wpAny_truthy_bool ?_)
    exact wpAny_pure ⟨kk, rfl, .bl (!kk), H', I', rfl, q⟩
  have one : wpAny (model X.prog X.w) X.A (tryCompare (.ref a) "__ne__" (.ref b')) (fun r s' => ∃ v, r = some v ∧ EP X pins σ Q v s') X.xe s := by
    unfold tryCompare
    refine wpAny_bind ?_
    simp only [callSpecialIfBound?, bindSpecialIfBound?]
    refine wpAny_holding (wpAny_bind (wpAny_bind (wpAny_bind (J.type.here ((PySem.W.looks_findIn I.kIn hne).here ?_)))))
    have fin : wpAny (model X.prog X.w) X.A (call (.builtin "object.__ne__") ([.ref a] ++ [.ref b']) >>= fun v => pure (some v)) (fun r s' => wpAny (model X.prog X.w) X.A (match r with | some .notImplemented | none => pure none | some v => pure (some v)) (fun r s' => ∃ v, r = some v ∧ EP X pins σ Q v s') X.xe s') X.xe s :=
      wpAny_bind (wpAny_mono body (fun v s' h' => by
        obtain ⟨kk, rfl, q⟩ := h'
        exact wpAny_pure (wpAny_pure ⟨_, rfl, q⟩)) fun _ _ h' => h')
    simp only [PySem.F.cmp_object.ne.bind]
    refine wpAny_bind (wpAny_askSetting (wpAny_ite ?_))
    split
    · exact wpAny_bind (wpAny_pure (wpAny_pure fin))
    · exact wpAny_tryCatch (wpAny_bind (wpAny_pure (wpAny_pure fin)))
  unfold richCompare
  simp only [oneThing_ref]
  refine wpAny_holding (wpAny_bind (wpAny_cRoomFor hr.units0 ?_))
  refine wpAny_bind (J.type.here (wpAny_bind (J'.type.here ?_)))
  rw [if_neg (by simp)]
  refine wpAny_bind (wpAny_pure ?_)
  simp only [Bool.false_eq_true, if_false]
  refine wpAny_bind (wpAny_mono one (fun r s' z => ?_) fun _ _ e => e)
  obtain ⟨v, rfl, hq⟩ := z
  exact wpAny_pure hq
end
end Q
set_option Elab.async false
set_option linter.all false
set_option maxRecDepth 100000
set_option maxHeartbeats 4000000
/-! iter(d), and list(o) of a class whose __iter__ gives it -/
namespace Q
open PySem L2 PySem.Spec PyProof.Rows PySem.Calls
open Evl
def keyOb (d : Addr) (n ep : Nat) : Obj := { cls := .type "dict_keyiterator", data := .fields #[.ref d, .int 0 0, .int n 0, .int ep 0] }
/-- at it an iterator over the keys of the dict that stood at d as od, at its start -/
def keyO (od : Obj) (d it : Addr) : HO := .ext fun h => ∃ es ep, od.data = .dict es ep ∧ h.get? it = some (keyOb d es.size ep)
def goneO : HO := .ext fun _ => True
section
variable {X : Cx} {pins : List (Addr × Obj)} {σ : L2.St} {H : Hp} {s : Shared} {n k j : Nat} {C : Addr}
theorem d_lenR : CallR X (.builtin "len") (fun xs H Q => ∃ a kvs, xs = [V.ref a] ∧ Rd H a (.dK kvs) ∧ Q (.int kvs.length) H) := by
  intro pins s σ H xs us Q I r h
  obtain ⟨a, kvs, rfl, ha, q⟩ := h
  obtain ⟨u, rfl, ru⟩ := vals1 r
  cases ru
  exact d_len I ha fun t s' I' => ⟨.int kvs.length, H, I', ⟨t, rfl⟩, q⟩
/-- iter(d), d locked -/
def rIterD : List V → Hp → VK → Prop := fun xs H Q => ∃ a od kvs, xs = [V.ref a] ∧ H a = some (.frz od (.dK kvs)) ∧ ∀ it, H it = none → Q (.ref it) (upd H it (keyO od a it))
theorem cr_iterD : CallR X (.builtin "iter") rIterD := by
  intro pins s σ H xs us Q I r h
  obtain ⟨a, od, kvs, rfl, ha, q⟩ := h
  obtain ⟨u, rfl, ru⟩ := vals1 r
  cases ru
  obtain ⟨hs, hgd, hx, es, ep, vs, hdt, hsz, kv, hm⟩ := I.frzK ha
  refine Calls.call_function_entry (by decide +kernel) (by decide +kernel) PySem.W.kdk_entry_iter (PySem.W.kdk_args_iter _) ?_
  unfold Builtin.«iter»
  refine wpAny_bind (m := someArgs "iter" 1 2 _) (wpAny_of_eq (a := [Value.ref a]) (by first | rfl | kernel_rfl!) ?_)
  show wpAny _ _ (pyIter (.ref a) >>= _) _ _ _
  refine wpAny_bind (iter_keys hs hgd hx hdt ?_)
  have e : (s.heap.push (keyOb a es.size ep)).get? s.heap.objs.size = some (keyOb a es.size ep) := Heap.get?_push_size _ rfl
  exact wpAny_pure ⟨_, rfl, .ref s.heap.objs.size, _, I.laid (t' := s.toks) (fun b u e => Heap.get?_push_of_some _ e) (Nat.le_refl _) (show ObjOk X.prog X.w _ _ _ (keyO od a s.heap.objs.size) from ⟨⟨es, ep, hdt, e⟩, ⟨_, e⟩, fun h1 h2 ⟨es, ep, q1, q2⟩ k => ⟨es, ep, q1, k _ q2⟩⟩), rfl, q _ (I.hok.fresh (Nat.le_refl _))⟩
/-- list(o) -/
def rListOwnD (H0 : Hp) (C : Addr) (spI spL : Sp) : List V → Hp → VK → Prop := fun xs H Q => ∃ a D kvs, xs = [.ref a] ∧ InsAt H C a ∧ H D = some (.dK kvs) ∧ kvs.length ≤ 1000 ∧
  (∀ od H1, (∀ l o, l ≠ D → H l = some o → H1 l = some o) → H1 D = some (.frz od (.dK kvs)) → spI [.ref a] H1 (fun v H2 => ∃ it, v = .ref it ∧ H0 it = none ∧ H1 it = none ∧ Ex H1 H2 ∧ H2 it = some (keyO od D it) ∧ rLenOwn C spL [.ref a] H2 fun v H3 => v = .int kvs.length ∧ Ex H2 H3) E0) ∧
  ∀ q H', H q = none → Ex H H' → H' q = some (.lst (kvs.map fun kv => kV kv.1)) → Q (.ref q) H'
theorem upd_old {H : Hp} {a : Addr} {o o' : HO} (h : H a = some o) : upd (upd H a o') a o = H := by
  funext b
  by_cases e : b = a
  · rw [e, upd_same, h]
  · rw [upd_ne e, upd_ne e]
theorem cr_listOwnD {spI spL : Sp} (ci : Mt X.prog X.w X.K X.mg X.base k C "__iter__" spI) (cl : Mt X.prog X.w X.K X.mg X.base n C "__len__" spL) (hc : X.calm = true) (hr : Room j X.A) (hk : k + 2 ≤ j) (hn : n + 3 ≤ j) (hex : X.ex = [] := by rfl) : CallR X (.type "list") (rListOwnD X.H_0 C spI spL) := by
  intro pins s σ H xs us Q I rv h
  obtain ⟨a, D, kvs, rfl, hia, hD, hl, hsp, hq⟩ := h
  obtain ⟨u, rfl, ru⟩ := rv.one
  cases ru
  have sbI : Sub X k X.A.in1.in1 := (Sub.in1 (Sub.in1 (⟨hr.mono hk, rfl⟩ : Sub X (k + 2) X.A)))
  have sbL : Sub X (n + 1) X.A.in1.in1 := (Sub.in1 (Sub.in1 (⟨hr.mono hn, rfl⟩ : Sub X (n + 1 + 2) X.A)))
  refine callType_codes (Q₁ := fun obj s₁ => obj = .ref s.heap.objs.size ∧ s₁ = { s with heap := s.heap.push { cls := .type "list", data := .seq #[] } }) PySem.F.called_list (PySem.F.typeCall_list_1 _) PySem.F.entry_list_init
    (code_list_new _ ⟨rfl, rfl⟩) fun obj s₁ h₁ => ?_
  obtain ⟨rfl, rfl⟩ := h₁
  have hS : (s.heap.push { cls := .type "list", data := .seq #[] }).get? s.heap.objs.size = some { cls := .type "list", data := .seq #[] } := Heap.get?_push_size _ rfl
  refine ⟨⟨_, hS, rfl⟩, PySem.F.args_list_init_2 _ _, ?_⟩
  have fr : H s.heap.objs.size = none := I.hok.fresh (Nat.le_refl _)
  generalize hSz : s.heap.objs.size = S at fr hS ⊢
  have I1 : Inv X pins σ (upd H S (.lst [])) { s with heap := s.heap.push { cls := .type "list", data := .seq #[] } } := by
    rw [← hSz]
    exact I.lnew (its := []) (t' := s.toks) .nil (Nat.zero_le _)
  show wpAny _ _ (do let old ← Builtin.List.listItems (.ref S); Builtin.List.listUpdate (.ref S) (fun _ => #[]); letGo old.toList.reverse; Builtin.List.listExtendWith (.ref S) (.ref a) .none) _ _ _
  refine wpAny_bind ?_
  unfold Builtin.List.listItems
  refine wpAny_bind (wpAny_seqItems hS rfl (wpAny_pure ?_))
  show wpAny _ _ (updateSeq S (fun _ => #[]) >>= fun _ => letGo (#[] : Array Value).toList.reverse >>= fun _ => Builtin.List.listExtendWith (.ref S) (.ref a) .none) _ _ _
  refine wpAny_bind (wpAny_updateSeq hS rfl ?_)
  have I2 := I1.lset (f := fun _ => #[]) (its := []) (its' := []) (ys := []) (t' := s.toks) upd_same hS rfl .nil (Nat.zero_le _)
  rw [upd_upd] at I2
  refine wpAny_bind (wpAny_letGo ?_)
  have nDS : D ≠ S := ne_of_none hD fr
  have hD2 : upd H S (.lst []) D = some (.dK kvs) := by rw [upd_ne nDS]; exact hD
  have nof := I2.nofrz hD2 True.intro
  obtain ⟨od, I3⟩ := I2.lock hD2 True.intro
  have hia3 : InsAt (upd (upd H S (.lst [])) D (.frz od (.dK kvs))) C a := by
    obtain ⟨dx, fs, ha⟩ := hia
    refine ⟨dx, fs, ?_⟩
    have nAD : a ≠ D := fun z => by
      rw [z, hD] at ha
      cases ha
    rw [upd_ne nAD, upd_ne (ne_of_none ha fr)]
    exact ha
  have kp : ∀ l o, l ≠ D → H l = some o → upd (upd H S (.lst [])) D (.frz od (.dK kvs)) l = some o := fun l o nl e => by
    rw [upd_ne nl, upd_ne (ne_of_none e fr)]
    exact e
  have hS3 : upd (upd H S (.lst [])) D (.frz od (.dK kvs)) S = some (.lst []) := by
    rw [upd_ne nDS.symm]
    exact upd_same
  have hsI := hsp od _ kp upd_same
  have hDf : upd (upd H S (.lst [])) D (.frz od (.dK kvs)) D = some (.frz od (.dK kvs)) := upd_same
  generalize hH3 : upd (upd H S (.lst [])) D (.frz od (.dK kvs)) = H3 at I3 hia3 kp hS3 hsI hDf
  obtain ⟨ox, oa, J⟩ := ins_at I3 hia3
  obtain ⟨f, fd, ps, _, h2, F, b⟩ := ci.ex
  obtain ⟨m0, hF⟩ := I3.fr
  have nSa : S ≠ a := fun z => by
    obtain ⟨dx, fs, ha⟩ := hia
    rw [← z, fr] at ha
    cases ha
  unfold Builtin.List.listExtendWith
  refine wpAny_bind (J.type.here ?_)
  have h1 : Builtin.List.listSameRef (.ref S) (.ref a) = false := by simp [Builtin.List.listSameRef, nSa]
  have h2' : (Value.ref C == Value.type "list") = false := rfl
  have h3 : (Value.ref C == Value.type "tuple") = false := rfl
  simp only [h1, h2', h3, Bool.or_false, Bool.false_eq_true, if_false]
  refine wpAny_bind (PySem.W.owit_iter hF I3.ok.mod.kin J h2.at_ h2.fn ?_)
  refine wpAny_mono (call_own sbI F b I3 (vs := [.ref a]) (.cons rfl .nil) hsI) (fun r s4 q => ?_) fun _ _ z => z
  obtain ⟨v, H4, I4, rz, it, rfl, n0it, nit, e4, hit, hsL⟩ := q
  cases rz
  obtain ⟨es, ep, hdt, hg⟩ := (show ObjOk X.prog X.w H4 s4.heap it (keyO od D it) from I4.hok it _ hit).1
  unfold PySem.W.OwitIt
  refine wpAny_specialOf (T := "dict_keyiterator") ⟨_, hg, rfl⟩ PySem.F.slot_dict_keyiterator_next.lookup ?_
  show wpAny _ _ _ _ _ s4
  have hia4 : InsAt H4 C a := by
    obtain ⟨dx, fs, ha⟩ := hia3
    exact ⟨dx, fs, e4 _ _ ha⟩
  obtain ⟨ox4, oa4, J4⟩ := ins_at I4 hia4
  obtain ⟨fl, fdl, psl, _, hl2, Fl, bl⟩ := cl.ex
  refine wpAny_bind (wpAny_holding ?_)
  unfold Builtin.List.listLengthHint
  refine wpAny_bind (wpAny_bind (J4.type.here ((PySem.W.looks_findIn I4.kIn hl2.at_).here ?_)))
  refine PySem.W.KFB.if_not rfl ?_
  refine wpAny_ite_split (fun _ => ?_) (fun z => absurd rfl z)
  refine wpAny_bind (wpAny_rule ?_)
  refine wpAny_bind (wpAny_attempt (wpAny_mono (len_own (EO := fun _ _ => False) cl sbL I4 hsL) (fun r s5 q => ?_) fun e s5 z => z.elim))
  obtain ⟨v5, H5, I5, rv5, rfl, e5⟩ := q
  obtain ⟨t5, rfl⟩ := rv5
  show wpAny _ _ (asInt? (.int (kvs.length : Int) t5) >>= _) _ _ _
  refine wpAny_bind (wpAny_pure ?_)
  refine PySem.W.KFB.if_not (by
    show decide ((kvs.length : Int).toNat > sizeLine) = false
    have z : kvs.length < sizeLine := Nat.lt_of_lt_of_le (show kvs.length < 1001 by omega) (by rw [sizeLine_eq]; decide)
    exact decide_eq_false (by omega)) ?_
  refine wpAny_pure ?_
  -- the loop
  have hit5 : H5 it = some (keyO od D it) := e5 _ _ hit
  have hS5 : H5 S = some (.lst []) := e5 _ _ (e4 _ _ hS3)
  have hD5 : H5 D = some (.frz od (.dK kvs)) := e5 _ _ (e4 _ _ hDf)
  have nDit : D ≠ it := fun z => by
    rw [← z, hD5] at hit5
    cases hit5
  have nSit : S ≠ it := fun z => by
    rw [← z, hS5] at hit5
    cases hit5
  have key : ∀ s6 : Shared, Inv X pins σ H5 s6 → codeAny (model X.prog X.w) X.A.in1 (.builtin "list.extend.loop" ⟨[.ref S, .ref it, .none], []⟩) (wants (fun r s₂ => r = .none ∧ EP X pins σ Q (.ref S) s₂) X.xe) s6 := fun s6 I6 => by
    obtain ⟨es', ep', hdt', hg5⟩ := (show ObjOk X.prog X.w H5 s6.heap it (keyO od D it) from I6.hok it _ hit5).1
    obtain ⟨rfl, rfl⟩ := dict_ep hdt hdt'
    obtain ⟨hs5, hgd5, hx5, es2, ep2, vs5, hdt2, hsz5, kv5, hm5⟩ := I6.frzK hD5
    obtain ⟨rfl, rfl⟩ := dict_ep hdt hdt2
    obtain ⟨z5, its5, c5, r5, hl5, hg6⟩ := I6.lstM hS5
    cases r5
    have hlv : kvs.length = vs5.length := Paired.length kv5
    have W := Walks.dictKeys (prog := X.prog) (w := X.w) (knd := mixKind X.prog X.w) (A := X.A.in1.in1) (I.ok.hd hc) it D nDit vs5 ep2
    have hz : kvs.length ≤ sizeLine := Nat.le_of_lt (Nat.lt_of_lt_of_le (show kvs.length < 1001 by omega) (by rw [sizeLine_eq]; decide))
    refine codeAny_extend_loopS W.toS (by rw [← hlv]; exact hz) S (by simp only [List.mem_cons, List.not_mem_nil, or_false, not_or]; exact ⟨nSit, nDS.symm⟩) .none vs5.length 0 s6 #[] c5 rfl (Nat.zero_le _) ⟨⟨_, hg5, rfl, by rw [show es2.size = vs5.length by omega]; rfl⟩, hm5⟩ hg6 (ItemsOf.nil _) fun s' acc' c' hm hS' hacc => ?_
    obtain ⟨G, gs, ga, J6⟩ := I6.untrack hit5 (fr0_none n0it) hex
    have hv : Vals (kvs.map fun kv => kV kv.1) acc'.toList := by
      have ek : (kvs.map fun kv => kV kv.1) = vs5.map fun p => kV p.1 := by
        have e := congrArg (List.map kV) (KV.keys kv5)
        rw [List.map_map, List.map_map] at e
        exact e
      rw [ek]
      exact keys_at (by rw [Array.length_toList]; exact hacc.1) fun j v e => hacc.2 j v (by rw [← Array.getElem?_toList]; exact e)
    have hSd : delH H5 it S = some (.lst []) := by
      rw [delH_ne nSit]
      exact hS5
    have J7 : Inv X pins σ (upd (delH H5 it) S (.lst (kvs.map fun kv => kV kv.1))) { s6 with heap := s'.heap, toks := s'.toks } :=
      J6.write (x := S) (e := S) (t' := s'.toks) (h' := s'.heap) (by rw [hSd]; exact True.intro) (.inl rfl) (fun b u nb e => hm.heap b u (by
        simp only [List.mem_cons, List.not_mem_nil, or_false, not_or]
        exact ⟨nb, fun z => by
          rw [z, ga] at e
          cases e⟩) (gs b u e)) ⟨_, hS'⟩ (show ObjOk X.prog X.w _ _ _ (.lst (kvs.map fun kv => kV kv.1)) from ⟨by rw [List.length_map]; exact hz, acc'.toList, c', hv, by rw [Array.toArray_toList]; exact hS'⟩)
    have hD7 : upd (delH H5 it) S (.lst (kvs.map fun kv => kV kv.1)) D = some (.frz od (.dK kvs)) := by
      rw [upd_ne nDS, delH_ne nDit]
      exact hD5
    have J8 := J7.unlock hD7 nof
    rw [Moved.eq_with hm]
    refine ⟨rfl, .ref S, _, J8, rfl, hq S _ fr (fun l o e => ?_) ?_⟩
    · by_cases nl : l = D
      · rw [nl, upd_same, ← hD, ← nl, e]
      · have nlS : l ≠ S := ne_of_none e fr
        have nlit : l ≠ it := fun z => by
          have q := kp l o nl e
          rw [z, nit] at q
          cases q
        rw [upd_ne nl, upd_ne nlS, delH_ne nlit]
        exact e5 _ _ (e4 _ _ (kp l o nl e))
    · rw [upd_ne nDS.symm]
      exact upd_same
  refine wpAny_ite_split (fun _ => ?_) (fun _ => wpAny_pure ⟨plainId_quiet PySem.F.plain_extend_loop _, key _ I5⟩)
  refine wpAny_bind (wpAny_rule ?_)
  refine wpAny_bind ?_
  obtain ⟨z5, its5, c5, r5, hl5, hg6⟩ := I5.lstM hS5
  cases r5
  show wpAny _ _ (updateSeq S (·.push .none) >>= fun _ => updateSeq S (·.pop)) _ _ _
  refine wpAny_bind (wpAny_updateSeq hg6 rfl ?_)
  have I6 := I5.lset (f := (·.push Value.none)) (its' := [Value.none]) (ys := [.non]) (t' := s5.toks) hS5 hg6 (by simp) (.cons rfl .nil) (by rw [List.length_singleton, sizeLine_eq]; decide)
  obtain ⟨z6, its6, c6, r6, hl6, hg7⟩ := I6.lstM upd_same
  obtain ⟨u6, rfl, ru6⟩ := r6.one
  refine wpAny_updateSeq hg7 rfl ?_ (by show 1 ≤ sizeLine; rw [sizeLine_eq]; decide) (by show 0 ≤ sizeLine + 1; exact Nat.zero_le _)
  refine wpAny_pure ⟨plainId_quiet PySem.F.plain_extend_loop _, key _ ?_⟩
  have I7 := I6.lset (f := (·.pop)) (its := [u6]) (its' := []) (ys := []) (t' := s5.toks) upd_same hg7 (by rfl) .nil (Nat.zero_le _)
  rw [upd_upd] at I7
  have hH : upd H5 S (.lst []) = H5 := by
    funext b
    by_cases hb : b = S
    · rw [hb, upd_same, hS5]
    · rw [upd_ne hb]
  rw [hH] at I7
  exact I7
end
end Q
set_option Elab.async false
set_option linter.all false
set_option maxRecDepth 100000
set_option maxHeartbeats 4000000
/-! list(d.values()); what a tree's dict tells -/
namespace Q
open PySem L2 PySem.Spec PyProof.Rows PySem.Calls
open Evl PB
def tListVals (te : TE) : TE := fun σ H Q => te σ H fun x H1 => ∃ (d : Addr) (kvs : List (Key × V)), x = .ref d ∧ H1 d = some (.dK kvs) ∧ ∀ p, H1 p = none → Q (.ref p) (upd H1 p (.lst (kvs.map (·.2))))
section
variable {X : Cx} {e : Expr} {te : TE} {p apos cpos pos : Pos}
theorem pe_listVals (hc : X.calm = true) (he : PE X e te) (hg : Gl X "list") (hm : X.mg "list" = none) (hv : bootBuiltins "list" = some (.type "list")) (hbase : attributeBase e "values" X.env (eval e X.env) = eval e X.env := by rfl) (hline : (apos.endLine == cpos.line) = true := by rfl)
    (hs : starEach [.Call (.Attribute e "values" apos) [] [] cpos] X.env = (false, eval (.Call (.Attribute e "values" apos) [] [] cpos) X.env) :: starEach [] X.env := by rfl) :
    PE X (.Call (.Name "list" p) [.Call (.Attribute e "values" apos) [] [] cpos] [] pos) (tListVals te) := by
  refine ⟨fun pins s σ H Q I hq => ?_⟩
  refine wpAny_Call_Name_kw (ld_blt I hg hm hv ?_)
  refine PyProof.Rows.callWith_type1 ?_ hs rfl
  rw [hs]
  show wpAny _ _ (spliced ((false, eval (.Call (.Attribute e "values" apos) [] [] cpos) X.env) :: backTo pos (starEach [] X.env))) _ _ s
  refine Calls.spliced_cons ?_
  refine wpAny_Call_method (T := "dict") (id := "dict.values") hbase rfl hline F.plainAttrs_dict F.slot_dict_values F.type_dict_values (thn (he.run pins s σ H _ I hq) fun u s1 ⟨x, H1, I1, rx, d, kvs, ex, hd, q⟩ => ?_)
  subst ex
  obtain rfl : u = Value.ref d := rx
  obtain ⟨hz, hs0, vs, kv, hdo⟩ := I1.hok d _ hd
  obtain ⟨ep, hat⟩ := hdo.dictAt
  have lk : kvs.length = vs.length := Paired.length kv
  have I2 : Inv X pins σ H1 { s1 with heap := s1.heap.push { cls := .type "dict_values", data := .fields #[.ref d] } } := I1.kept (t' := s1.toks) fun b ob q => Heap.get?_push_of_some _ q
  refine ⟨hdo.typeIs, hdo.mapOf.noDict, ?_⟩
  show wpAny _ _ (callWith cpos (.builtin "dict.values") [.ref d] [] []) _ X.xe s1
  refine method_meetsIn F.slot_dict_values F.entry_dict_values rfl (PySem.evalArgs_none ⟨rfl, hdo.typeIs, F.args_dict_values_1 _, _, meets_dict_values (mixKind X.prog X.w) d hs0, ⟨vs, hdo⟩, ?_⟩)
  refine Calls.spliced_nil ?_
  refine PySem.W.kdl_call (PySem.W.kdl_values (knd := mixKind X.prog X.w) (kvs := vs) (ep := ep)) (I1.ok.hd hc) ⟨⟨_, Heap.get?_push_size _ rfl, rfl, rfl⟩, hat.push _⟩ (by omega) fun h' tk acc c hk hS hacc => ?_
  have hv' : Vals (kvs.map (·.2)) acc.toList := vals_of_at (by
    have e : acc.toList.length = acc.size := Array.length_toList
    rw [List.length_map, e, hacc.1, lk]) fun j x u h1 h2 => by
    obtain ⟨k, hk⟩ := hacc.2 j u (by rw [← Array.getElem?_toList]; exact h2)
    obtain ⟨y, h3, h4⟩ := KV.at' kv hk
    rw [List.getElem?_map, h3] at h1
    cases h1
    exact h4
  have I3 := I2.laid (a := (s1.heap.push { cls := .type "dict_values", data := .fields #[.ref d] }).objs.size) (o := .lst (kvs.map (·.2))) (t' := tk) hk (Nat.le_refl _) (show ObjOk X.prog X.w _ _ _ (.lst (kvs.map (·.2))) from ⟨by rw [List.length_map]; exact hz, acc.toList, c, hv', by rw [Array.toArray_toList]; exact hS⟩)
  exact ⟨.ref _, _, I3, rfl, q _ (I2.hok.fresh (Nat.le_refl _))⟩
end
section
variable {K : PySem.W.Frag} {H : Hp} {D : Addr} {qs : List (Int × Bx)}
/-- the dict's pairs by data -/
theorem DicB.len {kvs : List (Key × V)} (h1 : kvs.map (·.1) = (qs.map fun e => Sum.inl e.1)) : kvs.length = qs.length := by
  have z := congrArg List.length h1
  rw [List.length_map, List.length_map] at z
  exact z
theorem mem_keys {kvs : List (Key × V)} (h1 : kvs.map (·.1) = (qs.map fun e => Sum.inl e.1)) (i : Int) : (valV kvs (.inl i)).isSome = decide (i ∈ qs.map (·.1)) := by
  rw [← valV_any]
  rw [Bool.eq_iff_iff, List.any_eq_true, decide_eq_true_iff]
  constructor
  · rintro ⟨p, hp, e⟩
    have e := of_decide_eq_true e
    have : p.1 ∈ kvs.map (·.1) := List.mem_map.mpr ⟨p, hp, rfl⟩
    rw [h1] at this
    obtain ⟨q, hq, z⟩ := List.mem_map.mp this
    rw [e] at z
    exact List.mem_map.mpr ⟨q, hq, Sum.inl.inj z⟩
  · intro h
    obtain ⟨q, hq, rfl⟩ := List.mem_map.mp h
    have : (Sum.inl q.1 : Key) ∈ kvs.map (·.1) := by
      rw [h1]
      exact List.mem_map.mpr ⟨q, hq, rfl⟩
    obtain ⟨p, hp, z⟩ := List.mem_map.mp this
    exact ⟨p, hp, decide_eq_true z⟩
/-- the list of the pairs, by data -/
theorem items_td {H' : Hp} : ∀ {qs : List (Int × Bx)} {kvs : List (Key × V)} {ts : List Addr}, kvs.map (·.1) = (qs.map fun e => Sum.inl e.1) → TDs H' (kvs.map (·.2)) (qs.map fun e => boxD e.2) → Paired (fun (t : Addr) (q : Key × V) => H' t = some (.tup [kV q.1, q.2])) ts kvs → TDs H' (ts.map V.ref) (qs.map entD)
  | [], kvs, ts, h1, _, hp => by
    have : kvs = [] := List.map_eq_nil_iff.mp h1
    subst this
    cases hp
    exact .nil
  | q :: qs, [], ts, h1, _, hp => by cases h1
  | q :: qs, kv :: kvs, ts, h1, h2, hp => by
    cases hp with
    | cons h t =>
      rw [List.map_cons, List.map_cons] at h1 h2
      injection h1 with h1a h1b
      obtain ⟨v, ys, e, tv, tt⟩ := h2.inv
      injection e with e1 e2
      subst e1 e2
      rw [h1a] at h
      exact TDs.tup h (.int q.1 (TDs.cons tv .nil)) (items_td h1b tt t)
end
end Q
set_option Elab.async false
set_option linter.all false
set_option maxRecDepth 100000
set_option maxHeartbeats 4000000
/-! boxes checked, properties, classes made, the height -/
namespace Q
open PySem L2 PySem.Spec PyProof.Rows PySem.Calls
open Evl PB
abbrev sChkB : Stmt := top 13
abbrev sHeight : Stmt := inClass (top 37) 4
abbrev sBoxP : Stmt := inClass (top 37) 6
abbrev sBoxes : Stmt := inClass (top 37) 5
/-- a def told by what it asks of the values written -/
structure ClR (P : Program) (w : World) (K : PySem.W.Frag) (mg : Str → Option Value) (base : Heap) (k : Nat) (x : Str) (sp : Sp) : Prop where
  ex : ∃ f : Addr, FnR P w K mg base CX0 k f sp ∧ mg x = some (.ref f) ∧ PySem.W.keepIn K (.ref f) = true
section
variable {X : Cx} {k j : Nat} {x : Str} {sp : Sp} {p pos : Pos} {e : Expr} {es : List Expr} {t : TA}
def tCallR (sp : Sp) (E : XK) (t : TA) : TE := fun σ H Q => t σ H fun vs H1 => sp vs H1 Q E
theorem pe_callR {CX : CXT} {f : Addr} {E : XK} (F : FnR X.prog X.w X.K X.mg X.base CX k f sp) (hr : Room k X.A) (hk : PySem.W.keepIn X.K (.ref f) = true) (hg : Gl X x) (hm : X.mg x = some (.ref f)) (hx : Passes CX X E) (ha : PA X (e :: es) t) (hd : (x == ("__debug__" : Str)) = false := by decide)
    (he : starEach (e :: es) X.env = (false, eval e X.env) :: starEach es X.env := by rfl) (hpl : (backTo pos (starEach es X.env)).any (·.1) = false := by rfl) :
    PE X (.Call (.Name x p) (e :: es) [] pos) (fun σ H Q => t σ H fun vs H1 => sp vs H1 Q E) := by
  refine ⟨fun pins s σ H Q I h => ?_⟩
  refine wpAny_Call_Name_kw (ld_glob I hg hm ?_ hd)
  refine PySem.W.callWith_K (h₀ := X.base) I.ok.mod.kin hk (thn (ha.run pos pins s σ H _ I h) fun us s1 ⟨vs, H1, I1, r, q⟩ => ⟨I1.kIn, ?_⟩) he hpl
  exact wpAny_call (run_fnR F hr hx I1 r q)
theorem pe_clR (c : ClR X.prog X.w X.K X.mg X.base k x sp) (hr : Room j X.A) (hk : k ≤ j) (hg : Gl X x) (ha : PA X (e :: es) t)
    (hdb : (x == ("__debug__" : Str)) = false := by decide) (he : starEach (e :: es) X.env = (false, eval e X.env) :: starEach es X.env := by rfl) (hpl : (backTo pos (starEach es X.env)).any (·.1) = false := by rfl) :
    PE X (.Call (.Name x p) (e :: es) [] pos) (tCallR sp E0 t) := by
  obtain ⟨f, F, hm, kp⟩ := c.ex
  exact pe_callR F (hr.mono hk) kp hg hm pass0 ha hdb he hpl
/-- an expression that is never reached -/
def tNever : TE := fun _ _ _ => False
theorem pe_never {e : Expr} : PE X e tNever := ⟨fun pins s σ H Q I h => h.elim⟩
end
theorem bind_star0 {B : List Value → Sem (List (Str × Value))} {pv : Str} (h0 : B [] = (newTuple [] >>= fun t => pure [(pv, t)])) (h1 : ∀ r rs, B (r :: rs) = (newTuple (r :: rs) >>= fun t => pure [(pv, t)])) :
    ∀ us rest : List Value, us.length = ([] : List Str).length → B (us ++ rest) = (newTuple rest >>= fun t => pure (([] : List Str).zip us ++ [(pv, t)]))
  | [], [], _ => h0
  | [], r :: rs, _ => h1 r rs
def spChkB : Sp := fun vs H Q _ => vs.length ≤ 9 ∧ ∃ bs : List Bx, TDs H vs (bs.map boxD) ∧ (∀ b ∈ bs, b.ok) ∧ ∀ H', Ex H H' → Q .non H'
def spValsB : Sp := fun vs H Q _ => ∃ (p : Addr) (rest : List V) (bs : List Bx), vs = [.ref p] ∧ H p = some (.tup rest) ∧ TDs H rest (bs.map boxD) ∧ (∀ b ∈ bs, b.ok) ∧ ∀ H', Ex H H' → Q .non H'
section
variable {P : Program} {w : World} {K : PySem.W.Frag} {mg : Str → Option Value} {base : Heap}
theorem scChkB : FnScope ["values", "value"] ["values"] (defScope sChkB) := ⟨rfl, rfl, rfl, by decide +kernel, rfl, by decide +kernel, by decide +kernel⟩
theorem ok_chkB {f : Addr} {fd : FuncData} (F : Fun K "check_boxes" "check_boxes" sChkB f fd) (CB : Cl P w K mg base 2 "is_box" spIsBox) : FnR P w K mg base CX0 3 f spChkB := by
  obtain ⟨oc, od, kV, doc, pm, an, cdv, ct, osl, rfl, lk, hcd⟩ := F.ex
  have z := StX.fn_star (P := P) (w := w) (mg := mg) (base := base) (CX := CX0) (k := 2) (N := ["values", "value"]) (ps := []) (pv := "values") (sp := spValsB) lk hcd scChkB StX.cxUp_none (fun us rest h => bind_star0 (B := fun us => bindArgs (PySem.W.fnOf "check_boxes" "check_boxes" (defArgs sChkB) (defBody sChkB) (defScope sChkB) .none kV doc pm an cdv ct) ⟨us, []⟩) rfl (fun _ _ => rfl) us rest h) (fun A outer s H vs Q E hr h => ?_)
  · refine z.imp fun vs H Q E h => ?_
    obtain ⟨h1, bs, h2, h3, h4⟩ := h
    exact ⟨[], vs, rfl, rfl, Nat.le_trans h1 (by decide), fun p hp => ⟨p, vs, bs, rfl, upd_same, h2.mono (Ex.new hp), h3, fun H' e => h4 H' ((Ex.new hp).trans e)⟩⟩
  · obtain ⟨p, rest, bs, rfl, hp, tb, ok, k⟩ := h
    refine ⟨_, PSs.nox (pss_one (ps_for PassesOwn.never rfl (pi_tup (pv 0)) (pg_name (i := 1) scChkB.nd rfl (Or.inl rfl)) (pss_one (ps_if (pt_not (pt_val (pe_cl CB hr (Nat.le_refl _) (by rfl) (pa_cons (pv 1) pa_nil)))) pss_never pss_nil)))), ?_⟩
    refine ⟨_, rfl, p, rfl, ⟨_, SqT.of hp⟩, ?_⟩
    refine for_tup (xs := rest) (fun i σ H' => Ex H H' ∧ ∃ u, σ = [some (.ref p), u]) ⟨Ex.refl _, _, rfl⟩ (fun i σ H' _ h => SqT.of (h.1 _ _ hp)) (fun i x σ H' hx h => ?_) (fun σ H' h => k H' h.1)
    obtain ⟨eH, u, rfl⟩ := h
    obtain ⟨d, hd, tx⟩ := tb.to hx
    rw [List.getElem?_map] at hd
    obtain ⟨b, hb, rfl⟩ := Option.map_eq_some_iff.mp hd
    refine s_when (b := false) (et_not (a := true) (et_B (ev_isbox (ed_var rfl (tx.mono eH)) (ok b (List.mem_of_getElem? hb))))) (fun z => nomatch z) fun _ H1 e1 => ⟨eH.trans e1, _, rfl⟩
end
/-- a property of the class at C -/
structure Pq (P : Program) (w : World) (K : PySem.W.Frag) (mg : Str → Option Value) (base : Heap) (k : Nat) (C : Addr) (f : Str) (sp : Sp) : Prop where
  ex : ∃ (p g : Addr) (fd : FuncData) (ps : List Str), Cls K C ∧ PropOf K C f p g ∧ FnOk P w K mg base CX0 k g fd ps sp ∧ Binds K fd ps []
section
variable {X : Cx} {k j : Nat} {C : Addr} {f : Str} {sp : Sp} {pos : Pos} {e : Expr} {ta : TE}
theorem pe_pq (c : Pq X.prog X.w X.K X.mg X.base k C f sp) (hr : Room j X.A) (hk : k + 1 ≤ j) (he : PE X e ta) (hab : attributeBase e f X.env (eval e X.env) = eval e X.env := by rfl) : PE X (.Attribute e f pos) (tProp C sp [] E0 ta) := by
  obtain ⟨p, g, fd, ps, h1, h2, F, b⟩ := c.ex
  exact pe_prop he h1 h2 F (hr.mono hk) b .nil pass0 hab
end
def spHeight (C : Addr) : Sp := fun vs H Q _ => ∃ (a : Addr) (n : Nat) (f : Fm n), vs = [.ref a] ∧ TrA C H a n f ∧ sizes n f ∧ n ≤ 3 ∧ ∀ H', Ex H H' → Q (.int ((n + 1 : Nat) : Int)) H'
structure TDi (mg : Str → Option Value) : Prop where
  dict : mg "dict" = none
section
variable {P : Program} {w : World} {K : PySem.W.Frag} {mg : Str → Option Value} {base : Heap}
theorem scHeight : FnScope ["self"] ["self"] (defScope sHeight) := ⟨rfl, rfl, rfl, by decide +kernel, rfl, by decide +kernel, by decide +kernel⟩
theorem ok_height {C f : Addr} {fd : FuncData} (F : Fun K "height" "Tree.height" sHeight f fd) (TC : TrC K mg C) (CD : Cl P w K mg base 4 "leaf_depths" (spLeafD 4)) : FnOk P w K mg base CX0 5 f fd ["self"] (spHeight C) := by
  refine F.ok scHeight (fun vs H Q E h => ?_) (fun cdv A' outer s H vs Q E hr h => ?_)
  · obtain ⟨a, n, g, rfl, _⟩ := h
    rfl
  · obtain ⟨a, n, g, rfl, xa, hz, h3, k⟩ := h
    refine ⟨_, (pss_one (ps_ret (pe_op op_add pe_int (pe_ix ix_list (pe_cl CD hr (by decide) (by rfl) (pa_cons (pe_fld (pv 0) rfl) pa_nil)) pe_int (fun _ _ => rfl))))), ?_⟩
    have lp := leaves_pos n g hz
    have z := eds_leafD (E := E0) (m := 4) (ed_form (σ := [some (.ref a)]) TC (i := 0) (a := a) rfl xa) (by omega) (sizes_thin n g hz) h3
    refine s_ret (v := .int ((n + 1 : Nat) : Int)) (ev_is (ev_op ev_c (ev_ofD (ed_ixLV (K := K) (d := .int (n : Int)) (ld_new z) (ev_c (v := .int 0)) ⟨by decide, by
      show (List.map PyData.int (List.replicate (leaves n g) ((n : Nat) : Int)))[0]? = _
      rw [List.getElem?_map, List.getElem?_replicate, if_pos (by omega)]
      rfl⟩)) rv_I0) (by rw [Int.add_comm]; rfl)) fun H1 e1 => k H1 e1
end
/-- a class method of C -/
structure Cm (P : Program) (w : World) (K : PySem.W.Frag) (mg : Str → Option Value) (base : Heap) (k : Nat) (C : Addr) (m : Str) (sp : Sp) : Prop where
  ex : ∃ (mc : Value) (p g : Addr), ClX.CRead K C mc ∧ ClX.CMet K C mc m p g ∧ FnR P w K mg base CX0 k g sp
/-- a class made by its name -/
structure Mq (P : Program) (w : World) (K : PySem.W.Frag) (mg : Str → Option Value) (base : Heap) (k : Nat) (C : Addr) (sp : Sp) (dvs : List V) : Prop where
  ex : ∃ (f : Addr) (fd : FuncData) (ps : List Str) (ds : List Value), Mk K C f ∧ FnOk P w K mg base CX0 k f fd ps sp ∧ Binds K fd ps ds ∧ Vals dvs ds
section
variable {X : Cx} {k j : Nat} {C : Addr} {m x : Str} {sp : Sp} {dvs : List V} {p pos apos : Pos} {e o : Expr} {es : List Expr} {ta : TE} {t : TA}
theorem pe_cm {pl : Sem Bool} (c : Cm X.prog X.w X.K X.mg X.base k C m sp) (hr : Room j X.A) (hk : k ≤ j) (he : PE X o ta) (ha : PA X (e :: es) t)
    (hst : starEach (e :: es) X.env = (false, eval e X.env) :: starEach es X.env := by rfl) (hpl : (backTo pos (starEach es X.env)).any (·.1) = false := by rfl)
    (hm : eval (.Call (.Attribute o m apos) (e :: es) [] pos) X.env = (do
      let z ← eval o X.env
      standAt apos.atName
      let (g, front) ← holding [z] (getMethod z m pl)
      callWith pos g front (backTo pos (starEach (e :: es) X.env)) (backToKw pos (keywordEach [] X.env))) := by rfl) :
    PE X (.Call (.Attribute o m apos) (e :: es) [] pos) (ClX.tCMeth C sp E0 ta t) := by
  obtain ⟨mc, p, g, h1, h2, F⟩ := c.ex
  exact ClX.pe_cmeth (pl := pl) he h1 h2 F (hr.mono hk) pass0 ha hst hpl hm
theorem pe_mq (c : Mq X.prog X.w X.K X.mg X.base k C sp dvs) (hr : Room j X.A) (hk : k + 1 ≤ j) (hg : Gl X x) (hm : X.mg x = some (.ref C)) (ha : PA X (e :: es) t) (hdb : (x == ("__debug__" : Str)) = false := by decide)
    (he : starEach (e :: es) X.env = (false, eval e X.env) :: starEach es X.env := by rfl) (hpl : (backTo pos (starEach es X.env)).any (·.1) = false := by rfl) : PE X (.Call (.Name x p) (e :: es) [] pos) (tMake C sp dvs E0 t) := by
  obtain ⟨f, fd, ps, ds, M, F, b, d⟩ := c.ex
  exact pe_make M F (hr.mono hk) hg hm b d pass0 ha hdb he hpl
theorem pe_mq0 (c : Mq X.prog X.w X.K X.mg X.base k C sp dvs) (hr : Room j X.A) (hk : k + 1 ≤ j) (hg : Gl X x) (hm : X.mg x = some (.ref C)) (hdb : (x == ("__debug__" : Str)) = false := by decide) : PE X (.Call (.Name x p) [] [] pos) (tMake C sp dvs E0 tNil) := by
  obtain ⟨f, fd, ps, ds, M, F, b, d⟩ := c.ex
  exact pe_make0 M F (hr.mono hk) hg hm b d pass0 hdb
end
/-- gives a tree of this form -/
def EvTr (C : Addr) (te : TE) (σ : L2.St) (H : Hp) (n : Nat) (f : Fm n) : Prop := ∀ H1, Ex H H1 → ∀ Q : VK, (∀ a H2, Ex H1 H2 → TrA C H2 a n f → Q (.ref a) H2) → te σ H1 Q
theorem TDs.perm {H : Hp} {as bs : List V} (pm : as.Perm bs) : ∀ {fs : List PyData}, TDs H bs fs → ∃ gs, TDs H as gs ∧ gs.Perm fs := by
  induction pm with
  | nil => exact fun {fs} t => ⟨fs, t, List.Perm.refl _⟩
  | cons v _ ih =>
    intro fs t
    match fs, t with
    | [], t => cases t.inv0
    | f :: fs, t =>
      obtain ⟨u, zs, e8, hu, t⟩ := t.inv
      cases e8
      obtain ⟨gs, t2, p2⟩ := ih t
      exact ⟨f :: gs, TDs.cons hu t2, List.Perm.cons f p2⟩
  | swap v u l =>
    intro fs t
    match fs, t with
    | [], t => cases t.inv0
    | f :: fs, t =>
      obtain ⟨u1, zs, e8, hu, t⟩ := t.inv
      cases e8
      match fs, t with
      | [], t => cases t.inv0
      | g :: fs, t =>
        obtain ⟨u2, zs2, e9, hv, t⟩ := t.inv
        cases e9
        exact ⟨g :: f :: fs, TDs.cons hv (TDs.cons hu t), List.Perm.swap _ _ _⟩
  | trans _ _ i1 i2 =>
    intro fs t
    obtain ⟨gs, t2, p2⟩ := i2 t
    obtain ⟨hs, t3, p3⟩ := i1 t2
    exact ⟨hs, t3, p3.trans p2⟩
end Q
set_option Elab.async false
set_option linter.all false
set_option maxRecDepth 100000
set_option maxHeartbeats 4000000
/-! what a tree tells of itself -/
namespace PB
open PySem
def jbD (bs : List Bx) : PyData := if bs.isEmpty = true then .none else boxD (joint bs)
end PB
namespace Q
open PySem L2 PySem.Spec PyProof.Rows PySem.Calls
open Evl PB
abbrev sEntr : Stmt := inClass (top 37) 14
abbrev sCont : Stmt := inClass (top 37) 16
abbrev sChkT : Stmt := inClass (top 37) 15
abbrev sLenT : Stmt := inClass (top 37) 17
abbrev sIterT : Stmt := inClass (top 37) 18
abbrev sEqT : Stmt := inClass (top 37) 19
abbrev sFormP : Stmt := inClass (top 37) 3
/-- a tree whose boxes are these -/
def TrB (C : Addr) (H : Hp) (a : Addr) (qs : List (Int × Bx)) : Prop := ∃ dx u D, H a = some (.ins C dx (trF u (.ref D))) ∧ DicB H D qs
theorem TrB.mono {C : Addr} {H H' : Hp} (e : Ex H H') {a : Addr} {qs : List (Int × Bx)} (h : TrB C H a qs) : TrB C H' a qs := by
  obtain ⟨dx, u, D, h1, h2⟩ := h
  exact ⟨dx, u, D, e _ _ h1, h2.mono e⟩
theorem TrA.trB {C : Addr} {H : Hp} {a n : Nat} {f : Fm n} (h : TrA C H a n f) : ∃ qs, TrB C H a qs ∧ ByNum (ents n f) qs := by
  obtain ⟨dx, u, D, qs, h1, h2, h3, h4⟩ := h
  exact ⟨qs, ⟨dx, u, D, h1, h3⟩, h4⟩
section
variable {X : Cx} {k j : Nat} {C : Addr} {m : Str} {sp : Sp} {pos apos : Pos} {o : Expr} {ta : TE}
theorem pe_mt0 {pl : Sem Bool} (c : Mt X.prog X.w X.K X.mg X.base k C m sp) (hr : Room j X.A) (hk : k ≤ j) (he : PE X o ta)
    (ht : eval (.Call (.Attribute o m apos) [] [] pos) X.env = (do
      let ov ← eval o X.env
      standAt apos.atName
      let (f, first) ← holding [ov] (getMethod ov m pl)
      callWith pos f first (backTo pos (starEach [] X.env)) (backToKw pos (keywordEach [] X.env))) := by rfl) :
    PE X (.Call (.Attribute o m apos) [] [] pos) (tMeth C m sp [] E0 ta tNil) := by
  obtain ⟨f, fd, ps, h1, h2, F, b⟩ := c.ex
  exact pe_meth0 (pl := pl) he h1 h2 F (hr.mono hk) b .nil pass0 ht
end
def spEntr (C : Addr) : Sp := fun vs H Q _ => ∃ (a : Addr) (qs : List (Int × Bx)), vs = [.ref a] ∧ TrB C H a qs ∧ ∀ l xs H', H l = none → Ex H H' → H' l = some (.lst xs) → TDs H' xs (qs.map entD) → Q (.ref l) H'
def spCont (C : Addr) : Sp := fun vs H Q _ => ∃ (a : Addr) (i : Int) (qs : List (Int × Bx)), vs = [.ref a, .int i] ∧ TrB C H a qs ∧ ∀ H', Ex H H' → Q (.bl (decide (i ∈ qs.map (·.1)))) H'
def spChkT (C : Addr) : Sp := fun vs H Q _ => ∃ (a : Addr) (i : Int) (qs : List (Int × Bx)), vs = [.ref a, .int i] ∧ TrB C H a qs ∧ i ∈ qs.map (·.1) ∧ ∀ H', Ex H H' → Q .non H'
def spLenT (C : Addr) : Sp := fun vs H Q _ => ∃ (a dx D : Addr) (u : V) (kvs : List (Key × V)), vs = [.ref a] ∧ H a = some (.ins C dx (trF u (.ref D))) ∧ Rd H D (.dK kvs) ∧ ∀ H', Ex H H' → Q (.int kvs.length) H'
def spIterT (C : Addr) : Sp := fun vs H Q _ => ∃ (a dx D : Addr) (u : V) (od : Obj) (kvs : List (Key × V)), vs = [.ref a] ∧ H a = some (.ins C dx (trF u (.ref D))) ∧ H D = some (.frz od (.dK kvs)) ∧ ∀ it H', H it = none → Ex H H' → H' it = some (keyO od D it) → Q (.ref it) H'
def spEqT (C : Addr) : Sp := fun vs H Q _ => ∃ (a b n m : Nat) (f : Fm n) (g : Fm m), vs = [.ref a, .ref b] ∧ TrA C H a n f ∧ TrA C H b m g ∧ n ≤ 3 ∧ m ≤ 3 ∧ ∀ H', Ex H H' → Q (.bl (PyData.eqv (formD n f) (formD m g))) H'
def spFormP (C : Addr) : Sp := fun vs H Q _ => ∃ (a dx : Addr) (u b : V), vs = [.ref a] ∧ H a = some (.ins C dx (trF u b)) ∧ Q u H
def spBoxP (C : Addr) : Sp := fun vs H Q _ => ∃ (a : Addr) (qs : List (Int × Bx)), vs = [.ref a] ∧ TrB C H a qs ∧ qs.length ≤ 1000 ∧ ∀ v H', Ex H H' → TD1 H' v (jbD (qs.map (·.2))) → Q v H'
def spBoxesP (C : Addr) : Sp := fun vs H Q _ => ∃ (a dx D : Addr) (u : V) (kvs : List (Key × V)), vs = [.ref a] ∧ H a = some (.ins C dx (trF u (.ref D))) ∧ H D = some (.dK kvs) ∧ ∀ p H', H p = none → Ex H H' → H' p = some (.dK kvs) → Q (.ref p) H'
structure TXt (mg : Str → Option Value) : Prop where
  iter : mg "iter" = none
  str : mg "str" = none
section
variable {P : Program} {w : World} {K : PySem.W.Frag} {mg : Str → Option Value} {base : Heap}
theorem scEntr : FnScope ["self"] ["self"] (defScope sEntr) := ⟨rfl, rfl, rfl, by decide +kernel, rfl, by decide +kernel, by decide +kernel⟩
theorem ok_entr {C f : Addr} {fd : FuncData} (F : Fun K "_entries" "Tree._entries" sEntr f fd) (T : TB mg) (TC : TrC K mg C) : FnOk P w K mg base CX0 1 f fd ["self"] (spEntr C) := by
  refine F.ok scEntr (fun vs H Q E h => ?_) (fun cdv A' outer s H vs Q E hr h => ?_)
  · obtain ⟨a, qs, rfl, _⟩ := h
    rfl
  · obtain ⟨a, qs, rfl, ⟨dx, u, D, ha, kvs, hD, h1, h2⟩, k⟩ := h
    refine ⟨_, (pss_one (ps_ret (LiI.pe_listItems rfl (pe_fld (pv 0) rfl) (by rfl) T.list (by rfl)))), ?_⟩
    refine ⟨_, rfl, a, C, dx, _, _, rfl, ha, TC.cl, TC.nB, by rfl, D, kvs, rfl, hD, fun H' p ts e np _ _ hp pr => ?_⟩
    exact k p _ H' np e hp (items_td h1 (h2.mono e) pr)
theorem scCont : FnScope ["self", "value"] ["self", "value"] (defScope sCont) := ⟨rfl, rfl, rfl, by decide +kernel, rfl, by decide +kernel, by decide +kernel⟩
theorem ok_cont {C f : Addr} {fd : FuncData} (F : Fun K "__contains__" "Tree.__contains__" sCont f fd) (TC : TrC K mg C) (CI : Cl P w K mg base 1 "is_integer" spIsInt) : FnOk P w K mg base CX0 2 f fd ["self", "value"] (spCont C) := by
  refine F.ok scCont (fun vs H Q E h => ?_) (fun cdv A' outer s H vs Q E hr h => ?_)
  · obtain ⟨a, i, qs, rfl, _⟩ := h
    rfl
  · obtain ⟨a, i, qs, rfl, ⟨dx, u, D, ha, kvs, hD, h1, h2⟩, k⟩ := h
    refine ⟨_, (pss_one (ps_ret (pe_and (pe_cl CI hr (by decide) (by rfl) (pa_cons (pv 1) pa_nil)) (pe_one (pe_cmp (pc_din (hu_of hr) (pv 1) (pe_fld (pv 0) rfl))))))), ?_⟩
    refine s_ret (ev_is (ev_andV (a := true) (b := decide (i ∈ qs.map (·.1))) (ev_isint (ev_var rfl)) fun _ => fun H1 e1 Q q => ?_) (by rw [Bool.true_and])) fun H2 e2 => k H2 e2
    refine ⟨_, rfl, _, rfl, a, C, dx, _, _, rfl, e1 _ _ ha, TC.cl, TC.nB, by rfl, D, valV kvs (.inl i), rfl, .inl ⟨kvs, .inl i, .inl (e1 _ _ hD), rfl, rfl⟩, ?_⟩
    rw [mem_keys h1]
    exact q H1 (Ex.refl _)
theorem scChkT : FnScope ["self", "number"] ["self", "number"] (defScope sChkT) := ⟨rfl, rfl, rfl, by decide +kernel, rfl, by decide +kernel, by decide +kernel⟩
theorem ok_chkT {C f : Addr} {fd : FuncData} (F : Fun K "_check_there" "Tree._check_there" sChkT f fd) (MC : Mt P w K mg base 2 C "__contains__" (spCont C)) : FnOk P w K mg base CX0 3 f fd ["self", "number"] (spChkT C) := by
  refine F.ok scChkT (fun vs H Q E h => ?_) (fun cdv A' outer s H vs Q E hr h => ?_)
  · obtain ⟨a, i, qs, rfl, _⟩ := h
    rfl
  · obtain ⟨a, i, qs, rfl, hb, hi, k⟩ := h
    refine ⟨_, PSs.nox (pss_one (ps_if (pt_cmpR (op_notInOwn MC hr (by decide)) (pv 1) (pv 0) (by rfl)) pss_never pss_nil)), ?_⟩
    obtain ⟨dx, u, D, ha, _⟩ := id hb
    have e : EvT (tTest (tOp (rInOwn C (spCont C) true) (tVar 1) (tVar 0))) [some (.ref a), some (.int i)] H false := fun H1 e1 Q q => ⟨_, rfl, _, rfl, a, rfl, ⟨dx, _, e1 _ _ ha⟩, a, i, qs, rfl, hb.mono e1, fun H2 e2 => ⟨_, rfl, false, by rw [decide_eq_true hi]; rfl, q H2 e2⟩⟩
    exact s_when e (fun z => nomatch z) fun _ H1 e1 => k H1 e1
theorem scLenT : FnScope ["self"] ["self"] (defScope sLenT) := ⟨rfl, rfl, rfl, by decide +kernel, rfl, by decide +kernel, by decide +kernel⟩
theorem ok_lenT {C f : Addr} {fd : FuncData} (F : Fun K "__len__" "Tree.__len__" sLenT f fd) (T : TI mg) (TC : TrC K mg C) : FnOk P w K mg base CX0 1 f fd ["self"] (spLenT C) := by
  refine F.ok scLenT (fun vs H Q E h => ?_) (fun cdv A' outer s H vs Q E hr h => ?_)
  · obtain ⟨a, dx, D, u, kvs, rfl, _⟩ := h
    rfl
  · obtain ⟨a, dx, D, u, kvs, rfl, ha, hD, k⟩ := h
    refine ⟨_, (pss_one (ps_ret (pe_callB d_lenR (by rfl) T.len PySem.boot_len (pa_cons (pe_fld (pv 0) rfl) pa_nil)))), ?_⟩
    exact ⟨_, rfl, a, C, dx, _, _, rfl, ha, TC.cl, TC.nB, by rfl, D, kvs, rfl, hD, k H (Ex.refl _)⟩
theorem scIterT : FnScope ["self"] ["self"] (defScope sIterT) := ⟨rfl, rfl, rfl, by decide +kernel, rfl, by decide +kernel, by decide +kernel⟩
theorem ok_iterT {C f : Addr} {fd : FuncData} (F : Fun K "__iter__" "Tree.__iter__" sIterT f fd) (TX : TXt mg) (TC : TrC K mg C) : FnOk P w K mg base CX0 1 f fd ["self"] (spIterT C) := by
  refine F.ok scIterT (fun vs H Q E h => ?_) (fun cdv A' outer s H vs Q E hr h => ?_)
  · obtain ⟨a, dx, D, u, od, kvs, rfl, _⟩ := h
    rfl
  · obtain ⟨a, dx, D, u, od, kvs, rfl, ha, hD, k⟩ := h
    refine ⟨_, (pss_one (ps_ret (pe_callB cr_iterD (by rfl) TX.iter (by decide +kernel) (pa_cons (pe_fld (pv 0) rfl) pa_nil)))), ?_⟩
    exact ⟨_, rfl, a, C, dx, _, _, rfl, ha, TC.cl, TC.nB, by rfl, D, od, kvs, rfl, hD, fun it nit => k it _ nit (Ex.new nit) upd_same⟩
theorem scEqT : FnScope ["self", "other"] ["self", "other"] (defScope sEqT) := ⟨rfl, rfl, rfl, by decide +kernel, rfl, by decide +kernel, by decide +kernel⟩
theorem shp_form {n : Nat} (f : Fm n) (h : n ≤ 3) : SeqAt.shaped (formD n f) = true := by
  unfold SeqAt.shaped
  have z := small_form n f
  rw [z.1, decide_eq_true (show (formD n f).depth ≤ 64 by omega)]
  rfl
theorem ok_eqT {C f : Addr} {fd : FuncData} (F : Fun K "__eq__" "Tree.__eq__" sEqT f fd) (T : TI mg) (TC : TrC K mg C) : FnOk P w K mg base CX0 1 f fd ["self", "other"] (spEqT C) := by
  refine F.ok scEqT (fun vs H Q E h => ?_) (fun cdv A' outer s H vs Q E hr h => ?_)
  · obtain ⟨a, b, n, m, f, g, rfl, _⟩ := h
    rfl
  · obtain ⟨a, b, n, m, f, g, rfl, xa, xb, n3, m3, k⟩ := h
    have hun := hr.units
    refine ⟨_, (pss_one (ps_ret (pe_and (pe_callB (C8.call_isC TC.ins) (by rfl) T.isi PyProof.Rows.boot_isinstance (pa_cons (pv 1) (pa_cons (pe_glob (v := .ref C) (by rfl) TC.mgT rfl) pa_nil))) (pe_one (pe_cmpR (op_eqD hun) (pe_fld (pv 0) rfl) (pe_fld (pv 1) rfl) (nomark _)))))), ?_⟩
    refine s_ret (ev_is (ev_andV (a := true) (b := PyData.eqv (formD n f) (formD m g)) (fun H1 e1 Q q => ?_) fun _ => ev_eqD (ed_form TC rfl xa) (ed_form TC rfl xb) (shp_form f n3) (shp_form g m3)) (by rw [Bool.true_and])) fun H2 e2 => k H2 e2
    obtain ⟨dx, u, D, qs, hb, _⟩ := xb
    exact ⟨_, rfl, b, dx, _, rfl, e1 _ _ hb, q H1 (Ex.refl _)⟩
theorem scFormP : FnScope ["self"] ["self"] (defScope sFormP) := ⟨rfl, rfl, rfl, by decide +kernel, rfl, by decide +kernel, by decide +kernel⟩
theorem ok_formP {C f : Addr} {fd : FuncData} (F : Fun K "form" "Tree.form" sFormP f fd) (TC : TrC K mg C) : FnOk P w K mg base CX0 1 f fd ["self"] (spFormP C) := by
  refine F.ok scFormP (fun vs H Q E h => ?_) (fun cdv A' outer s H vs Q E hr h => ?_)
  · obtain ⟨a, dx, u, b, rfl, _⟩ := h
    rfl
  · obtain ⟨a, dx, u, b, rfl, ha, k⟩ := h
    refine ⟨_, (pss_one (ps_ret (pe_fld (pv 0) rfl))), ?_⟩
    exact ⟨_, rfl, a, C, dx, _, u, rfl, ha, TC.cl, TC.nF, by rfl, k⟩
theorem scBoxP : FnScope ["self"] ["self"] (defScope sBoxP) := ⟨rfl, rfl, rfl, by decide +kernel, rfl, by decide +kernel, by decide +kernel⟩
theorem ok_boxP {C f : Addr} {fd : FuncData} (F : Fun K "box" "Tree.box" sBoxP f fd) (T : TB mg) (TC : TrC K mg C) (CA : Cl P w K mg base 1 "box_around" spAround) : FnOk P w K mg base CX0 2 f fd ["self"] (spBoxP C) := by
  refine F.ok scBoxP (fun vs H Q E h => ?_) (fun cdv A' outer s H vs Q E hr h => ?_)
  · obtain ⟨a, qs, rfl, _⟩ := h
    rfl
  · obtain ⟨a, qs, rfl, ⟨dx, u, D, ha, kvs, hD, h1, h2⟩, hl, k⟩ := h
    refine ⟨_, (pss_one (ps_ret (pe_ifExp (pt_truth (pe_fld (pv 0) rfl) (fun _ => rfl)) (pe_cl CA hr (by decide) (by rfl) (pa_cons (pe_listVals rfl (pe_fld (pv 0) rfl) (by rfl) T.list (by rfl)) pa_nil)) pe_non))), ?_⟩
    have kl := DicB.len h1
    refine ⟨_, rfl, a, C, dx, trF u (.ref D), .ref D, rfl, ha, TC.cl, TC.nB, by rfl, !kvs.isEmpty, Or.inr (Or.inr ⟨kvs, hD, rfl⟩), ?_⟩
    cases qs with
    | nil =>
      have : kvs = [] := List.map_eq_nil_iff.mp h1
      subst this
      show (if (!([] : List (Key × V)).isEmpty) = true then _ else _)
      rw [if_neg (by simp)]
      exact k .non H (Ex.refl _) (.non .nil)
    | cons q qs =>
      obtain ⟨kv, kvs', rfl⟩ : ∃ kv kvs', kvs = kv :: kvs' := by
        match kvs, kl with
        | kv :: kvs', _ => exact ⟨kv, kvs', rfl⟩
      show (if (!(kv :: kvs').isEmpty) = true then _ else _)
      rw [if_pos (show (!(kv :: kvs').isEmpty) = true from rfl)]
      refine ⟨_, rfl, a, C, dx, trF u (.ref D), .ref D, rfl, ha, TC.cl, TC.nB, by rfl, D, kv :: kvs', rfl, hD, fun p np => ?_⟩
      have e1 := Ex.new (o := .lst ((kv :: kvs').map (·.2))) np
      refine ⟨p, _, (q :: qs).map (·.2), rfl, upd_same, by rw [List.map_map]; exact h2.mono e1, by simp, by rw [List.length_map]; omega, fun v H' e2 t => ?_⟩
      exact k v H' (e1.trans e2) t
theorem scBoxes : FnScope ["self"] ["self"] (defScope sBoxes) := ⟨rfl, rfl, rfl, by decide +kernel, rfl, by decide +kernel, by decide +kernel⟩
theorem ok_boxesP {C f : Addr} {fd : FuncData} (F : Fun K "boxes" "Tree.boxes" sBoxes f fd) (TC : TrC K mg C) (TD : TDi mg) : FnOk P w K mg base CX0 1 f fd ["self"] (spBoxesP C) := by
  refine F.ok scBoxes (fun vs H Q E h => ?_) (fun cdv A' outer s H vs Q E hr h => ?_)
  · obtain ⟨a, dx, D, u, kvs, rfl, _⟩ := h
    rfl
  · obtain ⟨a, dx, D, u, kvs, rfl, ha, hD, k⟩ := h
    refine ⟨_, (pss_one (ps_ret (pe_callTy call_dictD (by rfl) TD.dict (by decide +kernel) (pa_cons (pe_fld (pv 0) rfl) pa_nil)))), ?_⟩
    exact ⟨_, rfl, a, C, dx, _, _, rfl, ha, TC.cl, TC.nB, by rfl, D, kvs, rfl, .inl hD, fun p hp => k p _ hp (Ex.new hp) upd_same⟩
end
end Q
set_option Elab.async false
set_option linter.all false
set_option maxRecDepth 100000
set_option maxHeartbeats 4000000
/-! trees changed; a tree's text -/
namespace Q
open PySem L2 PySem.Spec PyProof.Rows PySem.Calls
open Evl PB
abbrev sPut : Stmt := inClass (top 37) 7
abbrev sWout : Stmt := inClass (top 37) 8
abbrev sMoved : Stmt := inClass (top 37) 9
abbrev sStrT : Stmt := inClass (top 37) 20
/-- a tree of these entries stands at a -/
def TrE (C : Addr) (H : Hp) (a : Addr) (es : List (Int × Bx)) : Prop := ∃ (n : Nat) (f : Fm n), TrA C H a n f ∧ (ents n f).Perm es ∧ sizes n f ∧ least n f ∧ n ≤ 1
theorem TrE.mono {C : Addr} {H H' : Hp} (e : Ex H H') {a : Addr} {es : List (Int × Bx)} (h : TrE C H a es) : TrE C H' a es := by
  obtain ⟨n, f, h1, h2⟩ := h
  exact ⟨n, f, h1.mono e, h2⟩
theorem TrE.trB {C : Addr} {H : Hp} {a : Addr} {es : List (Int × Bx)} (h : TrE C H a es) : ∃ qs, TrB C H a qs ∧ ByNum es qs := by
  obtain ⟨n, f, h1, h2, _⟩ := h
  obtain ⟨qs, h3, h4, h5⟩ := h1.trB
  exact ⟨qs, h3, h4.trans h2, h5⟩
theorem TrE.perm {C : Addr} {H : Hp} {a : Addr} {es fs : List (Int × Bx)} (h : TrE C H a es) (p : es.Perm fs) : TrE C H a fs := by
  obtain ⟨n, f, h1, h2, h3⟩ := h
  exact ⟨n, f, h1, h2.trans p, h3⟩
def without (es : List (Int × Bx)) (i : Int) : List (Int × Bx) := es.filter fun e => !decide (e.1 = i)
/-- its dict is new -/
def TrD (C : Addr) (H0 H : Hp) (a : Addr) : Prop := ∃ dx u D, H a = some (.ins C dx (trF u (.ref D))) ∧ H0 D = none
theorem TrD.back {C : Addr} {H0 H1 H : Hp} (e : Ex H0 H1) {a : Addr} (h : TrD C H1 H a) : TrD C H0 H a := by
  obtain ⟨dx, u, D, h1, h2⟩ := h
  exact ⟨dx, u, D, h1, fresh_back e h2⟩
/-- entries that a tree may have -/
def EsOk (es : List (Int × Bx)) : Prop := (es.map (·.1)).Nodup ∧ (∀ e ∈ es, e.2.ok) ∧ es.length ≤ 14
theorem EsOk.perm {es fs : List (Int × Bx)} (h : EsOk es) (p : fs.Perm es) : EsOk fs := ⟨(p.map (·.1)).nodup_iff.mpr h.1, fun e he => h.2.1 e (p.mem_iff.mp he), by rw [p.length_eq]; exact h.2.2⟩
theorem EsOk.filter {es : List (Int × Bx)} (h : EsOk es) (i : Int) : EsOk (without es i) := ⟨List.Nodup.sublist (List.Sublist.map _ List.filter_sublist) h.1, fun e he => h.2.1 e (List.mem_filter.mp he).1, Nat.le_trans (List.length_filter_le _ _) h.2.2⟩
def spPut (C : Addr) : Sp := fun vs H Q _ => ∃ (a : Addr) (i : Int) (u : V) (b : Bx) (es : List (Int × Bx)), vs = [.ref a, .int i, u] ∧ TrE C H a es ∧ EsOk es ∧ TD1 H u (boxD b) ∧ b.ok ∧ i ∉ es.map (·.1) ∧ ∀ c H', Ex H H' → TrE C H' c (es ++ [(i, b)]) → TrD C H H' c → Q (.ref c) H'
def spWout (C : Addr) : Sp := fun vs H Q _ => ∃ (a : Addr) (i : Int) (es : List (Int × Bx)), vs = [.ref a, .int i] ∧ TrE C H a es ∧ EsOk es ∧ i ∈ es.map (·.1) ∧ ∀ c H', Ex H H' → TrE C H' c (without es i) → TrD C H H' c → Q (.ref c) H'
def spMoved (C : Addr) : Sp := fun vs H Q _ => ∃ (a : Addr) (i : Int) (u : V) (b : Bx) (es : List (Int × Bx)), vs = [.ref a, .int i, u] ∧ TrE C H a es ∧ EsOk es ∧ TD1 H u (boxD b) ∧ b.ok ∧ i ∈ es.map (·.1) ∧ ∀ c H', Ex H H' → TrE C H' c (without es i ++ [(i, b)]) → TrD C H H' c → Q (.ref c) H'
def treeStr (k h : Nat) : Str := (((("tree of " : Str) ++ toString (k : Int)) ++ " boxes, ") ++ toString (h : Int)) ++ " high"
def spStrT (C : Addr) : Sp := fun vs H Q _ => ∃ (a n : Nat) (f : Fm n), vs = [.ref a] ∧ TrA C H a n f ∧ sizes n f ∧ n ≤ 3 ∧ ∀ H', Ex H H' → Q (.str (treeStr (ents n f).length (n + 1))) H'
section
variable {K : PySem.W.Frag} {σ : L2.St} {H : Hp} {te ta tb : TE} {C : Addr} {ds es : List PyData} {t : TA} {H0 : Hp}
theorem da_starL (h : EvLd te σ H ds) (t : EvDa ta' σ H es) : EvDa (StX.tStar K te ta') σ H (ds ++ es) := fun H1 e Q q =>
  h H1 e _ fun p xs H2 e2 hp x => ⟨p, xs, rfl, .inr (SqL.of hp), t H2 (e.trans e2) _ fun ys H3 e3 y => q _ H3 (e2.trans e3) ((x.mono e3).app y)⟩
theorem ld_entr {i : Nat} {a : Addr} {qs : List (Int × Bx)} (h : σ[i]? = some (some (.ref a))) (x : TrB C H a qs) : EvDs (tMeth C "_entries" (spEntr C) [] E0 (tVar i) tNil) σ H (qs.map entD) := fun H1 e1 Q q => by
  obtain ⟨dx, u, D, ha, hD⟩ := id x
  exact ⟨_, h, a, dx, _, rfl, e1 _ _ ha, by rfl, a, qs, rfl, x.mono e1, fun l xs H2 n e2 hl t => q l xs H2 n e2 hl t⟩
theorem go_make1 {C : Addr} {sp : Sp} {dvs : List V} {E : XK} {Q : VK} (h : te σ H fun v H1 => ∀ x dx, H1 x = none → H1 dx = none → dx ≠ x → sp (.ref x :: ([v] ++ dvs)) (upd (upd H1 dx (.own x)) x (.ins C dx [])) (fun v H2 => v = .non ∧ Q (.ref x) H2) E) : tMake C sp dvs E (tCons te tNil) σ H Q := h
/-- Tree(..), a new tree -/
theorem go_tree {es : List (Int × Bx)} {H : Hp} {x dx a : Addr} {ys : List V} {Q : VK} (hx : H x = none) (hd : H dx = none) (ne : dx ≠ x) (ha : H a = some (.tup ys)) (t : TDs H ys (es.map entD)) (hl : es.length ≤ 15) (nd : (es.map (·.1)).Nodup) (ok : ∀ e ∈ es, e.2.ok) (hs : ∀ H' : Hp, Ex H H' → SeqD K H' (.ref a) (es.map entD))
    (q : ∀ H', Ex H H' → TrE C H' x es → TrD C H H' x → Q (.ref x) H') : spInit K C (.ref x :: ([.ref a] ++ [])) (upd (upd H dx (.own x)) x (.ins C dx [])) (fun v H2 => v = .non ∧ Q (.ref x) H2) E0 := by
  have e0 : Ex H (upd (upd H dx (.own x)) x (.ins C dx [])) := fun l o h => by
    rw [upd_ne (fun z => by rw [z, hx] at h; cases h), upd_ne (fun z => by rw [z, hd] at h; cases h)]
    exact h
  exact ⟨x, dx, .ref a, es, rfl, upd_same, hs _ e0, hl, nd, ok, fun n f u D qs H' nD mx hx' tu hD hq pm th le n1 => ⟨rfl, q H' (mk_ex hx hd mx) ⟨n, f, ⟨dx, u, D, qs, hx', tu, hD, hq⟩, pm, th, le, n1⟩ ⟨dx, u, D, hx', fresh_back e0 nD⟩⟩⟩
end
theorem nd_snocE {es : List (Int × Bx)} {i : Int} {b : Bx} (h : (es.map (·.1)).Nodup) (hi : i ∉ es.map (·.1)) : ((es ++ [(i, b)]).map (·.1)).Nodup := by
  rw [List.map_append, List.nodup_append]
  refine ⟨h, by simp, fun x hx y hy => ?_⟩
  rw [List.mem_singleton.mp hy]
  rintro rfl
  exact hi hx
section
variable {P : Program} {w : World} {K : PySem.W.Frag} {mg : Str → Option Value} {base : Heap}
theorem scPut : FnScope ["self", "number", "box"] ["self", "number", "box"] (defScope sPut) := ⟨rfl, rfl, rfl, by decide +kernel, rfl, by decide +kernel, by decide +kernel⟩
theorem ok_put {C f : Addr} {fd : FuncData} (F : Fun K "put" "Tree.put" sPut f fd) (TC : TrC K mg C) (CI : Cl P w K mg base 1 "is_integer" spIsInt) (CK : ClR P w K mg base 3 "check_boxes" spChkB) (ME : Mt P w K mg base 1 C "_entries" (spEntr C)) (MQ : Mq P w K mg base 6 C (spInit K C) []) : FnOk P w K mg base CX0 8 f fd ["self", "number", "box"] (spPut C) := by
  refine F.ok scPut (fun vs H Q E h => ?_) (fun cdv A' outer s H vs Q E hr h => ?_)
  · obtain ⟨a, i, u, b, es, rfl, _⟩ := h
    rfl
  · obtain ⟨a, i, u, b, es, rfl, xe, ⟨nd, ok, l14⟩, xu, bo, ni, k⟩ := h
    refine ⟨_, (pss_cons (ps_if (pt_not (pt_val (pe_cl CI hr (by decide) (by rfl) (pa_cons (pv 1) pa_nil)))) pss_never pss_nil)
      (pss_cons (ps_expr (pe_clR CK hr (by decide) (by rfl) (pa_cons (pv 2) pa_nil)))
      (pss_cons (ps_if (pt_cmp (pc_din (hu_of hr) (pv 1) (pe_fld (pv 0) rfl))) pss_never pss_nil)
      (pss_one (ps_ret (pe_mq MQ hr (by decide) (by rfl) TC.mgT (pa_cons (pe_tup (StX.pa_star (pe_mt0 ME hr (by decide) (pv 0)) (pa_cons (pe_tup (pa_cons (pv 1) (pa_cons (pv 2) pa_nil))) pa_nil))) pa_nil))))))), ?_⟩
    obtain ⟨qs, xb, pm, _⟩ := xe.trB
    refine q_not (et_not (a := true) (et_B (ev_isint (ev_var rfl)))) fun H1 e1 => ?_
    refine ⟨_, rfl, by show 1 ≤ 9; decide, [b], TDs.cons (xu.mono e1) .nil, fun x hx => by
      rw [List.mem_singleton.mp hx]
      exact bo, fun H2 e2 => ?_⟩
    have e02 := e1.trans e2
    obtain ⟨dx, z, D, ha, kvs, hD, h1, h2⟩ := id xb
    have nq : i ∉ qs.map (·.1) := fun z => ni ((pm.map (·.1)).mem_iff.mp z)
    dsimp only
    refine q_not (fun H3 e3 Q q => ?_) fun H3 e3 => ?_
    · refine ⟨_, rfl, _, rfl, a, C, dx, _, _, rfl, (e02.trans e3) _ _ ha, TC.cl, TC.nB, by rfl, D, valV kvs (.inl i), rfl, .inl ⟨kvs, .inl i, .inl ((e02.trans e3) _ _ hD), rfl, rfl⟩, _, rfl, ?_⟩
      rw [mem_keys h1, decide_eq_false nq]
      exact q H3 (Ex.refl _)
    have e03 := e02.trans e3
    have tt : EvD (tTup (StX.tStar K (tMeth C "_entries" (spEntr C) [] E0 (tVar 0) tNil) (tCons (tTup (tCons (tVar 1) (tCons (tVar 2) tNil))) tNil))) [some (.ref a), some (.int i), some u] H3 (.tuple (qs.map entD ++ [entD (i, b)])) := ed_tup (da_starL (ld_new (ld_entr rfl (xb.mono e03))) (da_cons (ed_tup (da_cons (ed_int (ev_var rfl)) (da_cons (ed_var rfl (xu.mono e03)) da_nil)) (by show 2 ≤ 100000; decide)) da_nil)) (by
      rw [List.length_append, List.length_map, pm.length_eq]
      show es.length + 1 ≤ 100000
      omega)
    refine s_retQ (go_make1 (tt H3 (Ex.refl _) _ fun v H4 e4 x4 => ?_))
    obtain ⟨A, ys, rfl, hA, t4⟩ := x4.tup
    have et : (qs.map entD ++ [entD (i, b)]) = ((qs ++ [(i, b)]).map entD) := by rw [List.map_append]; rfl
    rw [et] at t4
    have pq : (qs ++ [(i, b)]).Perm (es ++ [(i, b)]) := List.Perm.append_right _ pm
    intro x dx' nx ndx ne
    refine go_tree (K := K) (es := qs ++ [(i, b)]) nx ndx ne hA t4 (by rw [pq.length_eq, List.length_append]; show es.length + 1 ≤ 15; omega) ((pq.map (·.1)).nodup_iff.mpr (nd_snocE nd ni)) (fun e he => ?_) (fun H' e' => SeqD.of (TD1.mk (e' _ _ hA) (t4.mono e'))) fun H' e' t td => k x H' ((e03.trans e4).trans e') (t.perm pq) (td.back (e03.trans e4))
    rcases List.mem_append.mp (pq.mem_iff.mp he) with he | he
    · exact ok e he
    · rw [List.mem_singleton.mp he]
      exact bo
theorem scWout : FnScope ["self", "number", "entry"] ["self", "number"] (defScope sWout) := ⟨rfl, rfl, rfl, by decide +kernel, rfl, by decide +kernel, by decide +kernel⟩
abbrev nmWout : List Str := ["self", "number", "entry"]
theorem ok_wout {C f : Addr} {fd : FuncData} (F : Fun K "without" "Tree.without" sWout f fd) (T : TB mg) (St : TSt mg) (TC : TrC K mg C) (MK : Mt P w K mg base 3 C "_check_there" (spChkT C)) (ME : Mt P w K mg base 1 C "_entries" (spEntr C)) (MQ : Mq P w K mg base 6 C (spInit K C) []) : FnOk P w K mg base CX0 8 f fd ["self", "number"] (spWout C) := by
  refine F.ok scWout (fun vs H Q E h => ?_) (fun cdv A' outer s H vs Q E hr h => ?_)
  · obtain ⟨a, i, es, rfl, _⟩ := h
    rfl
  · obtain ⟨a, i, es, rfl, xe, ⟨nd, ok, l14⟩, hi, k⟩ := h
    refine ⟨_, (pss_cons (ps_expr (pe_mtQ MK hr (by decide) (pv 0) (pa_cons (pv 1) pa_nil)))
      (pss_one (ps_ret (pe_mq MQ hr (by decide) (by rfl) TC.mgT (pa_cons (pe_callTy call_tuple_of (by rfl) St.tuple (by decide +kernel) (pa_cons (pe_lc (own := [("entry", 2)]) (g := gName 2) (by rfl) scWout.nd (pi_list (pe_mt0 ME hr (by decide) (pv 0)))
        (blkOk_by (own := [("entry", 2)]) (N := nmWout) (sc := defScope sWout) (by decide +kernel))
        (fun _ _ _ _ _ => by exact (pg_name (i := 2) scWout.nd rfl (Or.inl rfl))) (tt := (tTest (tOp rNe (tOp (rIxT K) (tVar 2) (tC (.int 0))) (tVar 1)))) (fun _ _ _ _ _ => by exact (pts_one (pt_cmpR op_ne (pe_ix ix_tup (pv 2) pe_int (fun _ _ => rfl)) (pv 1) (nomark _))))
        (te := (tVar 2)) (fun _ _ _ _ _ => by exact (pv 2))) pa_nil)) pa_nil))))), ?_⟩
    obtain ⟨qs, xb, pm, _⟩ := xe.trB
    obtain ⟨dx, z, D, ha, _⟩ := id xb
    refine ⟨_, rfl, a, dx, _, rfl, ha, by rfl, _, rfl, a, i, qs, rfl, xb, (pm.map (·.1)).mem_iff.mpr hi, fun H1 e1 => ?_⟩
    have z := eds_it (te := tVar 2) (g := gName 2) (tt := tTest (tOp rNe (tOp (rIxT K) (tVar 2) (tC (.int 0))) (tVar 1))) (vs := [2]) (wi := iList K (tMeth C "_entries" (spEntr C) [] E0 (tVar 0) tNil)) (σ := [some (.ref a), some (.int i), none]) (H := H1) (es := qs) (enc := entD) (fun e => !decide (e.1 = i)) entD (ei_list (ld_new (ld_entr rfl (xb.mono e1)))) (by rw [pm.length_eq]; omega) (fun e he => turn_nm (fun _ => rfl) (fun v H2 e2 x2 => et_is (et_test (ev_op (ev_ofD (n := e.1) (ed_ix (ed_var rfl x2) ⟨by decide, rfl⟩)) (ev_var rfl) (rv_ne rfl))) (by
      congr 1
      exact decide_eq_decide.mpr ⟨fun z => by cases z; rfl, fun z => by rw [z]⟩)) fun v H2 e2 x2 _ => ed_var rfl x2)
    have pq : (without qs i).Perm (without es i) := pm.filter _
    refine s_retQ (go_make1 (ed_tupL (K := K) z H1 (Ex.refl _) _ fun v H4 e4 x4 => ?_))
    obtain ⟨A, ys, rfl, hA, t4⟩ := x4.tup
    intro x dx' nx ndx ne
    have eo : EsOk (without qs i) := EsOk.perm (EsOk.filter ⟨nd, ok, l14⟩ i) pq
    exact go_tree (K := K) (es := without qs i) nx ndx ne hA t4 (Nat.le_trans eo.2.2 (by decide)) eo.1 eo.2.1 (fun H' e' => SeqD.of (TD1.mk (e' _ _ hA) (t4.mono e'))) fun H' e' t td => k x H' ((e1.trans e4).trans e') (t.perm pq) (td.back (e1.trans e4))
theorem scMoved : FnScope ["self", "number", "box"] ["self", "number", "box"] (defScope sMoved) := ⟨rfl, rfl, rfl, by decide +kernel, rfl, by decide +kernel, by decide +kernel⟩
theorem not_without {es : List (Int × Bx)} {i : Int} : i ∉ (without es i).map (·.1) := fun z => by
  obtain ⟨e, he, rfl⟩ := List.mem_map.mp z
  have := (List.mem_filter.mp he).2
  rw [decide_eq_true rfl] at this
  cases this
theorem ok_moved {C f : Addr} {fd : FuncData} (F : Fun K "moved" "Tree.moved" sMoved f fd) (MK : Mt P w K mg base 3 C "_check_there" (spChkT C)) (MW : Mt P w K mg base 8 C "without" (spWout C)) (MP : Mt P w K mg base 8 C "put" (spPut C)) : FnOk P w K mg base CX0 9 f fd ["self", "number", "box"] (spMoved C) := by
  refine F.ok scMoved (fun vs H Q E h => ?_) (fun cdv A' outer s H vs Q E hr h => ?_)
  · obtain ⟨a, i, u, b, es, rfl, _⟩ := h
    rfl
  · obtain ⟨a, i, u, b, es, rfl, xe, eo, xu, bo, hi, k⟩ := h
    refine ⟨_, (pss_cons (ps_expr (pe_mtQ MK hr (by decide) (pv 0) (pa_cons (pv 1) pa_nil)))
      (pss_one (ps_ret (pe_mtQ MP hr (by decide) (pe_mtQ MW hr (by decide) (pv 0) (pa_cons (pv 1) pa_nil)) (pa_cons (pv 1) (pa_cons (pv 2) pa_nil)))))), ?_⟩
    obtain ⟨qs, xb, pm, _⟩ := xe.trB
    obtain ⟨dx, z, D, ha, _⟩ := id xb
    refine ⟨_, rfl, a, dx, _, rfl, ha, by rfl, _, rfl, a, i, qs, rfl, xb, (pm.map (·.1)).mem_iff.mpr hi, fun H1 e1 => ?_⟩
    dsimp only
    refine s_retQ ⟨_, rfl, a, dx, _, rfl, e1 _ _ ha, by rfl, _, rfl, a, i, es, rfl, xe.mono e1, eo, hi, fun c H2 e2 tc _ => ?_⟩
    obtain ⟨qs2, xb2, _, _⟩ := tc.trB
    obtain ⟨dx2, z2, D2, ha2, _⟩ := id xb2
    exact ⟨c, dx2, _, rfl, ha2, by rfl, _, rfl, _, rfl, c, i, u, b, without es i, rfl, tc, eo.filter i, xu.mono (e1.trans e2), bo, not_without, fun d H3 e3 td tn => k d H3 ((e1.trans e2).trans e3) td (tn.back (e1.trans e2))⟩
end
end Q
set_option Elab.async false
set_option linter.all false
set_option maxRecDepth 100000
set_option maxHeartbeats 4000000
/-! a tree's text -/
namespace Q
open PySem L2 PySem.Spec PyProof.Rows PySem.Calls
open Evl PB
section
variable {P : Program} {w : World} {K : PySem.W.Frag} {mg : Str → Option Value} {base : Heap}
theorem scStrT : FnScope ["self"] ["self"] (defScope sStrT) := ⟨rfl, rfl, rfl, by decide +kernel, rfl, by decide +kernel, by decide +kernel⟩
theorem small_num {n : Nat} (h : n ≤ 4000) : ((n : Int).natAbs.log2 < 1920) ∧ (toString (n : Int) : Str).length ≤ 10 := by
  refine ⟨?_, PyProof.Rows.toString_length_le (by omega) (by decide) (by omega)⟩
  have : (n : Int).natAbs = n := rfl
  rw [this]
  by_cases h0 : n = 0
  · subst h0
    decide
  · exact (Nat.log2_lt h0).mpr (Nat.lt_of_le_of_lt h (Nat.lt_of_lt_of_le (by decide : 4000 < 2 ^ 12) (Nat.pow_le_pow_right (by decide) (by decide))))
theorem slen (a b : Str) : (a ++ b).length = a.length + b.length := PySem.Str.length_append a b
theorem ok_strT {C f : Addr} {fd : FuncData} (F : Fun K "__str__" "Tree.__str__" sStrT f fd) (T : TI mg) (TC : TrC K mg C) (PH : Pq P w K mg base 5 C "height" (spHeight C)) : FnOk P w K mg base CX0 7 f fd ["self"] (spStrT C) := by
  refine F.ok scStrT (fun vs H Q E h => ?_) (fun cdv A' outer s H vs Q E hr h => ?_)
  · obtain ⟨a, n, g, rfl, _⟩ := h
    rfl
  · obtain ⟨a, n, g, rfl, xa, sz, n3, k⟩ := h
    refine ⟨_, (pss_one (ps_ret (pe_joined (.cons pe_str (.cons (pe_fmt (pe_callB d_lenR (by rfl) T.len PySem.boot_len (pa_cons (pe_fld (pv 0) rfl) pa_nil))) (.cons pe_str (.cons (pe_fmt (pe_pq PH hr (by decide) (pv 0))) (.cons pe_str .nil)))))))), ?_⟩
    obtain ⟨dx, u, D, qs, ha, xu, ⟨kvs, hD, h1, h2⟩, pm, _⟩ := id xa
    have kl := DicB.len h1
    have el := ents_len n g (sizes_thin n g sz)
    have p4 : 4 ^ (n + 1) ≤ 256 := by
      have := pow4' n3
      rw [Nat.pow_succ]
      omega
    have ek : kvs.length = (ents n g).length := kl.trans pm.length_eq
    obtain ⟨s1, s2⟩ := small_num (n := kvs.length) (by omega)
    obtain ⟨s3, s4⟩ := small_num (n := n + 1) (by omega)
    have big : 1000 ≤ sizeLine := by rw [sizeLine_eq]; decide
    have l1 : ("tree of " : Str).length = 8 := by decide +kernel
    have l2 : (" boxes, " : Str).length = 8 := by decide +kernel
    have l3 : (" high" : Str).length = 5 := by decide +kernel
    have l0 : Str.empty.length = 0 := rfl
    refine ⟨_, rfl, by rw [slen]; omega, ?_⟩
    refine ⟨_, rfl, a, C, dx, _, _, rfl, ha, TC.cl, TC.nB, by rfl, D, kvs, rfl, .inl hD, .inr ⟨(kvs.length : Int), rfl, s1, _, rfl, by rw [slen, slen]; omega, ?_⟩⟩
    refine ⟨_, rfl, by rw [slen, slen, slen]; omega, ?_⟩
    refine ⟨_, rfl, a, dx, _, rfl, ha, a, n, g, rfl, xa, sz, n3, fun H1 e1 => .inr ⟨((n + 1 : Nat) : Int), rfl, s3, _, rfl, by rw [slen, slen, slen, slen]; omega, ?_⟩⟩
    refine ⟨_, rfl, by rw [slen, slen, slen, slen, slen]; omega, ?_⟩
    have z := k H1 e1
    rw [← ek] at z
    have e0 : Str.empty ++ ("tree of " : Str) = ("tree of " : Str) := by decide +kernel
    rw [e0]
    exact z
end
end Q
set_option Elab.async false
set_option linter.all false
set_option maxRecDepth 100000
set_option maxHeartbeats 4000000
/-! boxes of a form, a small box, the box of a member -/
namespace Q
open PySem L2 PySem.Spec PyProof.Rows PySem.Calls
open Evl PB
abbrev sSmall : Stmt := top 47
abbrev BagIn (p : Addr) (H : Hp) : Prop := ∃ a b c : Int, H p = some (.lst [.int a, .int b, .int c])
theorem Bgd.tk {p : Addr} {H H' : Hp} (g : Bgd p H H') (hb : BagIn p H) : TKp H H' := fun a xs ha => g.keep a _ (ne_tup hb ha) ha
def spLBoxes : Sp := fun vs H Q _ => ∃ (n : Nat) (f : Fm n) (v : V), vs = [v] ∧ TD1 H v (formD n f) ∧ thin n f ∧ n ≤ 3 ∧ ∀ l xs (bs : List Bx) H', H l = none → Ex H H' → H' l = some (.lst xs) → TDs H' xs (bs.map boxD) → bs.Perm ((ents n f).map (·.2)) → Q (.ref l) H'
def spSmall : Sp := fun vs H Q _ => ∃ p : Addr, vs = [.ref p] ∧ BagIn p H ∧ ∀ v (x : Bx) H', x.ok → Bgd p H H' → TD1 H' v (boxD x) → Q v H'
/-! pairs of ints written down -/
def tP (p : Int × Int) : TE := tTup (tCons (tC (.int p.1)) (tCons (tC (.int p.2)) tNil))
def tPs : List (Int × Int) → TA
  | [] => tNil
  | p :: l => tCons (tP p) (tPs l)
theorem da_ps {σ : L2.St} {H : Hp} : ∀ l : List (Int × Int), EvDa (tPs l) σ H (l.map prI)
  | [] => da_nil
  | p :: l => da_cons (ed_tup (da_cons (ed_int ev_c) (da_cons (ed_int ev_c) da_nil)) (by show 2 ≤ 100000; decide)) (da_ps l)
abbrev p8 : List (Int × Int) := [(0, 0), (1, 1), (2, 1), (1, 3), (4, 0), (0, 4), (6, 5), (2, 2)]
theorem p8_pos : ∀ q ∈ p8, 0 ≤ q.1 ∧ 0 ≤ q.2 := by decide
section
variable {p : Addr} {σ : L2.St} {H : Hp} {ta tb tc : TE} {R S : Int → Prop} {D : Ends} {tz : TS} {i j : Nat}
theorem q_parB (h1 : EvB p ta σ R) (h2 : EvB p tb σ S) (hb : BagIn p H) (k : ∀ m n H1, R m → S n → Bgd p H H1 → tz D ((σ.set i (some (.int m))).set j (some (.int n))) H1) : tSeq (tPar i j (tCons ta (tCons tb tNil))) tz D σ H :=
  h1 H hb _ fun m H1 r1 g1 => h2 H1 g1.bag _ fun n H2 r2 g2 => ⟨_, _, rfl, k m n H2 r1 r2 (g1.trans g2)⟩
theorem eb_if {A B c : Int} (ha : EvB p ta σ R) (hb : ∀ H, Val tb σ H (.int A)) (hc : ∀ H, Val tc σ H (.int B)) : EvB p (tIf (tTest (tOp rEq ta (tC (.int c)))) tb tc) σ (fun r => r = A ∨ r = B) := fun H1 x Q q =>
  ha H1 x _ fun n H2 _ g => ⟨rfl, _, rfl, by
    show (if decide (V.int n = V.int c) = true then tb σ H2 Q else tc σ H2 Q)
    by_cases e : decide (V.int n = V.int c) = true
    · rw [if_pos e]
      exact hb H2 _ (q A H2 (.inl rfl) g)
    · rw [if_neg e]
      exact hc H2 _ (q B H2 (.inr rfl) g)⟩
end
section
variable {P : Program} {w : World} {K : PySem.W.Frag} {mg : Str → Option Value} {base : Heap}
theorem scLBoxes : FnScope ["form", "entry"] ["form"] (defScope sLBoxes) := ⟨rfl, rfl, rfl, by decide +kernel, rfl, by decide +kernel, by decide +kernel⟩
theorem ok_lboxes {f : Addr} {fd : FuncData} (F : Fun K "_law_boxes_in" "_law_boxes_in" sLBoxes f fd) (CE : Cl P w K mg base 1 "_law_entries_in" spLEnt) : FnOk P w K mg base CX0 2 f fd ["form"] spLBoxes := by
  refine F.ok scLBoxes (fun vs H Q E h => ?_) (fun cdv A' outer s H vs Q E hr h => ?_)
  · obtain ⟨n, g, v, rfl, _⟩ := h
    rfl
  · obtain ⟨n, g, v, rfl, hx, ht, h3, k⟩ := h
    refine ⟨_, pss_one (ps_ret (pe_lc (own := [("entry", 1)]) (g := gName 1) (by rfl) scLBoxes.nd (pi_list (pe_cl CE hr (by decide) (by rfl) (pa_cons (pv 0) pa_nil)))
            (blkOk_by (own := [("entry", 1)]) (N := ["form", "entry"]) (sc := defScope sLBoxes) (by decide +kernel))
            (fun _ _ _ _ _ => pg_name (i := 1) scLBoxes.nd rfl (Or.inl rfl)) (fun _ _ _ _ _ => pts_nil)
            (te := tOp (rIxT K) (tVar 1) (tC (.int 1))) (fun _ _ _ _ _ => by exact (pe_ix ix_tup (pv 1) pe_int (fun _ _ => rfl))))), ?_⟩
    have el := ents_len n g ht
    have p4 : 4 ^ (n + 1) ≤ 256 := by
      match n, h3 with
      | 0, _ => decide
      | 1, _ => decide
      | 2, _ => decide
      | 3, _ => decide
    refine s_retQ (go_lcX (enc := entD) (P := fun es => es.Perm (ents n g)) (σ := [some v, none]) (H := H) (fun e : Int × Bx => boxD e.2) (fun H1 e1 Q q => ⟨_, rfl, n, g, v, rfl, hx.mono e1, ht, h3, fun l xs es H2 _ e2 hl tl pm => q l xs es H2 pm e2 hl tl⟩) (fun es pm => by rw [pm.length_eq]; omega) (fun es _ e _ H1 e1 => turn_nm (fun _ => rfl) (fun _ _ _ _ => et_yes) fun u H4 e4 x4 _ => ed_ix (ed_var rfl x4) ⟨by decide, rfl⟩) (Ex.refl H) fun l xs es H2 hl0 pm e2 hl tl => ?_)
    exact k l xs (es.map (·.2)) H2 hl0 e2 hl (by rw [List.map_map]; exact tl) (pm.map (·.2))
abbrev nmSmall : List Str := ["bag", "left", "bottom", "wide", "high", "far"]
theorem scSmall : FnScope nmSmall ["bag"] (defScope sSmall) := ⟨rfl, rfl, rfl, by decide +kernel, rfl, by decide +kernel, by decide +kernel⟩
theorem ok_small {f : Addr} {fd : FuncData} (F : Fun K "_law_small_box" "_law_small_box" sSmall f fd) (CD : Cl P w K mg base 1 "_law_draw" spDraw) (CO : Cl P w K mg base 2 "_law_one_of" spOne) : FnOk P w K mg base CX0 3 f fd ["bag"] spSmall := by
  refine F.ok scSmall (fun vs H Q E h => ?_) (fun cdv A' outer s H vs Q E hr h => ?_)
  · obtain ⟨p, rfl, _⟩ := h
    rfl
  · obtain ⟨p, rfl, hb, k⟩ := h
    refine ⟨_, (pss_cons (ps_par (i := 1) (j := 2) (by rfl) scSmall.nd rfl rfl (by decide) rfl rfl (pa_cons (pe_op op_sub (pe_cl CD hr (by decide) (by rfl) (pa_cons (pv 0) (pa_cons (pe_int) pa_nil))) pe_int) (pa_cons (pe_op op_sub (pe_cl CD hr (by decide) (by rfl) (pa_cons (pv 0) (pa_cons (pe_int) pa_nil))) pe_int) pa_nil)) (by rfl))
      (pss_cons (ps_asg (pe_cl CO hr (by decide) (by rfl) (pa_cons (pv 0) (pa_cons (pe_lst (pa_cons (pe_tup (pa_cons (pe_int) (pa_cons (pe_int) pa_nil))) (pa_cons (pe_tup (pa_cons (pe_int) (pa_cons (pe_int) pa_nil))) (pa_cons (pe_tup (pa_cons (pe_int) (pa_cons (pe_int) pa_nil))) (pa_cons (pe_tup (pa_cons (pe_int) (pa_cons (pe_int) pa_nil))) (pa_cons (pe_tup (pa_cons (pe_int) (pa_cons (pe_int) pa_nil))) (pa_cons (pe_tup (pa_cons (pe_int) (pa_cons (pe_int) pa_nil))) (pa_cons (pe_tup (pa_cons (pe_int) (pa_cons (pe_int) pa_nil))) (pa_cons (pe_tup (pa_cons (pe_int) (pa_cons (pe_int) pa_nil))) pa_nil))))))))) pa_nil))) (pg_tup (by rfl) (pgs_cons (pg_name (i := 3) scSmall.nd rfl (.inl rfl)) (pgs_cons (pg_name (i := 4) scSmall.nd rfl (.inl rfl)) pgs_nil))))
      (pss_cons (ps_set (i := 5) scSmall.nd rfl (Or.inl rfl) (pe_ifExp (pt_cmpR op_eq (pe_cl CD hr (by decide) (by rfl) (pa_cons (pv 0) (pa_cons (pe_int) pa_nil))) pe_int (nomark _)) (pe_op op_pow pe_int pe_int) pe_int))
      (pss_one (ps_ret (pe_tup (pa_cons (pv 1) (pa_cons (pe_op op_sub (pv 2) (pv 5)) (pa_cons (pe_op op_add (pv 1) (pv 3)) (pa_cons (pe_op op_add (pv 2) (pv 4)) pa_nil)))))))))), ?_⟩
    have d9 : EvB p (tOp (rI0 fun i j => .int (i - j)) (tCall spDraw [] E0 (tCons (tVar 0) (tCons (tC (.int 9)) tNil))) (tC (.int 4))) (L2.start nmSmall [.ref p]) (fun _ => True) := eb_op (T := fun _ => True) (eb_draw (N := 9) rfl (eb_c ⟨by decide, by decide, by decide⟩)) (eb_c (R := fun _ => True) trivial) fun _ _ _ _ => trivial
    refine q_parB d9 d9 hb fun l b H1 _ _ g1 => ?_
    refine ⟨_, rfl, (eds_lst (σ := [some (.ref p), some (.int l), some (.int b), none, none, none]) (da_ps p8) (by decide)) H1 (Ex.refl _) _ fun L xs H2 hL0 e2 hL tL => ?_⟩
    have g2 := bag_ex e2 g1.bag
    have nL := ne_bag g1.bag hL0
    obtain ⟨a0, b0, c0, hb2⟩ := g2.bag
    have tl := tL.len
    refine ⟨p, L, a0, b0, c0, xs, rfl, hb2, nL, hL, by rw [tl]; decide, by rw [tl]; decide, fun i v H3 hv g3 => ?_⟩
    obtain ⟨d, hd, t⟩ := tL.to hv
    rw [List.getElem?_map] at hd
    obtain ⟨q, hq, rfl⟩ := Option.map_eq_some_iff.mp hd
    obtain ⟨q1, q2⟩ := p8_pos q (List.mem_of_getElem? hq)
    obtain ⟨a, ys, rfl, ha, y⟩ := (t.by (g3.tk ⟨a0, b0, c0, hb2⟩)).tup
    obtain ⟨u1, ys1, rfl, y1, y⟩ := y.inv
    obtain ⟨u2, ys2, rfl, y2, y⟩ := y.inv
    cases y.inv0
    cases y1.int
    cases y2.int
    refine ⟨a, _, rfl, SqT.of ha, rfl, _, _, rfl, _, _, rfl, rfl, ?_⟩
    have g13 := (g1.trans g2).trans g3
    have fr : EvB p (tIf (tTest (tOp rEq (tCall spDraw [] E0 (tCons (tVar 0) (tCons (tC (.int 12)) tNil))) (tC (.int 0)))) (tOp (rI CPow fun i j => .int (i ^ j.toNat)) (tC (.int 10)) (tC (.int 25))) (tC (.int 0))) [some (.ref p), some (.int l), some (.int b), some (.int q.1), some (.int q.2), none] (fun r => r = 10 ^ 25 ∨ r = 0) :=
      eb_if (eb_draw (N := 12) rfl (eb_c ⟨by decide, by decide, by decide⟩)) (fun H Q q => ⟨10, 25, rfl, rfl, ⟨by decide, by decide, by decide⟩, q⟩) fun H Q q => q
    refine q_asgB fr g13.bag fun far H4 hf g4 => ?_
    have f0 : 0 ≤ far := by
      rcases hf with rfl | rfl
      · decide
      · decide
    have e4 : EvD (tTup (tCons (tVar 1) (tCons (tOp (rI0 fun i j => .int (i - j)) (tVar 2) (tVar 5)) (tCons (tOp (rI0 fun i j => .int (i + j)) (tVar 1) (tVar 3)) (tCons (tOp (rI0 fun i j => .int (i + j)) (tVar 2) (tVar 4)) tNil))))) [some (.ref p), some (.int l), some (.int b), some (.int q.1), some (.int q.2), some (.int far)] H4 (boxD ⟨l, b - far, l + q.1, b + q.2⟩) :=
      ed_tup (da_cons (ed_int (ev_var rfl)) (da_cons (ed_int (ev_op (ev_var rfl) (ev_var rfl) rv_I0)) (da_cons (ed_int (ev_op (ev_var rfl) (ev_var rfl) rv_I0)) (da_cons (ed_int (ev_op (ev_var rfl) (ev_var rfl) rv_I0)) da_nil)))) (by show 4 ≤ 100000; decide)
    refine s_retD e4 fun v H5 e5 x5 => k v ⟨l, b - far, l + q.1, b + q.2⟩ H5 ⟨?_, ?_⟩ ((g13.trans g4).trans (bag_ex e5 g4.bag)) x5
    · show l ≤ l + q.1
      omega
    · show b - far ≤ b + q.2
      omega
end
end Q
set_option Elab.async false
set_option linter.all false
set_option maxRecDepth 100000
set_option maxHeartbeats 4000000
/-! drawn entries, lots -/
namespace PB
theorem seven_nd (m : Nat) : ((List.range m).map fun (i : Nat) => (i : Int) * 7 - 9).Nodup := by
  unfold List.Nodup
  rw [List.pairwise_map]
  have z : (List.range m).Pairwise (· < ·) := List.pairwise_lt_range
  exact z.imp fun h => by omega
end PB
namespace Q
open PySem L2 PySem.Spec PyProof.Rows PySem.Calls
open Evl PB
abbrev sDEnt : Stmt := top 51
abbrev sLots : Stmt := top 52
def spDEnt : Sp := fun vs H Q _ => ∃ (p : Addr) (n : Nat), vs = [.ref p, .int (n : Int)] ∧ BagIn p H ∧ n ≤ 14 ∧
  ∀ l xs (es : List (Int × Bx)) H', H l = none → Bgd p H H' → H' l = some (.lst xs) → TDs H' xs (es.map entD) → es.length = n → (es.map (·.1)).Nodup → (∀ e ∈ es, e.2.ok) → Q (.ref l) H'
def spLots : Sp := fun vs H Q _ => ∃ (p L : Addr) (xs : List V) (ds : List PyData), vs = [.ref p, .ref L] ∧ BagIn p H ∧ L ≠ p ∧ H L = some (.lst xs) ∧ TDs H xs ds ∧ 5 ≤ ds.length ∧ ds.length ≤ 14 ∧
  ∀ l ys (lots : List (List PyData)) H', H l = none → Bgd p H H' → H' l = some (.lst ys) → TDs H' ys (lots.map PyData.tuple) → lots.flatten = ds → (∀ t ∈ lots, 2 ≤ t.length ∧ t.length ≤ 4) → 2 ≤ lots.length → 2 * lots.length + 1 ≤ ds.length → Q (.ref l) H'
section
variable {K : PySem.W.Frag} {p : Addr} {σ : L2.St} {H : Hp} {te ta tb tc : TE} {R S : Int → Prop} {D : Ends} {tz : TS} {i j : Nat} {L : Addr} {xs : List V} {ds : List PyData}
theorem eb_min {T : Int → Prop} (ha : EvB p ta σ R) (hb : EvB p tb σ S) (hr : ∀ m n, R m → S n → T (min m n)) : EvB p (tCB (fun xs H Q => ∃ i j, xs = [.int i, .int j] ∧ Q (.int (if j < i then j else i)) H) (tCons ta (tCons tb tNil))) σ T := fun H1 x Q q =>
  ha H1 x _ fun m H2 r2 g2 => hb H2 g2.bag _ fun n H3 r3 g3 => ⟨m, n, rfl, by
    have e : (if n < m then n else m) = min m n := by
      by_cases c : n < m
      · rw [if_pos c]
        omega
      · rw [if_neg c]
        omega
    rw [e]
    exact q _ H3 (hr m n r2 r3) (g2.trans g3)⟩
theorem eds_to {n : Nat} (h : Ev te σ H (.ref L)) (hL : H L = some (.lst xs)) (x : TDs H xs ds) (hb : Ev tb σ H (.int (n : Int))) (hn : n ≤ ds.length) : EvDs (tSl (rSlL K) te tNoPart (tPart tb)) σ H (ds.take n) := fun H1 e Q q =>
  h H1 e _ fun H2 e2 => hb H2 (e.trans e2) _ fun H3 e3 => ⟨_, rfl, L, xs, rfl, SqL.of (((e.trans e2).trans e3) _ _ hL), fun a ha => by
    have z : cutV xs none (some (n : Int)) = xs.take n := by
      unfold cutV
      rw [HT.sIx_nat, HT.sIx_none, List.drop_zero, Nat.sub_zero, Nat.min_eq_left (by rw [x.len]; exact hn)]
    rw [z]
    exact q a _ _ (fresh_back (e2.trans e3) ha) ((e2.trans e3).trans (Ex.new ha)) upd_same ((x.take n).mono (((e.trans e2).trans e3).trans (Ex.new ha)))⟩
theorem eds_from {n : Nat} (h : Ev te σ H (.ref L)) (hL : H L = some (.lst xs)) (x : TDs H xs ds) (hb : Ev tb σ H (.int (n : Int))) (hn : n ≤ ds.length) : EvDs (tSl (rSlL K) te (tPart tb) tNoPart) σ H (ds.drop n) := fun H1 e Q q =>
  h H1 e _ fun H2 e2 => hb H2 (e.trans e2) _ fun H3 e3 => ⟨_, rfl, L, xs, rfl, SqL.of (((e.trans e2).trans e3) _ _ hL), fun a ha => by
    have z : cutV xs (some (n : Int)) none = xs.drop n := by
      unfold cutV
      rw [HT.sIx_nat, HT.sIx_none, Nat.min_eq_left (by rw [x.len]; exact hn), List.take_of_length_le (by rw [List.length_drop]; exact Nat.le_refl _)]
    rw [z]
    exact q a _ _ (fresh_back (e2.trans e3) ha) ((e2.trans e3).trans (Ex.new ha)) upd_same ((x.drop n).mono (((e.trans e2).trans e3).trans (Ex.new ha)))⟩
/-- list(list) -/
theorem eds_listL (h : Ev te σ H (.ref L)) (hL : H L = some (.lst xs)) (x : TDs H xs ds) : EvDs (tCB (rListS K) (tCons te tNil)) σ H ds := fun H1 e Q q =>
  h H1 e _ fun H2 e2 => ⟨L, xs, rfl, .inl (SqL.of ((e.trans e2) _ _ hL)), fun l hl => q l xs _ (fresh_back e2 hl) (e2.trans (Ex.new hl)) upd_same (x.mono ((e.trans e2).trans (Ex.new hl)))⟩
end
section
variable {P : Program} {w : World} {K : PySem.W.Frag} {mg : Str → Option Value} {base : Heap}
abbrev nmDEnt : List Str := ["bag", "size", "numbers", "at", "number"]
theorem scDEnt : FnScope nmDEnt ["bag", "size"] (defScope sDEnt) := ⟨rfl, rfl, rfl, by decide +kernel, rfl, by decide +kernel, by decide +kernel⟩
theorem ok_dent {f : Addr} {fd : FuncData} (F : Fun K "_law_drawn_entries" "_law_drawn_entries" sDEnt f fd) (T : TB mg) (CS : Cl P w K mg base 2 "_law_shuffled" spShuf) (CB : Cl P w K mg base 3 "_law_small_box" spSmall) : FnOk P w K mg base CX0 4 f fd ["bag", "size"] spDEnt := by
  refine F.ok scDEnt (fun vs H Q E h => ?_) (fun cdv A' outer s H vs Q E hr h => ?_)
  · obtain ⟨p, n, rfl, _⟩ := h
    rfl
  · obtain ⟨p, n, rfl, hb, hn, k⟩ := h
    refine ⟨_, (pss_cons (ps_set (i := 2) scDEnt.nd rfl (Or.inl rfl) (pe_cl CS hr (by decide) (by rfl) (pa_cons (pv 0) (pa_cons (pe_lc (own := [("at", 3)]) (g := gName 3) (by rfl) scDEnt.nd (pi_range1 rfl T.range (pa_cons (pv 1) pa_nil))
            (blkOk_by (own := [("at", 3)]) (N := nmDEnt) (sc := defScope sDEnt) (by decide +kernel))
            (fun _ _ _ _ _ => pg_name (i := 3) scDEnt.nd rfl (Or.inl rfl)) (fun _ _ _ _ _ => pts_nil)
            (te := tOp (rI0 fun i j => .int (i - j)) (tOp (rI CMul fun i j => .int (i * j)) (tVar 3) (tC (.int 7))) (tC (.int 9))) (fun _ _ _ _ _ => by exact (pe_op op_sub (pe_op op_mul (pv 3) pe_int) pe_int))) pa_nil))))
      (pss_one (ps_ret (pe_lc (own := [("number", 4)]) (g := gName 4) (by rfl) scDEnt.nd (pi_list (pv 2))
            (blkOk_by (own := [("number", 4)]) (N := nmDEnt) (sc := defScope sDEnt) (by decide +kernel))
            (fun _ _ _ _ _ => pg_name (i := 4) scDEnt.nd rfl (Or.inl rfl)) (fun _ _ _ _ _ => pts_nil)
            (te := tTup (tCons (tVar 4) (tCons (tCall spSmall [] E0 (tCons (tVar 0) tNil)) tNil))) (fun _ _ _ _ _ => by exact (pe_tup (by exact (pa_cons (pv 4) (pa_cons (pe_cl CB hr (by decide) (by rfl) (by exact (pa_cons (pv 0) pa_nil))) pa_nil))))))))), ?_⟩
    have z := eds_lcR (te := tOp (rI0 fun i j => .int (i - j)) (tOp (rI CMul fun i j => .int (i * j)) (tVar 3) (tC (.int 7))) (tC (.int 9))) (g := gName 3) (tt := tYes) (vs := [3]) (ta := tCons (tVar 1) tNil) (σ := L2.start nmDEnt [.ref p, .int (n : Int)]) (H := H) (m := n) (fun _ => true) (fun (i : Nat) => PyData.int ((i : Int) * 7 - 9)) (ea_cons (ev_var rfl) ea_nil) (by omega) fun i hi => turn_nm (fun _ => rfl) (fun _ _ _ _ => et_yes) fun u H4 e4 x4 _ => by
      cases x4.int
      exact ed_int (ev_op (ev_op (ev_var rfl) ev_c (rv_I (.inr ⟨by decide, by decide⟩))) ev_c rv_I0)
    rw [filt_range] at z
    refine q_asgQ ⟨_, rfl, z H (Ex.refl _) _ fun L xs H1 hL0 e1 hL tL => ?_⟩
    have g1 := bag_ex e1 hb
    obtain ⟨a0, b0, c0, hb1⟩ := g1.bag
    have nLp := ne_bag hb hL0
    have ex : xs = ((List.range n).map fun (i : Nat) => (i : Int) * 7 - 9).map V.int := by
      have q : (List.range n).map (fun (i : Nat) => PyData.int ((i : Int) * 7 - 9)) = ((List.range n).map fun (i : Nat) => (i : Int) * 7 - 9).map PyData.int := by
        rw [List.map_map]
        rfl
      rw [q] at tL
      exact tL.ints_inv
    refine ⟨p, L, a0, b0, c0, xs, rfl, hb1, nLp, hL, by rw [ex, List.length_map, List.length_map, List.length_range]; omega, fun M ys H2 pm hM hM0 g2 => ?_⟩
    rw [ex] at pm
    obtain ⟨ns, rfl, pn⟩ := perm_map_inv pm rfl
    have g12 := g1.trans g2
    have nMp := ne_bag g1.bag hM0
    have hM00 := fresh_back e1 hM0
    have lns : ns.length = n := by rw [pn.length_eq, List.length_map, List.length_range]
    refine s_retQ ⟨_, rfl, M, rfl, ⟨_, SqL.of hM⟩, fun Dl hD => ?_⟩
    have nDM : M ≠ Dl := ne_of_none hM hD
    have nDp := ne_bag g12.bag hD
    have hD0 := g12.free hD
    refine lc_list (xs := ns.map V.int) (fun i H' => Bgd p H H' ∧ H' M = some (.lst (ns.map V.int)) ∧ ∃ (es : List (Int × Bx)) (acc : List V), H' Dl = some (.lst acc) ∧ TDs H' acc (es.map entD) ∧ es.map (·.1) = ns.take i ∧ ∀ e ∈ es, e.2.ok) ⟨g12.new hD, (by rw [upd_ne nDM]; exact hM), [], [], upd_same, .nil, by rw [List.take_zero]; rfl, fun e he => nomatch he⟩ (fun i H' _ c => SqL.of c.2.1) (fun i x H' hx c => ?_) fun H' c => ?_
    · obtain ⟨gc, hMc, es, acc, hDc, tD, em, eo⟩ := c
      rw [List.getElem?_map] at hx
      obtain ⟨nu, hnu, rfl⟩ := Option.map_eq_some_iff.mp hx
      refine ⟨rfl, yes_ite ?_⟩
      refine ⟨_, rfl, _, rfl, p, rfl, gc.bag, fun v bx H3 ok g3 tv => ⟨by show 2 ≤ sizeLine; decide, fun t ht => ?_⟩⟩
      have hD3 := g3.keep _ _ nDp hDc
      have eN := Ex.new (o := .tup [.int nu, v]) ht
      have lt := (List.getElem?_eq_some_iff.mp hnu).1
      have la := tD.len
      rw [List.length_map] at la
      have le := congrArg List.length em
      rw [List.length_map, List.length_take] at le
      refine ⟨acc, eN _ _ hD3, sz_lt (by omega), ?_, ?_, es ++ [(nu, bx)], acc ++ [.ref t], upd_same, ?_, ?_, fun e he => ?_⟩
      · exact ((gc.trans g3).trans (bag_ex eN g3.bag)).old hD0 nDp
      · rw [upd_ne nDM]
        exact eN _ _ (g3.keep _ _ nMp hMc)
      · rw [List.map_append]
        refine TDs.by (H := upd H3 t (.tup [.int nu, v])) (((tD.by (g3.tk gc.bag)).mono eN).app ?_) (upd_tup (eN _ _ hD3))
        exact TD1.mk upd_same ((TDs.int nu tv).mono eN)
      · rw [List.map_append, em, take_snoc hnu]
        rfl
      · rcases List.mem_append.mp he with he | he
        · exact eo e he
        · rw [List.mem_singleton.mp he]
          exact ok
    · obtain ⟨gc, hMc, es, acc, hDc, tD, em, eo⟩ := c
      rw [List.length_map, List.take_length] at em
      refine k Dl acc es H' hD0 gc hDc tD ?_ ?_ eo
      · have z := congrArg List.length em
        rw [List.length_map] at z
        omega
      · rw [em]
        exact pn.nodup_iff.mpr (seven_nd n)
end
end Q
set_option Elab.async false
set_option linter.all false
set_option maxRecDepth 100000
set_option maxHeartbeats 4000000
/-! lots of two to four -/
namespace Q
open PySem L2 PySem.Spec PyProof.Rows PySem.Calls
open Evl PB
section
variable {P : Program} {w : World} {K : PySem.W.Frag} {mg : Str → Option Value} {base : Heap}
abbrev nmLots : List Str := ["bag", "items", "found", "left", "size"]
theorem scLots : FnScope nmLots ["bag", "items"] (defScope sLots) := ⟨rfl, rfl, rfl, by decide +kernel, rfl, by decide +kernel, by decide +kernel⟩
theorem ok_lots {f : Addr} {fd : FuncData} (F : Fun K "_law_lots_of" "_law_lots_of" sLots f fd) (T : TB mg) (TM : TMm mg) (St : TSt mg) (CD : Cl P w K mg base 1 "_law_draw" spDraw) : FnOk P w K mg base CX0 2 f fd ["bag", "items"] spLots := by
  refine F.ok scLots (fun vs H Q E h => ?_) (fun cdv A' outer s H vs Q E hr h => ?_)
  · obtain ⟨p, L, xs, ds, rfl, _⟩ := h
    rfl
  · obtain ⟨p, L, xs, ds, rfl, hb, nLp, hL, tL, d5, d10, k⟩ := h
    refine ⟨_, (pss_cons (ps_par (i := 2) (j := 3) (by rfl) scLots.nd rfl rfl (by decide) rfl rfl (pa_cons (pe_lst pa_nil) (pa_cons (pe_callTy call_list_of (by rfl) T.list (by decide +kernel) (pa_cons (pv 1) pa_nil)) pa_nil)) (by rfl))
      (pss_cons (ps_while PassesOwn.never (pt_cmpR op_gt (pe_callB call_len_seq (by rfl) T.len PySem.boot_len (pa_cons (pv 3) pa_nil)) pe_int (nomark _))
        (pss_cons (ps_set (i := 4) scLots.nd rfl (Or.inl rfl) (pe_callB (call_min2 rfl) (by rfl) TM.min (by decide +kernel) (pa_cons (pe_op op_add pe_int (pe_cl CD hr (by decide) (by rfl) (pa_cons (pv 0) (pa_cons (pe_int) pa_nil)))) (pa_cons (pe_op op_sub (pe_callB call_len_seq (by rfl) T.len PySem.boot_len (pa_cons (pv 3) pa_nil)) pe_int) pa_nil))))
        (pss_cons (ps_expr (pe_bm PySem.F.plainAttrs_list PySem.F.slot_list_append PySem.F.type_list_append mt_append (pv 2) (pa_cons (pe_callTy call_tuple_of (by rfl) St.tuple (by decide +kernel) (pa_cons (pe_slice sl_list (pv 3) po_none (po_some (pv 4))) pa_nil)) pa_nil)))
        (pss_one (ps_set (i := 3) scLots.nd rfl (Or.inl rfl) (pe_slice sl_list (pv 3) (po_some (pv 4)) po_none))))))
      (pss_one (ps_ret (pe_op op_cat (pv 2) (pe_lst (pa_cons (pe_callTy call_tuple_of (by rfl) St.tuple (by decide +kernel) (pa_cons (pv 3) pa_nil)) pa_nil))))))), ?_⟩
    refine q_parL (ds := []) (es := ds) (eds_lst da_nil (by decide)) (fun H1 e1 => eds_listL (K := K) (ev_var rfl) (e1 _ _ hL) (tL.mono e1)) fun Fl L1 xF x1 H1 hF0 hL10 nF1 e1 hF tF hL1 tL1 => ?_
    cases tF.inv0
    have g1 := bag_ex e1 hb
    have nFp := ne_bag hb hF0
    have nL1p := ne_bag hb hL10
    refine q_while (fun m σ' H' => ∃ (Lf : Addr) (r : Option V) (ys zs : List V) (lots : List (List PyData)) (rest : List PyData), σ' = [some (.ref p), some (.ref L), some (.ref Fl), some (.ref Lf), r] ∧ Kp [p, Fl] H1 H' ∧ BagIn p H' ∧ H' Fl = some (.lst ys) ∧ TDs H' ys (lots.map PyData.tuple) ∧ Lf ≠ Fl ∧ Lf ≠ p ∧ H' Lf = some (.lst zs) ∧ TDs H' zs rest ∧ lots.flatten ++ rest = ds ∧
      (∀ t ∈ lots, 2 ≤ t.length ∧ t.length ≤ 4) ∧ 2 ≤ rest.length ∧ 2 * lots.length + rest.length ≤ ds.length ∧ (lots.length = 0 ∨ 2 * lots.length + 3 ≤ ds.length) ∧ m = rest.length) ds.length ⟨L1, none, [], x1, [], ds, rfl, Kp.refl _ _, g1.bag, hF, .nil, nF1.symm, nL1p, hL1, tL1, by simp, (fun t ht => nomatch ht), by omega, by simp, .inl rfl, rfl⟩ ?_
    rintro m σ' H' ⟨Lf, r, ys, zs, lots, rest, rfl, kp, bg, hFc, tFc, nLF, nLp2, hLc, tLc, fl, sz, r2, l2, l3, rfl⟩
    have yl := tFc.len
    rw [List.length_map] at yl
    refine ⟨_, et_test (ev_op (ev_lenL (ld_of (ev_var rfl) hLc tLc)) ev_c rv_I0), fun hb H5 e5 => ?_, fun hb H5 e5 => ?_⟩
    · have r5 : 5 ≤ rest.length := by
        have := of_decide_eq_true hb
        omega
      refine ⟨fun σ2 H2 => ∃ m', m' < _ ∧ _, fun _ _ h => h, ?_⟩
      have b5 := (bag_ex e5 bg).bag
      have dr : EvB p (tOp (rI0 fun i j => .int (i + j)) (tC (.int 2)) (tCall spDraw [] E0 (tCons (tVar 0) (tCons (tC (.int 3)) tNil)))) [some (.ref p), some (.ref L), some (.ref Fl), some (.ref Lf), r] (fun s => 2 ≤ s ∧ s ≤ 4) := eb_op (g := fun i j => i + j) (T := fun s => 2 ≤ s ∧ s ≤ 4) (eb_c (R := fun s => s = 2) rfl) (eb_draw (N := 3) rfl (eb_c ⟨by decide, by decide, by decide⟩)) fun a b ha hb => ⟨by omega, by omega⟩
      refine q_asgQ (dr H5 b5 _ fun s H6 hs g6 => ?_)
      have hL6 := g6.keep _ _ nLp2 (e5 _ _ hLc)
      have tL6 : TDs H6 zs rest := (tLc.mono e5).by (g6.tk b5)
      refine (ev_op (ev_lenL (σ := [some (.ref p), some (.ref L), some (.ref Fl), some (.ref Lf), r]) (te := tVar 3) (ld_of (ev_var rfl) hL6 tL6)) ev_c rv_I0) H6 (Ex.refl _) _ fun H7 e7 => ⟨s, _, rfl, ?_⟩
      obtain ⟨c, hc, c2, c4, c5⟩ : ∃ c : Nat, (if (rest.length : Int) - 2 < s then (rest.length : Int) - 2 else s) = (c : Int) ∧ 2 ≤ c ∧ c ≤ 4 ∧ c + 2 ≤ rest.length := by
        by_cases q : (rest.length : Int) - 2 < s
        · rw [if_pos q]
          exact ⟨rest.length - 2, by omega, by omega, by omega, by omega⟩
        · rw [if_neg q]
          exact ⟨s.toNat, by omega, by omega, by omega, by omega⟩
      show tSeq _ _ _ [some (.ref p), some (.ref L), some (.ref Fl), some (.ref Lf), some (.int (if (rest.length : Int) - 2 < s then (rest.length : Int) - 2 else s))] H7
      rw [hc]
      have hL7 := e7 _ _ hL6
      have tL7 := tL6.mono e7
      have hF7 := e7 _ _ (g6.keep _ _ nFp (e5 _ _ hFc))
      have tF7 : TDs H7 ys (lots.map PyData.tuple) := ((tFc.mono e5).by (g6.tk b5)).mono e7
      have kp7 : Kp [p, Fl] H1 H7 := fun l o n q => e7 _ _ (g6.keep _ _ (fun z => n (by rw [z]; simp)) (e5 _ _ (kp l o n q)))
      have b7 := (bag_ex e7 g6.bag).bag
      refine ⟨_, rfl, .inl ⟨rfl, _, SqL.of hF7⟩, ?_⟩
      refine ed_tupL (K := K) (σ := [some (.ref p), some (.ref L), some (.ref Fl), some (.ref Lf), some (.int (c : Int))]) (eds_to (K := K) (te := tVar 3) (tb := tVar 4) (n := c) (ev_var rfl) hL7 tL7 (ev_var rfl) (by omega)) H7 (Ex.refl _) _ fun v H8 e8 tv => ?_
      have hF8 := e8 _ _ hF7
      refine ⟨Fl, ys, v, rfl, rfl, hF8, sz_lt (by omega), ?_⟩
      have hL8 := e8 _ _ hL7
      have tkF := upd_tup (ys := ys ++ [v]) hF8
      have hL9 : upd H8 Fl (.lst (ys ++ [v])) Lf = some (.lst zs) := by
        rw [upd_ne nLF]
        exact hL8
      refine eds_from (K := K) (σ := [some (.ref p), some (.ref L), some (.ref Fl), some (.ref Lf), some (.int (c : Int))]) (te := tVar 3) (tb := tVar 4) (n := c) (ev_var rfl) hL9 ((tL7.mono e8).by tkF) (ev_var rfl) (by omega) _ (Ex.refl _) _ fun L2 z2 H9 hL20 e9 hL2 tL2 => ?_
      have n2F : L2 ≠ Fl := fun z => by
        rw [z, upd_same] at hL20
        cases hL20
      have nFp' : Fl ≠ p := nFp
      obtain ⟨a0, b0, c0, hb8⟩ := (bag_ex e8 b7).bag
      have hb8' : upd H8 Fl (.lst (ys ++ [v])) p = some (.lst [.int a0, .int b0, .int c0]) := by
        rw [upd_ne nFp.symm]
        exact hb8
      have n2p : L2 ≠ p := fun z => by
        rw [z, hb8'] at hL20
        cases hL20
      refine ⟨_, ?_, L2, some (.int (c : Int)), ys ++ [v], z2, lots ++ [rest.take c], rest.drop c, rfl, ((kp7.ex e8).upd (by simp)).ex e9, ⟨a0, b0, c0, e9 _ _ hb8'⟩, e9 _ _ upd_same, ?_, n2F, n2p, hL2, tL2, ?_, fun t ht => ?_, ?_, ?_, .inr ?_, rfl⟩
      · rw [List.length_drop]
        omega
      · rw [List.map_append]
        exact (((tF7.mono e8).app tv).by tkF).mono e9
      · rw [List.flatten_append, List.flatten_cons, List.flatten_nil, List.append_nil, List.append_assoc, List.take_append_drop, fl]
      · rcases List.mem_append.mp ht with ht | ht
        · exact sz t ht
        · rw [List.mem_singleton.mp ht, List.length_take]
          omega
      · rw [List.length_drop]
        omega
      · rw [List.length_append, List.length_singleton, List.length_drop]
        omega
      · rw [List.length_append, List.length_singleton]
        omega
    · have r4 : rest.length ≤ 4 := by
        have := of_decide_eq_false hb
        omega
      have l0 : lots.length ≠ 0 := fun z => by
        have z2 := List.length_eq_zero_iff.mp z
        rw [z2, List.flatten_nil, List.nil_append] at fl
        rw [fl] at r4
        omega
      have hF5 := e5 _ _ hFc
      have hL5 := e5 _ _ hLc
      have fin : EvDs (tLst (tCons (tCB (fun xs H Q => ∃ p ys, xs = [.ref p] ∧ ((SqL K H p ys ∧ ∀ l, H l = none → Q (.ref l) (upd H l (.tup ys))) ∨ (SqT K H p ys ∧ Q (.ref p) H))) (tCons (tVar 3) tNil)) tNil)) [some (.ref p), some (.ref L), some (.ref Fl), some (.ref Lf), r] H5 [.tuple rest] := eds_lst (da_cons (ed_tupV (ev_var rfl) hL5 (tLc.mono e5)) da_nil) (by show 1 ≤ 100000; decide)
      refine s_retQ ⟨_, rfl, fin H5 (Ex.refl _) _ fun l2 w2 H6 h0 e6 h6 t6 => ?_⟩
      have w1 := t6.len
      refine ⟨Fl, l2, ys, w2, rfl, rfl, e6 _ _ hF5, h6, sz_of (by rw [w1, yl]; show _ + 1 ≤ _; omega), fun q hq => ?_⟩
      have e56 := e5.trans e6
      have eN := Ex.new (o := .lst (ys ++ w2)) hq
      have kq : ∀ l o, l ≠ p → H l = some o → upd H6 q (.lst (ys ++ w2)) l = some o := fun l o n z => eN _ _ (e56 _ _ (kp l o (fun hm => by
        rcases List.mem_cons.mp hm with hm | hm
        · exact n hm
        · rw [List.mem_singleton.mp hm, hF0] at z
          cases z) (e1 _ _ z)))
      have hq0 : H q = none := by
        cases z : H q with
        | none => rfl
        | some o =>
          have nqp : q ≠ p := fun e => by
            obtain ⟨a0, b0, c0, hb6⟩ := (bag_ex e56 bg).bag
            rw [e, hb6] at hq
            cases hq
          have := e56 _ _ (kp q o (fun hm => by
            rcases List.mem_cons.mp hm with hm | hm
            · exact nqp hm
            · rw [List.mem_singleton.mp hm, hF0] at z
              cases z) (e1 _ _ z))
          rw [this] at hq
          cases hq
      refine k q (ys ++ w2) (lots ++ [rest]) _ hq0 ⟨(bag_ex eN (bag_ex e56 bg).bag).bag, kq⟩ upd_same ?_ ?_ (fun t ht => ?_) ?_ ?_
      · rw [List.map_append]
        exact (((tFc.mono e56).app t6).mono eN)
      · rw [List.flatten_append, List.flatten_cons, List.flatten_nil, List.append_nil, fl]
      · rcases List.mem_append.mp ht with ht | ht
        · exact sz t ht
        · rw [List.mem_singleton.mp ht]
          exact ⟨r2, r4⟩
      · rw [List.length_append, List.length_singleton]
        omega
      · rw [List.length_append, List.length_singleton]
        omega
end
end Q
set_option Elab.async false
set_option linter.all false
set_option maxRecDepth 100000
set_option maxHeartbeats 4000000
/-! forms made of levels -/
namespace PB
open PySem
theorem minL_perm {a b : List Int} (h : a.Perm b) : minL a = minL b := by
  by_cases e : a = []
  · rw [e] at h ⊢
    rw [List.Perm.eq_nil h.symm]
  · have e2 : b ≠ [] := fun z => e (by rw [z] at h; exact List.Perm.eq_nil h)
    have x := minL_in e
    have y := minL_in e2
    exact Int.le_antisymm (x.2 _ (h.mem_iff.mpr y.1)) (y.2 _ (h.mem_iff.mp x.1))
theorem maxL_perm {a b : List Int} (h : a.Perm b) : maxL a = maxL b := by
  by_cases e : a = []
  · rw [e] at h ⊢
    rw [List.Perm.eq_nil h.symm]
  · have e2 : b ≠ [] := fun z => e (by rw [z] at h; exact List.Perm.eq_nil h)
    have x := maxL_in e
    have y := maxL_in e2
    exact Int.le_antisymm (y.2 _ (h.mem_iff.mp x.1)) (x.2 _ (h.mem_iff.mpr y.1))
theorem joint_perm {a b : List Bx} (h : a.Perm b) : joint a = joint b := by
  unfold joint
  rw [minL_perm (h.map _), minL_perm (h.map _), maxL_perm (h.map _), maxL_perm (h.map _)]
def nodeG {k : Nat} (fs : List (Fm k)) : Fm (k + 1) := (fs.map fun f => (joint ((ents k f).map (·.2)), f) : List (Bx × Fm k))
theorem nodeG_data {k : Nat} (fs : List (Fm k)) : formD (k + 1) (nodeG fs) = .tuple [.str "node", .tuple (fs.map fun f => PyData.tuple [boxD (joint ((ents k f).map (·.2))), formD k f])] := by
  show PyData.tuple [.str "node", .tuple (List.map (fun p : Bx × Fm k => PyData.tuple [boxD p.1, formD k p.2]) (fs.map fun f => (joint ((ents k f).map (·.2)), f)))] = _
  rw [List.map_map]
  rfl
theorem nodeG_ents {k : Nat} (fs : List (Fm k)) : ents (k + 1) (nodeG fs) = fs.flatMap (ents k) := by
  show List.flatMap (fun p : Bx × Fm k => ents k p.2) (fs.map fun f => (joint ((ents k f).map (·.2)), f)) = _
  rw [List.flatMap_map]
structure Good (k : Nat) (f : Fm k) : Prop where
  two : 2 ≤ width k f
  sz : sizes k f
  le : least k f
  ok : boxesOk k f
  ne : ents k f ≠ []
theorem ents_ok : ∀ (k : Nat) (f : Fm k), boxesOk k f → ∀ e ∈ ents k f, e.2.ok
  | 0, _, h => h
  | k + 1, bs, h => fun e he => by
    obtain ⟨p, hp, he⟩ := List.mem_flatMap.mp he
    exact ents_ok k p.2 (h p hp).2 e he
theorem nodeG_br {k : Nat} {fs : List (Fm k)} {p : Bx × Fm k} (h : p ∈ brs (nodeG fs)) : ∃ f ∈ fs, p = (joint ((ents k f).map (·.2)), f) := by
  obtain ⟨f, hf, e⟩ := List.mem_map.mp (show p ∈ fs.map fun f => (joint ((ents k f).map (·.2)), f) from h)
  exact ⟨f, hf, e.symm⟩
theorem nodeG_w {k : Nat} (fs : List (Fm k)) : (brs (nodeG fs)).length = fs.length := by
  show (fs.map fun f => ((joint ((ents k f).map (·.2)), f) : Bx × Fm k)).length = _
  rw [List.length_map]
theorem nodeG_least {k : Nat} {fs : List (Fm k)} (h : ∀ f ∈ fs, Good k f) : least (k + 1) (nodeG fs) := fun p hp => by
  obtain ⟨f, hf, rfl⟩ := nodeG_br hp
  exact ⟨(h f hf).ne, rfl, (h f hf).le⟩
theorem nodeG_ok {k : Nat} {fs : List (Fm k)} (h : ∀ f ∈ fs, Good k f) : boxesOk (k + 1) (nodeG fs) := fun p hp => by
  obtain ⟨f, hf, rfl⟩ := nodeG_br hp
  refine ⟨joint_ok (fun z => (h f hf).ne (List.map_eq_nil_iff.mp z)) fun b hb => ?_, (h f hf).ok⟩
  obtain ⟨e, he, rfl⟩ := List.mem_map.mp hb
  exact ents_ok k f (h f hf).ok e he
theorem nodeG_sizes {k : Nat} {fs : List (Fm k)} (h : ∀ f ∈ fs, Good k f) (h2 : 2 ≤ fs.length) (h4 : fs.length ≤ 4) : sizes (k + 1) (nodeG fs) := ⟨by rw [nodeG_w]; exact h2, by rw [nodeG_w]; exact h4, fun p hp => by
  obtain ⟨f, hf, rfl⟩ := nodeG_br hp
  exact ⟨(h f hf).two, (h f hf).sz⟩⟩
theorem nodeG_good {k : Nat} {fs : List (Fm k)} (h : ∀ f ∈ fs, Good k f) (h2 : 2 ≤ fs.length) (h4 : fs.length ≤ 4) : Good (k + 1) (nodeG fs) := ⟨by
  show 2 ≤ (brs (nodeG fs)).length
  rw [nodeG_w]
  exact h2, nodeG_sizes h h2 h4, nodeG_least h, nodeG_ok h, fun z => by
  rw [nodeG_ents] at z
  match fs, h, h2 with
  | f :: r, h, _ =>
    rw [List.flatMap_cons] at z
    exact (h f List.mem_cons_self).ne (List.append_eq_nil_iff.mp z).1⟩
theorem leaf_good {t : List (Int × Bx)} (h2 : 2 ≤ t.length) (h4 : t.length ≤ 4) (ho : ∀ e ∈ t, e.2.ok) : Good 0 t := ⟨h2, h4, trivial, ho, fun z => by
  have z : t = [] := z
  rw [z] at h2
  cases h2⟩
theorem unflat {α β : Type} {f : α → β} : ∀ {lots : List (List β)} {l : List α}, lots.flatten = l.map f → ∃ ls : List (List α), lots = ls.map (fun t => t.map f) ∧ ls.flatten = l
  | [], l, h => ⟨[], rfl, by
    have z : l.map f = [] := h.symm
    rw [List.map_eq_nil_iff.mp z]
    rfl⟩
  | t :: r, l, h => by
    rw [List.flatten_cons] at h
    obtain ⟨l1, l2, rfl, e1, e2⟩ := List.map_eq_append_iff.mp h.symm
    obtain ⟨ls, e3, e4⟩ := unflat (f := f) (lots := r) (l := l2) e2.symm
    exact ⟨l1 :: ls, by rw [List.map_cons, ← e3, e1], by rw [List.flatten_cons, e4]⟩
end PB
namespace Q
open PySem L2 PySem.Spec PyProof.Rows PySem.Calls
open Evl PB
section
variable {K : PySem.W.Frag} {p : Addr} {σ : L2.St} {H : Hp} {te tl ta tb : TE} {t t1 t2 : TT} {tu tz : TS} {D : Ends} {g : TG} {vs : List Nat} {wi : L2.TI} {E : XK} {j : Nat}
theorem q_whileG (W : Nat → L2.St → Hp → Prop) (m0 : Nat) (h0 : W m0 σ H) (hs : ∀ m σ' H', W m σ' H' → t σ' H' fun b H1 => if b = true then ∃ N : L2.St → Hp → Prop, (∀ σ2 H2, N σ2 H2 → ∃ m', m' < m ∧ W m' σ2 H2) ∧ tu { D with nx := N, ct := N, bk := tz D } σ' H1 else tz D σ' H1) : tSeq (tWhile t tu) tz D σ H := ⟨W, ⟨m0, h0⟩, hs⟩
theorem q_whenG (h : t σ H fun b H1 => if b = true then tu { D with nx := tz D } σ H1 else tz D σ H1) : tSeq (tIfS t tu tNext) tz D σ H := h
/-- a test, and one more or a draw -/
theorem t_andor {b1 b2 : Bool} {R : Int → Prop} {c : Int} (h1 : EvT t1 σ H b1) (h2 : ∀ H1, Ex H H1 → EvT t2 σ H1 b2) (hb : BagIn p H) (dr : EvB p ta σ R) {Q : Bool → Hp → Prop} (q : ∀ b H', Bgd p H H' → (b = true → b1 = true) → (b = false → b1 = false ∨ b2 = false) → Q b H') :
    tAnd t1 (tOr t2 (tTest (tOp rEq ta (tC (.int c))))) σ H Q := h1 H (Ex.refl _) _ fun H1 e1 => by
  show (if b1 = true then tOr t2 (tTest (tOp rEq ta (tC (.int c)))) σ H1 Q else Q false H1)
  cases b1 with
  | false => exact q false H1 (bag_ex e1 hb) (fun z => nomatch z) fun _ => .inl rfl
  | true =>
    refine h2 H1 e1 H1 (Ex.refl _) _ fun H2 e2 => ?_
    have g2 := bag_ex (e1.trans e2) hb
    show (if b2 = true then Q true H2 else tTest (tOp rEq ta (tC (.int c))) σ H2 Q)
    cases b2 with
    | true => exact q true H2 g2 (fun _ => rfl) fun z => nomatch z
    | false => exact dr H2 g2.bag _ fun n H3 _ g3 => ⟨rfl, _, rfl, q _ H3 (g2.trans g3) (fun _ => rfl) fun _ => .inr rfl⟩
theorem t_orand {b1 b2 : Bool} {R : Int → Prop} {c : Int} (h1 : EvT t1 σ H b1) (h2 : ∀ H1, Ex H H1 → EvT t2 σ H1 b2) (hb : BagIn p H) (dr : EvB p ta σ R) {Q : Bool → Hp → Prop} (q : ∀ b H', Bgd p H H' → (b = true → b1 = true ∨ b2 = true) → (b = false → b1 = false) → Q b H') :
    tOr t1 (tAnd t2 (tTest (tOp rEq ta (tC (.int c))))) σ H Q := h1 H (Ex.refl _) _ fun H1 e1 => by
  show (if b1 = true then Q true H1 else tAnd t2 (tTest (tOp rEq ta (tC (.int c)))) σ H1 Q)
  cases b1 with
  | true => exact q true H1 (bag_ex e1 hb) (fun _ => .inl rfl) (fun z => nomatch z)
  | false =>
    refine h2 H1 e1 H1 (Ex.refl _) _ fun H2 e2 => ?_
    have g2 := bag_ex (e1.trans e2) hb
    show (if b2 = true then tTest (tOp rEq ta (tC (.int c))) σ H2 Q else Q false H2)
    cases b2 with
    | false => exact q false H2 g2 (fun z => nomatch z) (fun _ => rfl)
    | true => exact dr H2 g2.bag _ fun n H3 _ g3 => ⟨rfl, _, rfl, q _ H3 (g2.trans g3) (fun _ => .inr rfl) (fun _ => rfl)⟩
/-- a comprehension over a list that stands in a heap of the reading's choice -/
theorem go_lcG {α : Type} {enc : α → PyData} {P : List α → Hp → Prop} (F : α → PyData) {Q : VK} (h : ∀ Q' : VK, (∀ a xs es H2, P es H2 → H2 a = some (.lst xs) → TDs H2 xs (es.map enc) → Q' (.ref a) H2) → tl σ H Q') (hz : ∀ es H2, P es H2 → es.length ≤ 40000)
    (hs : ∀ es H2, P es H2 → ∀ e ∈ es, Turn1 g tYes te vs σ H2 enc (fun _ => true) F e) (q : ∀ l xs es H2 H3, P es H2 → Ex H2 H3 → H2 l = none → H3 l = some (.lst xs) → TDs H3 xs (es.map F) → Q (.ref l) H3) : tLc (iList K tl) g tYes te vs σ H Q :=
  h _ fun a xs es H2 hP ha x => by
    have z := eds_it (te := te) (g := g) (tt := tYes) (vs := vs) (wi := iList K (tC (.ref a))) (σ := σ) (H := H2) (es := es) (enc := enc) (fun _ => true) F (ei_list (ld_of ev_c ha x)) (hz es H2 hP) (hs es H2 hP)
    rw [filt_all] at z
    exact z H2 (Ex.refl _) Q fun l ls H3 hn e3 h3 y => q l ls es H2 H3 hP e3 hn h3 y
theorem eds_if {b : Bool} {ds : List PyData} (h : EvT t σ H b) (h1 : b = true → EvDs ta σ H ds) (h2 : b = false → EvDs tb σ H ds) : EvDs (tIf t ta tb) σ H ds := fun H1 e Q q => h H1 e _ fun H2 e2 => by
  cases b with
  | true => exact h1 rfl H2 (e.trans e2) _ fun l xs H3 hn e3 => q l xs H3 (fresh_back e2 hn) (e2.trans e3)
  | false => exact h2 rfl H2 (e.trans e2) _ fun l xs H3 hn e3 => q l xs H3 (fresh_back e2 hn) (e2.trans e3)
/-- the joint of the boxes in a form -/
theorem ed_jb {k : Nat} {f : Fm k} (h : EvD te σ H (formD k f)) (ht : thin k f) (h3 : k ≤ 3) (hn : ents k f ≠ []) : EvD (tCall spAround [] E (tCons (tCall spLBoxes [] E (tCons te tNil)) tNil)) σ H (boxD (joint ((ents k f).map (·.2)))) := fun H1 e Q q =>
  h H1 e _ fun v H2 e2 x => ⟨k, f, v, rfl, x, ht, h3, fun l xs bs H3 _ e3 hl tl pm => by
    have el := ents_len k f ht
    have p4 : 4 ^ (k + 1) ≤ 256 := by
      match k, h3 with
      | 0, _ => decide
      | 1, _ => decide
      | 2, _ => decide
      | 3, _ => decide
    have bl := pm.length_eq
    rw [List.length_map] at bl
    refine ⟨l, xs, bs, rfl, hl, tl, fun z => hn ?_, by omega, fun u H4 e4 y => q u H4 ((e2.trans e3).trans e4) (by rw [← joint_perm pm]; exact y)⟩
    rw [z] at bl
    exact List.eq_nil_of_length_eq_zero bl.symm⟩
/-- [(joint box of one, one) for one in ..] -/
theorem eds_level {k : Nat} {fs : List (Fm k)} (h : EvI wi σ H (fs.map (formD k))) (hl : fs.length ≤ 100) (hg : ∀ f ∈ fs, Good k f) (h3 : k ≤ 3) (hw : ∀ x, wipe ((wipe σ vs).set j (some x)) vs = wipe σ vs) (hj : ∀ x, ((wipe σ vs).set j (some x))[j]? = some (some x)) :
    EvDs (tLc wi (gName j) tYes (tTup (tCons (tCall spAround [] E (tCons (tCall spLBoxes [] E (tCons (tVar j) tNil)) tNil)) (tCons (tVar j) tNil))) vs) σ H (fs.map fun f => PyData.tuple [boxD (joint ((ents k f).map (·.2))), formD k f]) := by
  have z := eds_it (te := tTup (tCons (tCall spAround [] E (tCons (tCall spLBoxes [] E (tCons (tVar j) tNil)) tNil)) (tCons (tVar j) tNil))) (g := gName j) (tt := tYes) (vs := vs) (wi := wi) (σ := σ) (H := H) (es := fs) (enc := formD k) (fun _ => true) (fun f => PyData.tuple [boxD (joint ((ents k f).map (·.2))), formD k f]) h (by omega) fun f hf => turn_nm hw (fun _ _ _ _ => et_yes) fun u H1 e1 x _ =>
    ed_tup (da_cons (ed_jb (ed_var (hj u) x) (sizes_thin k f (hg f hf).sz) h3 (hg f hf).ne) (da_cons (ed_var (hj u) x) da_nil)) (by show 2 ≤ 100000; decide)
  rw [filt_all] at z
  exact z
end
end Q
set_option Elab.async false
set_option linter.all false
set_option maxRecDepth 100000
set_option maxHeartbeats 4000000
/-! drawn forms -/
namespace Q
open PySem L2 PySem.Spec PyProof.Rows PySem.Calls
open Evl PB
abbrev sDForm : Stmt := top 53
def spDForm : Sp := fun vs H Q _ => ∃ (p L : Addr) (xs : List V) (es : List (Int × Bx)), vs = [.ref p, .ref L] ∧ BagIn p H ∧ L ≠ p ∧ H L = some (.lst xs) ∧ TDs H xs (es.map entD) ∧ es.length ≤ 14 ∧ (∀ e ∈ es, e.2.ok) ∧
  ∀ v (n : Nat) (f : Fm n) H', Bgd p H H' → TD1 H' v (formD n f) → ents n f = es → sizes n f → least n f → boxesOk n f → n ≤ 2 → Q v H'
section
variable {P : Program} {w : World} {K : PySem.W.Frag} {mg : Str → Option Value} {base : Heap}
abbrev nmDForm : List Str := ["bag", "entries", "level", "lots", "lot", "one"]
theorem scDForm : FnScope nmDForm ["bag", "entries"] (defScope sDForm) := ⟨rfl, rfl, rfl, by decide +kernel, rfl, by decide +kernel, by decide +kernel⟩
abbrev tTupOf (K : PySem.W.Frag) (te : TE) : TE := tCB (fun xs H Q => ∃ p ys, xs = [.ref p] ∧ ((SqL K H p ys ∧ ∀ l, H l = none → Q (.ref l) (upd H l (.tup ys))) ∨ (SqT K H p ys ∧ Q (.ref p) H))) (tCons te tNil)
theorem ok_dform {f : Addr} {fd : FuncData} (F : Fun K "_law_drawn_form" "_law_drawn_form" sDForm f fd) (T : TB mg) (St : TSt mg) (CD : Cl P w K mg base 1 "_law_draw" spDraw) (CL : Cl P w K mg base 2 "_law_lots_of" spLots) (CB : Cl P w K mg base 2 "_law_boxes_in" spLBoxes) (CJ : Cl P w K mg base 1 "_law_joint_box" spAround) : FnOk P w K mg base CX0 3 f fd ["bag", "entries"] spDForm := by
  refine F.ok scDForm (fun vs H Q E h => ?_) (fun cdv A' outer s H vs Q E hr h => ?_)
  · obtain ⟨p, L, xs, es, rfl, _⟩ := h
    rfl
  · obtain ⟨p, L, xs, es, rfl, hb, nLp, hL, tL, e10, eo, k⟩ := h
    refine ⟨_, (pss_cons (ps_if (pw_and (pt_cmpR op_lt (pe_callB call_len_seq (by rfl) T.len PySem.boot_len (pa_cons (pv 1) pa_nil)) pe_int (nomark _)) (pw_and1 (pw_or (pt_cmpR op_lt (pe_callB call_len_seq (by rfl) T.len PySem.boot_len (pa_cons (pv 1) pa_nil)) pe_int (nomark _)) (pw_or1 (pt_cmpR op_eq (pe_cl CD hr (by decide) (by rfl) (pa_cons (pv 0) (pa_cons (pe_int) pa_nil))) pe_int (nomark _)))).pt)).pt (pss_one (ps_ret (pe_tup (pa_cons (pe_str) (pa_cons (pe_callTy call_tuple_of (by rfl) St.tuple (by decide +kernel) (pa_cons (pv 1) pa_nil)) pa_nil))))) pss_nil)
      (pss_cons (ps_setLc (i := 2) (own := [("lot", 4)]) (g := gName 4) (by rfl) scDForm.nd rfl rfl (sw_true rfl rfl rfl (by decide +kernel)) (pi_list (pe_ifExp (pt_cmpR op_gt (pe_callB call_len_seq (by rfl) T.len PySem.boot_len (pa_cons (pv 1) pa_nil)) pe_int (nomark _)) (pe_cl CL hr (by decide) (by rfl) (pa_cons (pv 0) (pa_cons (pv 1) pa_nil))) (pe_lst (pa_cons (pe_callTy call_tuple_of (by rfl) St.tuple (by decide +kernel) (pa_cons (pe_slice sl_list (pv 1) po_none (po_some pe_int)) pa_nil)) (pa_cons (pe_callTy call_tuple_of (by rfl) St.tuple (by decide +kernel) (pa_cons (pe_slice sl_list (pv 1) (po_some pe_int) po_none) pa_nil)) pa_nil)))))
            (blkOk_by (own := [("lot", 4)]) (N := nmDForm) (sc := defScope sDForm) (by decide +kernel))
            (fun _ _ _ _ _ => pg_name (i := 4) scDForm.nd rfl (Or.inl rfl)) (fun _ _ _ _ _ => pts_nil)
            (te := tTup (tCons (tC (.str "leaf")) (tCons (tVar 4) tNil))) (fun _ _ _ _ _ => by exact (pe_tup (by exact (pa_cons (pe_str) (pa_cons (pv 4) pa_nil))))))
      (pss_cons (ps_while PassesOwn.never (pw_or (pt_cmpR op_gt (pe_callB call_len_seq (by rfl) T.len PySem.boot_len (pa_cons (pv 2) pa_nil)) pe_int (nomark _)) (pw_or1 (pw_and (pt_cmpR op_gt (pe_callB call_len_seq (by rfl) T.len PySem.boot_len (pa_cons (pv 2) pa_nil)) pe_int (nomark _)) (pw_and1 (pt_cmpR op_eq (pe_cl CD hr (by decide) (by rfl) (pa_cons (pv 0) (pa_cons (pe_int) pa_nil))) pe_int (nomark _)))).pt)).pt
        (pss_cons (ps_set (i := 3) scDForm.nd rfl (Or.inl rfl) (pe_ifExp (pt_cmpR op_gt (pe_callB call_len_seq (by rfl) T.len PySem.boot_len (pa_cons (pv 2) pa_nil)) pe_int (nomark _)) (pe_cl CL hr (by decide) (by rfl) (pa_cons (pv 0) (pa_cons (pv 2) pa_nil))) (pe_lst (pa_cons (pe_callTy call_tuple_of (by rfl) St.tuple (by decide +kernel) (pa_cons (pe_slice sl_list (pv 2) po_none (po_some pe_int)) pa_nil)) (pa_cons (pe_callTy call_tuple_of (by rfl) St.tuple (by decide +kernel) (pa_cons (pe_slice sl_list (pv 2) (po_some pe_int) po_none) pa_nil)) pa_nil)))))
        (pss_one (ps_setLc (i := 2) (own := [("lot", 4)]) (g := gName 4) (by rfl) scDForm.nd rfl rfl (sw_true rfl rfl rfl (by decide +kernel)) (pi_list (pv 3))
            (blkOk_by (own := [("lot", 4)]) (N := nmDForm) (sc := defScope sDForm) (by decide +kernel))
            (fun _ _ _ _ _ => pg_name (i := 4) scDForm.nd rfl (Or.inl rfl)) (fun _ _ _ _ _ => pts_nil)
            (te := tTup (tCons (tC (.str "node")) (tCons (tTupOf K (tLc (iTup K (tVar 4)) (gName 5) tYes (tTup (tCons (tCall spAround [] E0 (tCons (tCall spLBoxes [] E0 (tCons (tVar 5) tNil)) tNil)) (tCons (tVar 5) tNil))) [5])) tNil)))
            (fun _ _ _ _ _ => by exact (pe_tup (by exact (pa_cons (pe_str) (pa_cons (pe_callTy call_tuple_of (by rfl) St.tuple (by decide +kernel) (by exact (pa_cons (pe_lc (own := [("one", 5)]) (g := gName 5) (by rfl) scDForm.nd (pi_tup (pv 4))
              (blkOk_by (by rfl)) (fun _ _ _ _ _ => pg_name (i := 5) scDForm.nd rfl (Or.inl rfl)) (fun _ _ _ _ _ => pts_nil)
              (te := tTup (tCons (tCall spAround [] E0 (tCons (tCall spLBoxes [] E0 (tCons (tVar 5) tNil)) tNil)) (tCons (tVar 5) tNil))) (fun _ _ _ _ _ => by exact (pe_tup (by exact (pa_cons (pe_cl CJ hr (by decide) (by rfl) (by exact (pa_cons (pe_cl CB hr (by decide) (by rfl) (by exact (pa_cons (pv 5) pa_nil))) pa_nil))) (pa_cons (pv 5) pa_nil)))))) pa_nil))) pa_nil)))))))))
      (pss_one (ps_ret (pe_tup (pa_cons (pe_str) (pa_cons (pe_callTy call_tuple_of (by rfl) St.tuple (by decide +kernel) (pa_cons (pe_lc (own := [("one", 5)]) (g := gName 5) (by rfl) scDForm.nd (pi_list (pv 2))
            (blkOk_by (own := [("one", 5)]) (N := nmDForm) (sc := defScope sDForm) (by decide +kernel))
            (fun _ _ _ _ _ => pg_name (i := 5) scDForm.nd rfl (Or.inl rfl)) (fun _ _ _ _ _ => pts_nil)
            (te := tTup (tCons (tCall spAround [] E0 (tCons (tCall spLBoxes [] E0 (tCons (tVar 5) tNil)) tNil)) (tCons (tVar 5) tNil))) (fun _ _ _ _ _ => by exact (pe_tup (by exact (pa_cons (pe_cl CJ hr (by decide) (by rfl) (by exact (pa_cons (pe_cl CB hr (by decide) (by rfl) (by exact (pa_cons (pv 5) pa_nil))) pa_nil))) (pa_cons (pv 5) pa_nil)))))) pa_nil)) pa_nil)))))))), ?_⟩
    have d2 : ∀ σ : L2.St, σ[0]? = some (some (.ref p)) → EvB p (tCall spDraw [] E0 (tCons (tVar 0) (tCons (tC (.int 2)) tNil))) σ (fun r => 0 ≤ r ∧ r < 2) := fun σ h => eb_draw (N := 2) h (eb_c ⟨by decide, by decide, by decide⟩)
    have lL : ∀ H1, Ex H H1 → Ev (tCB (rLn K) (tCons (tVar 1) tNil)) [some (.ref p), some (.ref L), none, none, none, none] H1 (.int ((es.length : Nat) : Int)) := fun H1 e1 => ev_is (ev_lenL (ld_of (ev_var rfl) (e1 _ _ hL) (tL.mono e1))) (by rw [List.length_map])
    refine q_whenG (t_andor (σ := [some (.ref p), some (.ref L), none, none, none, none]) (et_test (ev_op (lL H (Ex.refl _)) ev_c rv_I0)) (fun H1 e1 => et_test (ev_op (lL H1 e1) ev_c rv_I0)) hb (d2 _ rfl) fun b H1 g1 hbt hbf => ?_)
    have hL1 := g1.keep _ _ nLp hL
    have tL1 : TDs H1 xs (es.map entD) := tL.by (g1.tk hb)
    cases b with
    | true =>
      rw [if_pos rfl]
      have l4 : es.length ≤ 4 := by
        have := of_decide_eq_true (hbt rfl)
        omega
      have fin : EvD (tTup (tCons (tC (.str "leaf")) (tCons (tTupOf K (tVar 1)) tNil))) [some (.ref p), some (.ref L), none, none, none, none] H1 (formD 0 es) := ed_tup (da_cons (ed_str ev_c) (da_cons (ed_tupV (ev_var rfl) hL1 tL1) da_nil)) (by show 2 ≤ 100000; decide)
      exact s_retD fin fun v H2 e2 x => k v 0 es H2 (g1.trans (bag_ex e2 g1.bag)) x rfl l4 trivial eo (by decide)
    | false =>
      rw [if_neg (by decide)]
      have l4 : 4 ≤ es.length := by
        rcases hbf rfl with z | z
        · have := of_decide_eq_false z
          omega
        · have := of_decide_eq_false z
          omega
      -- the first level: leaves
      refine q_asgQ (go_lcG (enc := fun t : List (Int × Bx) => PyData.tuple (t.map entD)) (P := fun ls H2 => Bgd p H1 H2 ∧ ls.flatten = es ∧ (∀ t ∈ ls, 2 ≤ t.length ∧ t.length ≤ 4) ∧ 2 ≤ ls.length ∧ ls.length ≤ 6) (fun t => formD 0 t) (fun Q' q => ?_) (fun ls H2 hP => by omega) (fun ls H2 hP t ht => turn_nm (fun _ => rfl) (fun _ _ _ _ => et_yes) fun u H4 e4 x4 _ => ed_tup (da_cons (ed_str ev_c) (da_cons (ed_var rfl x4) da_nil)) (by show 2 ≤ 100000; decide)) fun l lx ls H2 H3 hP e3 hl0 hl tl => ?_)
      · have b1 := g1.bag
        refine (et_test (ev_op (ev_is (ev_lenL (K := K) (σ := [some (.ref p), some (.ref L), none, none, none, none]) (te := tVar 1) (ld_of (ev_var rfl) hL1 tL1)) (by rw [List.length_map])) (ev_c (v := .int 4)) rv_I0)) H1 (Ex.refl _) _ fun H2 e2 => ?_
        have g12 := bag_ex e2 b1
        by_cases c : decide ((4 : Int) < ((es.length : Nat) : Int)) = true
        · show (if decide ((4 : Int) < ((es.length : Nat) : Int)) = true then _ else _)
          rw [if_pos c]
          have c5 := of_decide_eq_true c
          refine ⟨_, rfl, _, rfl, p, L, xs, es.map entD, rfl, g12.bag, nLp, e2 _ _ hL1, tL1.mono e2, by rw [List.length_map]; omega, by rw [List.length_map]; exact e10, fun l ys lots H3 hl0 g3 hl tt fl sz l2 l4 => ?_⟩
          obtain ⟨ls, rfl, fe⟩ := unflat fl
          rw [List.length_map] at l2
          rw [List.length_map, List.length_map] at l4
          rw [List.map_map] at tt
          refine q l ys ls H3 ⟨g12.trans g3, fe, fun t ht => ?_, l2, by omega⟩ hl tt
          have z := sz (t.map entD) (List.mem_map.mpr ⟨t, ht, rfl⟩)
          rw [List.length_map] at z
          exact z
        · show (if decide ((4 : Int) < ((es.length : Nat) : Int)) = true then _ else _)
          rw [if_neg c]
          have c4 : es.length = 4 := by
            have := of_decide_eq_false (eq_false_of_ne_true c)
            omega
          have z := eds_lst (σ := [some (.ref p), some (.ref L), none, none, none, none]) (H := H2) (da_cons (ed_tupL (K := K) (eds_to (K := K) (te := tVar 1) (tb := tC (.int 2)) (n := 2) (ev_var rfl) (e2 _ _ hL1) (tL1.mono e2) (ev_is (ev_c (v := .int 2)) rfl) (by rw [List.length_map]; omega))) (da_cons (ed_tupL (K := K) (eds_from (K := K) (te := tVar 1) (tb := tC (.int 2)) (n := 2) (ev_var rfl) (e2 _ _ hL1) (tL1.mono e2) (ev_is (ev_c (v := .int 2)) rfl) (by rw [List.length_map]; omega))) da_nil)) (by show 2 ≤ 100000; decide)
          refine z H2 (Ex.refl _) _ fun l ys H3 _ e3 hl tt => q l ys [es.take 2, es.drop 2] H3 ⟨g12.trans (bag_ex e3 g12.bag), by simp, fun t ht => ?_, by show 2 ≤ 2; decide, by show 2 ≤ 6; decide⟩ hl ?_
          · rcases List.mem_cons.mp ht with rfl | ht
            · rw [List.length_take]
              omega
            · rw [List.mem_singleton.mp ht, List.length_drop]
              omega
          · rw [← List.map_take, ← List.map_drop] at tt
            exact tt
      · obtain ⟨g2, fe, sz, l2, l4'⟩ := hP
        have g3 := g2.trans (bag_ex e3 g2.bag)
        have nlp := ne_bag g2.bag hl0
        have tk13 : ∀ t ∈ ls, Good 0 t := fun t ht => leaf_good (sz t ht).1 (sz t ht).2 fun e he => eo e (by
          rw [← fe]
          exact List.mem_flatten.mpr ⟨t, ht, he⟩)
        refine q_whileG (fun m σ' H' => ∃ (lv : Addr) (r3 : Option V) (k : Nat) (fs : List (Fm k)) (ys : List V), σ' = [some (.ref p), some (.ref L), some (.ref lv), r3, none, none] ∧ Bgd p H1 H' ∧ lv ≠ p ∧ H' lv = some (.lst ys) ∧ TDs H' ys (fs.map (formD k)) ∧ fs.flatMap (ents k) = es ∧ (∀ f ∈ fs, Good k f) ∧ 2 ≤ fs.length ∧ fs.length ≤ 6 ∧ k ≤ 1 ∧ (k = 1 → fs.length = 2) ∧ m = 1 - k) 1 ⟨l, none, 0, ls, lx, rfl, g3, nlp, hl, tl, by
          show List.flatMap (fun t : List (Int × Bx) => t) ls = es
          rw [List.flatMap_def, ← fe]
          congr 1
          exact List.map_id' ls, tk13, l2, l4', by decide, (fun z => nomatch z), rfl⟩ ?_
        rintro m σ' H' ⟨lv, r3, kk, fs, ys, rfl, gc, nvp, hv, tv, fes, gd, f2, f4, k1, k2, rfl⟩
        have lV : ∀ H2, Ex H' H2 → Ev (tCB (rLn K) (tCons (tVar 2) tNil)) [some (.ref p), some (.ref L), some (.ref lv), r3, none, none] H2 (.int ((fs.length : Nat) : Int)) := fun H2 e2 => ev_is (ev_lenL (ld_of (ev_var rfl) (e2 _ _ hv) (tv.mono e2))) (by rw [List.length_map])
        refine t_orand (σ := [some (.ref p), some (.ref L), some (.ref lv), r3, none, none]) (et_test (ev_op (lV H' (Ex.refl _)) ev_c rv_I0)) (fun H2 e2 => et_test (ev_op (lV H2 e2) ev_c rv_I0)) gc.bag (d2 _ rfl) fun b H4 g4 hbt hbf4 => ?_
        have hv4 := g4.keep _ _ nvp hv
        have tv4 : TDs H4 ys (fs.map (formD kk)) := tv.by (g4.tk gc.bag)
        have gc4 := gc.trans g4
        cases b with
        | true =>
          rw [if_pos rfl]
          have f44 : 4 ≤ fs.length := by
            rcases hbt rfl with z | z
            · have := of_decide_eq_true z
              omega
            · have := of_decide_eq_true z
              omega
          have k0 : kk = 0 := by
            by_cases z : kk = 1
            · have := k2 z
              omega
            · omega
          subst k0
          refine ⟨fun σ2 H2 => ∃ m', m' < 1 - 0 ∧ _, fun _ _ h => h, ?_⟩
          have hb4 := gc4.bag
          -- what follows, from lots of leaves on
          have rest : ∀ (lo : Addr) (lox : List V) (gs : List (List (Fm 0))) (H5 : Hp), Bgd p H4 H5 → H5 lo = some (.lst lox) → TDs H5 lox (gs.map fun t : List (Fm 0) => PyData.tuple (t.map (formD 0))) → gs.flatten = fs → (∀ t ∈ gs, 2 ≤ t.length ∧ t.length ≤ 4) → gs.length = 2 →
              ∀ D0 : Ends, (∀ (l5 : Addr) (lx5 : List V) (fs2 : List (Fm 1)) H6, Bgd p H4 H6 → l5 ≠ p → H6 l5 = some (.lst lx5) → TDs H6 lx5 (fs2.map (formD 1)) → fs2.flatMap (ents 1) = es → (∀ f ∈ fs2, Good 1 f) → fs2.length = 2 → D0.nx [some (.ref p), some (.ref L), some (.ref l5), some (.ref lo), none, none] H6) →
              tAsg (tLc (iList K (tVar 3)) (gName 4) tYes (tTup (tCons (tC (.str "node")) (tCons (tTupOf K (tLc (iTup K (tVar 4)) (gName 5) tYes (tTup (tCons (tCall spAround [] E0 (tCons (tCall spLBoxes [] E0 (tCons (tVar 5) tNil)) tNil)) (tCons (tVar 5) tNil))) [5])) tNil))) [4]) (gName 2) D0 [some (.ref p), some (.ref L), some (.ref lv), some (.ref lo), none, none] H5 := fun lo lox gs H5 g5 hlo tlo fl sz g2 D0 kk5 => by
            have sub : ∀ t ∈ gs, ∀ f ∈ t, Good 0 f := fun t ht f hf => gd f (by
              rw [← fl]
              exact List.mem_flatten.mpr ⟨t, ht, hf⟩)
            have z := eds_it (te := tTup (tCons (tC (.str "node")) (tCons (tTupOf K (tLc (iTup K (tVar 4)) (gName 5) tYes (tTup (tCons (tCall spAround [] E0 (tCons (tCall spLBoxes [] E0 (tCons (tVar 5) tNil)) tNil)) (tCons (tVar 5) tNil))) [5])) tNil))) (g := gName 4) (tt := tYes) (vs := [4]) (wi := iList K (tVar 3)) (σ := [some (.ref p), some (.ref L), some (.ref lv), some (.ref lo), none, none]) (H := H5) (es := gs) (enc := fun t : List (Fm 0) => PyData.tuple (t.map (formD 0))) (fun _ => true) (fun t => formD 1 (nodeG t)) (ei_list (ld_of (ev_var rfl) hlo tlo)) (by omega) (fun t ht => turn_nm (fun _ => rfl) (fun _ _ _ _ => et_yes) fun u H6 e6 x6 _ => by
              rw [nodeG_data]
              exact ed_tup (da_cons (ed_str ev_c) (da_cons (ed_tupL (K := K) (eds_level (vs := [5]) (j := 5) (ei_tup (ed_var (i := 4) rfl x6)) (by have := (sz t ht).2; omega) (sub t ht) (by decide) (fun _ => rfl) (fun _ => rfl))) da_nil)) (by show 2 ≤ 100000; decide))
            rw [filt_all] at z
            refine z H5 (Ex.refl _) _ fun l5 lx5 H6 hn6 e6 hl6 tl6 => kk5 l5 lx5 (gs.map nodeG) H6 (g5.trans (bag_ex e6 g5.bag)) (ne_bag g5.bag hn6) hl6 (by rw [List.map_map]; exact tl6) ?_ (fun f hf => ?_) (by rw [List.length_map]; exact g2)
            · rw [← fes, ← fl]
              clear hlo tlo fl sz g2 sub z hl6 tl6 hn6 e6
              induction gs with
              | nil => rfl
              | cons t r ih => rw [List.map_cons, List.flatMap_cons, nodeG_ents, ih, List.flatten_cons, List.flatMap_append]
            · obtain ⟨t, ht, rfl⟩ := List.mem_map.mp hf
              exact nodeG_good (sub t ht) (sz t ht).1 (sz t ht).2
          have fin : ∀ (l5 : Addr) (lx5 : List V) (fs2 : List (Fm 1)) (lo : Addr) H6, Bgd p H4 H6 → l5 ≠ p → H6 l5 = some (.lst lx5) → TDs H6 lx5 (fs2.map (formD 1)) → fs2.flatMap (ents 1) = es → (∀ f ∈ fs2, Good 1 f) → fs2.length = 2 → ∃ m', m' < 1 - 0 ∧ ∃ (lv : Addr) (r3 : Option V) (k : Nat) (fs : List (Fm k)) (ys : List V), ([some (.ref p), some (.ref L), some (.ref l5), some (.ref lo), none, none] : L2.St) = [some (.ref p), some (.ref L), some (.ref lv), r3, none, none] ∧ Bgd p H1 H6 ∧ lv ≠ p ∧ H6 lv = some (.lst ys) ∧ TDs H6 ys (fs.map (formD k)) ∧ fs.flatMap (ents k) = es ∧ (∀ f ∈ fs, Good k f) ∧ 2 ≤ fs.length ∧ fs.length ≤ 6 ∧ k ≤ 1 ∧ (k = 1 → fs.length = 2) ∧ m' = 1 - k :=
            fun l5 lx5 fs2 lo H6 g6 n5 h5 t5 e5 gd5 w5 => ⟨0, by decide, l5, some (.ref lo), 1, fs2, lx5, rfl, gc4.trans g6, n5, h5, t5, e5, gd5, by omega, by omega, by decide, fun _ => w5, rfl⟩
          refine q_asgQ ((et_test (ev_op (ev_is (ev_lenL (K := K) (σ := [some (.ref p), some (.ref L), some (.ref lv), r3, none, none]) (te := tVar 2) (ld_of (ev_var rfl) hv4 tv4)) (by rw [List.length_map])) (ev_c (v := .int 4)) rv_I0)) H4 (Ex.refl _) _ fun H5 e5 => ?_)
          have g5 := bag_ex e5 hb4
          by_cases c : decide ((4 : Int) < ((fs.length : Nat) : Int)) = true
          · show (if decide ((4 : Int) < ((fs.length : Nat) : Int)) = true then _ else _)
            rw [if_pos c]
            have c5 := of_decide_eq_true c
            refine ⟨_, rfl, _, rfl, p, lv, ys, fs.map (formD 0), rfl, g5.bag, nvp, e5 _ _ hv4, tv4.mono e5, by rw [List.length_map]; omega, by rw [List.length_map]; omega, fun lo lox lots H6 hl0 g6 hlo tt fl sz l2 l4 => ?_⟩
            obtain ⟨gs, rfl, fe⟩ := unflat fl
            rw [List.length_map] at l2
            rw [List.length_map, List.length_map] at l4
            rw [List.map_map] at tt
            exact rest lo lox gs H6 (g5.trans g6) hlo tt fe (fun t ht => by
              have z := sz (t.map (formD 0)) (List.mem_map.mpr ⟨t, ht, rfl⟩)
              rw [List.length_map] at z
              exact z) (by omega) _ fun l5 lx5 fs2 H7 g7 n5 h5 t5 e5 gd5 w5 => fin l5 lx5 fs2 lo H7 g7 n5 h5 t5 e5 gd5 w5
          · show (if decide ((4 : Int) < ((fs.length : Nat) : Int)) = true then _ else _)
            rw [if_neg c]
            have c4 : fs.length = 4 := by
              have := of_decide_eq_false (eq_false_of_ne_true c)
              omega
            have z := eds_lst (σ := [some (.ref p), some (.ref L), some (.ref lv), r3, none, none]) (H := H5) (da_cons (ed_tupL (K := K) (eds_to (K := K) (te := tVar 2) (tb := tC (.int 2)) (n := 2) (ev_var rfl) (e5 _ _ hv4) (tv4.mono e5) (ev_is (ev_c (v := .int 2)) rfl) (by rw [List.length_map]; omega))) (da_cons (ed_tupL (K := K) (eds_from (K := K) (te := tVar 2) (tb := tC (.int 2)) (n := 2) (ev_var rfl) (e5 _ _ hv4) (tv4.mono e5) (ev_is (ev_c (v := .int 2)) rfl) (by rw [List.length_map]; omega))) da_nil)) (by show 2 ≤ 100000; decide)
            refine z H5 (Ex.refl _) _ fun lo lox H6 _ e6 hlo tlo => ?_
            rw [← List.map_take, ← List.map_drop] at tlo
            have lA : (fs.take 2).length = 2 := by
              rw [List.length_take]
              omega
            have lB : (fs.drop 2).length = 2 := by
              rw [List.length_drop]
              omega
            exact rest lo lox [fs.take 2, fs.drop 2] H6 (g5.trans (bag_ex e6 g5.bag)) hlo tlo (by simp) (fun t ht => by
              rcases List.mem_cons.mp ht with rfl | ht
              · omega
              · rw [List.mem_singleton.mp ht]
                omega) rfl _ fun l5 lx5 fs2 H7 g7 n5 h5 t5 e5 gd5 w5 => fin l5 lx5 fs2 lo H7 g7 n5 h5 t5 e5 gd5 w5
        | false =>
          rw [if_neg (by decide)]
          have fin : EvD (tTup (tCons (tC (.str "node")) (tCons (tTupOf K (tLc (iList K (tVar 2)) (gName 5) tYes (tTup (tCons (tCall spAround [] E0 (tCons (tCall spLBoxes [] E0 (tCons (tVar 5) tNil)) tNil)) (tCons (tVar 5) tNil))) [5])) tNil))) [some (.ref p), some (.ref L), some (.ref lv), r3, none, none] H4 (formD (kk + 1) (nodeG fs)) := by
            rw [nodeG_data]
            exact ed_tup (da_cons (ed_str ev_c) (da_cons (ed_tupL (K := K) (eds_level (vs := [5]) (j := 5) (ei_list (ld_of (ev_var rfl) hv4 tv4)) (by omega) gd (by omega) (fun _ => rfl) (fun _ => rfl))) da_nil)) (by show 2 ≤ 100000; decide)
          exact s_retD fin fun v H5 e5 x => k v (kk + 1) (nodeG fs) H5 ((g1.trans gc4).trans (bag_ex e5 gc4.bag)) x (by rw [nodeG_ents]; exact fes) (nodeG_sizes gd f2 (by have := of_decide_eq_false (hbf4 rfl); omega)) (nodeG_least gd) (nodeG_ok gd) (by omega)
end
end Q
set_option Elab.async false
set_option linter.all false
set_option maxRecDepth 100000
set_option maxHeartbeats 4000000
/-! the law's own look at any form's entries and boxes -/
namespace PB
open PySem PySem.Spec
theorem small_formG : ∀ (n : Nat) (g : Gm n), (gD n g).canLay0 = true ∧ (gD n g).depth ≤ 3 * n + 4
  | 0, g => nomatch (show Empty from g)
  | n + 1, g => by
    rcases gm_cases g with ⟨es, rfl⟩ | ⟨bs, rfl⟩
    · have z := small_two (k := 3) (a := .str "leaf") (b := .tuple (es.map entD)) ⟨by decide +kernel, Nat.zero_le _⟩ (lay_tup (k := 2) fun d hd => by
        obtain ⟨e, _, rfl⟩ := List.mem_map.mp hd
        exact small_ent e)
      exact ⟨z.1, Nat.le_trans z.2 (by omega)⟩
    · have z := small_two (k := 3 * n + 6) (a := .str "node") (b := .tuple (bs.map fun p : Bx × Gm n => PyData.tuple [boxD p.1, gD n p.2])) ⟨by decide +kernel, Nat.zero_le _⟩ (lay_tup (k := 3 * n + 5) fun d hd => by
        obtain ⟨p, _, rfl⟩ := List.mem_map.mp hd
        exact small_two ⟨(small_box p.1).1, Nat.le_trans (small_box p.1).2 (by omega)⟩ (small_formG n p.2))
      exact ⟨z.1, Nat.le_trans z.2 (by omega)⟩
def gC : (n : Nat) → Gm n → Nat := gF 0 (fun _ => 1) fun n r bs => 1 + (bs.map fun p => r p.2).sum
theorem gC_pos : ∀ (n : Nat) (g : Gm n), 1 ≤ gC n g
  | 0, g => nomatch (show Empty from g)
  | n + 1, g => by
    rcases gm_cases g with ⟨es, rfl⟩ | ⟨bs, rfl⟩
    · exact Nat.le_refl _
    · exact Nat.le_add_right _ _
/-- sizes of a walk over the form -/
def gH : (n : Nat) → Gm n → Prop := gF True (fun es => es.length ≤ 100) fun n r bs => bs.length ≤ 100 ∧ ∀ p ∈ bs, r p.2
theorem gT_gH : ∀ (n : Nat) (g : Gm n), gT n g → gH n g
  | 0, _, _ => trivial
  | n + 1, g, h => by
    rcases gm_cases g with ⟨es, rfl⟩ | ⟨bs, rfl⟩
    · exact h
    · exact ⟨h.1, fun p hp => gT_gH n p.2 (h.2 p hp).2.2⟩
abbrev Sh := (n : Nat) × Gm n
def shD (w : Sh) : PyData := gD w.1 w.2
def shE (w : Sh) : List (Int × Bx) := gEs w.1 w.2
def shC (w : Sh) : Nat := gC w.1 w.2
end PB
namespace Q
open PySem L2 PySem.Spec PyProof.Rows PySem.Calls
open Evl PB
def spLEntG : Sp := fun vs H Q _ => ∃ (n : Nat) (f : Gm n) (v : V), vs = [v] ∧ TD1 H v (gD n f) ∧ gH n f ∧ n ≤ 4 ∧ gC n f ≤ 2000 ∧ (gEs n f).length ≤ 4000 ∧ ∀ l xs (es : List (Int × Bx)) H', H l = none → Ex H H' → H' l = some (.lst xs) → TDs H' xs (es.map entD) → es.Perm (gEs n f) → Q (.ref l) H'
def spLBoxesG : Sp := fun vs H Q _ => ∃ (n : Nat) (f : Gm n) (v : V), vs = [v] ∧ TD1 H v (gD n f) ∧ gH n f ∧ n ≤ 4 ∧ gC n f ≤ 2000 ∧ (gEs n f).length ≤ 4000 ∧ ∀ l xs (bs : List Bx) H', H l = none → Ex H H' → H' l = some (.lst xs) → TDs H' xs (bs.map boxD) → bs.Perm ((gEs n f).map (·.2)) → Q (.ref l) H'
def spJointG : Sp := fun vs H Q _ => ∃ (L : Addr) (xs : List V) (bs : List Bx), vs = [.ref L] ∧ H L = some (.lst xs) ∧ TDs H xs (bs.map boxD) ∧ bs.length ≤ 40000 ∧ ∀ v H', Ex H H' → TD1 H' v (jbD bs) → Q v H'
section
variable {P : Program} {w : World} {K : PySem.W.Frag} {mg : Str → Option Value} {base : Heap}
theorem ok_lentG {f : Addr} {fd : FuncData} (F : Fun K "_law_entries_in" "_law_entries_in" sLEnt f fd) (T : TB mg) : FnOk P w K mg base CX0 1 f fd ["form"] spLEntG := by
  refine F.ok scLEnt (fun vs H Q E h => ?_) (fun cdv A' outer s H vs Q E hr h => ?_)
  · obtain ⟨n, g, v, rfl, _⟩ := h
    rfl
  · obtain ⟨n, g, v, rfl, hx, ht, h3, hc, he, k⟩ := h
    have hun := hr.units
    refine ⟨_, (pss_cons (ps_par (i := 1) (j := 2) (by rfl) scLEnt.nd rfl rfl (by decide) rfl rfl (pa_cons (pe_lst pa_nil) (pa_cons (pe_lst (pa_cons (pv 0) pa_nil)) pa_nil)) (by rfl))
      (pss_cons (ps_while PassesOwn.never (pt_cmpR (op_neD hun) (pv 2) (pe_lst pa_nil) (nomark _))
        (pss_cons (ps_asg (pe_bm0 PySem.F.plainAttrs_list PySem.F.slot_list_pop PySem.F.type_list_pop mt_pop (pv 2)) (pg_tup (by rfl) (pgs_cons (pg_name (i := 3) scLEnt.nd rfl (.inl rfl)) (pgs_cons (pg_name (i := 4) scLEnt.nd rfl (.inl rfl)) pgs_nil))))
        (pss_one (ps_if (pt_cmpR op_eq (pv 3) pe_str (nomark _))
          (pss_one (ps_expr (pe_bm PySem.F.plainAttrs_list PySem.F.slot_list_extend PySem.F.type_list_extend mt_extend (pv 1) (pa_cons (pe_callTy call_list_of (by rfl) T.list (by decide +kernel) (pa_cons (pv 4) pa_nil)) pa_nil))))
          (pss_one (ps_expr (pe_bm PySem.F.plainAttrs_list PySem.F.slot_list_extend PySem.F.type_list_extend mt_extend (pv 2) (pa_cons (pe_lc (own := [("branch", 5)]) (g := gName 5) (by rfl) scLEnt.nd (pi_tup (pv 4))
            (blkOk_by (own := [("branch", 5)]) (N := nmLEnt) (sc := defScope sLEnt) (by decide +kernel))
            (fun _ _ _ _ _ => pg_name (i := 5) scLEnt.nd rfl (Or.inl rfl)) (fun _ _ _ _ _ => pts_nil)
            (te := tOp (rIxT K) (tVar 5) (tC (.int 1))) (fun _ _ _ _ _ => by exact (pe_ix ix_tup (pv 5) pe_int (fun _ _ => rfl)))) pa_nil))))))))
      (pss_one (ps_ret (pv 1))))), ?_⟩
    refine q_parL (ds := []) (es := [gD n g]) (eds_lst da_nil (by decide)) (fun H1 e1 => eds_lst (da_cons (ed_var rfl (hx.mono e1)) da_nil) (by show 1 ≤ 100000; decide)) fun Fl Wl xs ys H1 hF0 hW0 nFW e1 hF tF hW tW => ?_
    cases tF.inv0
    refine q_while (fun m σ' H' => ∃ (r3 r4 : Option V) (ys zs : List V) (es : List (Int × Bx)) (W : List Sh), σ' = [some v, some (.ref Fl), some (.ref Wl), r3, r4, none] ∧ Kp [Fl, Wl] H1 H' ∧ H' Fl = some (.lst ys) ∧ TDs H' ys (es.map entD) ∧ H' Wl = some (.lst zs) ∧ TDs H' zs (W.map shD) ∧ (es ++ W.flatMap shE).Perm (gEs n g) ∧ (∀ w ∈ W, w.1 ≤ 4 ∧ gH w.1 w.2) ∧ m = (W.map shC).sum ∧ m ≤ 2000) (gC n g) ⟨none, none, [], ys, [], [⟨n, g⟩], rfl, Kp.refl _ _, hF, .nil, hW, tW, by
      rw [List.flatMap_cons, List.flatMap_nil, List.append_nil, List.nil_append]
      exact List.Perm.refl _, fun w hw => by
      rw [List.mem_singleton.mp hw]
      exact ⟨h3, ht⟩, by rw [List.map_cons, List.map_nil, List.sum_cons, List.sum_nil, Nat.add_zero]; rfl, by omega⟩ ?_
    rintro m σ' H' ⟨r3, r4, ys, zs, es, W, rfl, kp, hF2, tF2, hW2, tW2, pm, wh, rfl, mb⟩
    have wl := sum_pos shC (l := W) fun w _ => gC_pos w.1 w.2
    refine ⟨_, et_test (ev_neL (ev_var rfl) hW2 tW2 fun d hd => ?_), fun hb H5 e5 => ?_, fun hb H5 e5 => ?_⟩
    · obtain ⟨w, hw, rfl⟩ := List.mem_map.mp hd
      have z := small_formG w.1 w.2
      have := (wh w hw).1
      exact ⟨z.1, Nat.le_trans z.2 (by omega)⟩
    · have nW : W ≠ [] := fun z => by
        rw [z] at hb
        cases hb
      obtain ⟨W', w, rfl⟩ := snoc_of nW
      refine ⟨fun σ2 H2 => ∃ m', m' < _ ∧ _, fun _ _ h => h, ?_⟩
      have tW5 := tW2.mono e5
      rw [List.map_append] at tW5
      obtain ⟨zs', z, rfl, tz, xz⟩ := tW5.pop
      have hW5 := e5 _ _ hW2
      have kp5 := kp.ex e5
      have hF5 := e5 _ _ hF2
      obtain ⟨w3, wt⟩ := wh w (List.mem_append_right _ (List.mem_singleton.mpr rfl))
      refine ⟨_, rfl, .inl ⟨rfl, _, SqL.of hW5⟩, Wl, _, z, rfl, rfl, hW5, by simp, ?_⟩
      rw [List.dropLast_concat]
      have tkW := upd_tup (ys := zs') hW5
      have xz1 : TD1 (upd H5 Wl (.lst zs')) z (gD w.1 w.2) := xz.by tkW
      have tz1 : TDs (upd H5 Wl (.lst zs')) zs' (W'.map shD) := tz.by tkW
      have tF5 : TDs (upd H5 Wl (.lst zs')) ys (es.map entD) := (tF2.mono e5).by tkW
      have hF6 : upd H5 Wl (.lst zs') Fl = some (.lst ys) := by
        rw [upd_ne nFW]
        exact hF5
      have hW6 : upd H5 Wl (.lst zs') Wl = some (.lst zs') := upd_same
      have kp6 : Kp [Fl, Wl] H1 (upd H5 Wl (.lst zs')) := kp5.upd (by simp)
      generalize upd H5 Wl (.lst zs') = H6 at xz1 tz1 tF5 hF6 hW6 kp6 ⊢
      have el2 := tF5.len
      rw [List.length_map] at el2
      have pl := pm.length_eq
      rw [List.length_append, List.flatMap_append, List.length_append, List.flatMap_cons, List.flatMap_nil, List.append_nil] at pl
      have zl := tz1.len
      rw [List.length_map] at zl
      have em : ((W' ++ [w]).map shC).sum = (W'.map shC).sum + shC w := by
        rw [List.map_append, List.sum_append, List.map_cons, List.map_nil, List.sum_cons, List.sum_nil, Nat.add_zero]
      rw [List.length_append] at wl
      obtain ⟨wn, wf⟩ := w
      match wn, wf, w3, wt, xz1, pl, pm, wh, mb, em, wl with
      | wn + 1, wf, w3, wt, xz1, pl, pm, wh, mb, em, wl =>
        rcases gm_cases wf with ⟨les, rfl⟩ | ⟨bs, rfl⟩
        · have xz2 : TD1 H6 z (.tuple [.str "leaf", .tuple (les.map entD)]) := xz1
          obtain ⟨a, xs, rfl, ha, y⟩ := xz2.tup
          obtain ⟨u1, ys1, rfl, y1, y⟩ := y.inv
          obtain ⟨u2, ys2, rfl, y2, y⟩ := y.inv
          cases y.inv0
          cases y1.str
          refine ⟨a, _, rfl, SqT.of ha, rfl, _, _, rfl, u2, _, rfl, rfl, ?_⟩
          refine s_if (b := true) (et_is (et_test (ev_eqW (ev_var rfl))) (by decide)) (fun _ H7 e7 => ?_) (fun z => nomatch z)
          refine ⟨_, rfl, .inl ⟨rfl, _, SqL.of (e7 _ _ hF6)⟩, ?_⟩
          refine eds_listT (K := K) (ds := les.map entD) (ed_var (i := 4) (σ := [some v, some (.ref Fl), some (.ref Wl), some (.str "leaf"), some u2, none]) rfl (y2.mono e7)) H7 (Ex.refl _) _ fun l ls H8 hl0 e8 hl tl => ?_
          have e78 := e7.trans e8
          have hF8 := e78 _ _ hF6
          have ll := tl.len
          rw [List.length_map] at ll
          have les4 : les.length ≤ 100 := wt
          refine ⟨Fl, l, ys, ls, rfl, rfl, hF8, hl, sz_of (by omega), _, ?_, some (.str "leaf"), some u2, ys ++ ls, zs', es ++ les, W', rfl, (kp6.ex e78).upd (by simp), upd_same, ?_, ?_, ?_, ?_, fun w hw => wh w (List.mem_append_left _ hw), rfl, ?_⟩
          · rw [em]
            show _ < _ + 1
            omega
          · rw [List.map_append]
            exact ((tF5.mono e78).app tl).by (upd_tup hF8)
          · rw [upd_ne nFW.symm]
            exact e78 _ _ hW6
          · exact (tz1.mono e78).by (upd_tup hF8)
          · refine List.Perm.trans ?_ pm
            rw [List.flatMap_append, List.flatMap_cons, List.flatMap_nil, List.append_nil, List.append_assoc]
            exact List.Perm.append_left _ List.perm_append_comm
          · omega
        · obtain ⟨b4, hbs⟩ : bs.length ≤ 100 ∧ ∀ p ∈ bs, gH wn p.2 := wt
          have xz2 : TD1 H6 z (.tuple [.str "node", .tuple (bs.map fun p : Bx × Gm wn => PyData.tuple [boxD p.1, gD wn p.2])]) := xz1
          obtain ⟨a, xs, rfl, ha, y⟩ := xz2.tup
          obtain ⟨u1, ys1, rfl, y1, y⟩ := y.inv
          obtain ⟨u2, ys2, rfl, y2, y⟩ := y.inv
          cases y.inv0
          cases y1.str
          refine ⟨a, _, rfl, SqT.of ha, rfl, _, _, rfl, u2, _, rfl, rfl, ?_⟩
          refine s_if (b := false) (et_is (et_test (ev_eqW (ev_var rfl))) (by decide)) (fun z => nomatch z) (fun _ H7 e7 => ?_)
          refine ⟨_, rfl, .inl ⟨rfl, _, SqL.of (e7 _ _ hW6)⟩, ?_⟩
          have z := eds_it (te := tOp (rIxT K) (tVar 5) (tC (.int 1))) (g := gName 5) (tt := tYes) (vs := [5]) (wi := iTup K (tVar 4)) (σ := [some v, some (.ref Fl), some (.ref Wl), some (.str "node"), some u2, none]) (H := H7) (es := bs) (enc := fun p : Bx × Gm wn => PyData.tuple [boxD p.1, gD wn p.2]) (fun _ => true) (fun p => gD wn p.2) (ei_tup (ed_var rfl (y2.mono e7))) (Nat.le_trans b4 (by decide)) (fun p hp => turn_nm (fun _ => rfl) (fun _ _ _ _ => et_yes) fun u H4 e4 x4 _ => ed_ix (ed_var rfl x4) ⟨by decide, rfl⟩)
          rw [filt_all] at z
          refine z H7 (Ex.refl _) _ fun l ls H8 hl0 e8 hl tl => ?_
          have e78 := e7.trans e8
          have hW8 := e78 _ _ hW6
          have ed : bs.map (fun p => gD wn p.2) = (bs.map fun p => (⟨wn, p.2⟩ : Sh)).map shD := by
            rw [List.map_map]
            rfl
          rw [ed] at tl
          have ll := tl.len
          rw [List.length_map, List.length_map] at ll
          refine ⟨Wl, l, zs', ls, rfl, rfl, hW8, hl, sz_of (by omega), _, ?_, some (.str "node"), some u2, ys, zs' ++ ls, es, W' ++ bs.map fun p => (⟨wn, p.2⟩ : Sh), rfl, (kp6.ex e78).upd (by simp), ?_, ?_, upd_same, ?_, ?_, fun w hw => ?_, rfl, ?_⟩
          · rw [em, List.map_append, List.sum_append, List.map_map]
            show _ < _ + (1 + (bs.map fun p => gC wn p.2).sum)
            show _ + (bs.map fun p => gC wn p.2).sum < _
            omega
          · rw [upd_ne nFW]
            exact e78 _ _ hF6
          · exact (tF5.mono e78).by (upd_tup hW8)
          · rw [List.map_append]
            exact ((tz1.mono e78).app tl).by (upd_tup hW8)
          · refine List.Perm.trans ?_ pm
            rw [List.flatMap_append, List.flatMap_append, List.flatMap_map, List.flatMap_cons, List.flatMap_nil, List.append_nil]
            exact List.Perm.refl _
          · rcases List.mem_append.mp hw with hw | hw
            · exact wh w (List.mem_append_left _ hw)
            · obtain ⟨p, hp, rfl⟩ := List.mem_map.mp hw
              have w3' : wn + 1 ≤ 4 := w3
              exact ⟨by show wn ≤ 4; omega, hbs p hp⟩
          · have q : shC ⟨wn + 1, gN bs⟩ = 1 + (bs.map fun p => gC wn p.2).sum := rfl
            rw [List.map_append, List.sum_append, List.map_map]
            show (W'.map shC).sum + (bs.map fun p => gC wn p.2).sum ≤ 2000
            omega
    · have nW : W = [] := by
        cases W with
        | nil => rfl
        | cons w W => cases hb
      subst nW
      rw [List.flatMap_nil, List.append_nil] at pm
      refine ⟨_, rfl, k Fl ys es H5 hF0 (fun l o q => e5 _ _ (kp l o (fun z => ?_) (e1 _ _ q))) (e5 _ _ hF2) (tF2.mono e5) pm⟩
      rcases List.mem_cons.mp z with z | z
      · rw [z, hF0] at q
        cases q
      · rw [List.mem_singleton.mp z, hW0] at q
        cases q
end
end Q
set_option Elab.async false
set_option linter.all false
set_option maxRecDepth 100000
set_option maxHeartbeats 4000000
/-! boxes of any form, their joint box, heights -/
namespace PB
open PySem
theorem jbD_perm {as bs : List Bx} (h : as.Perm bs) : jbD as = jbD bs := by
  unfold jbD
  cases as with
  | nil =>
    rw [List.Perm.nil_eq h]
  | cons a as =>
    have hb : bs ≠ [] := fun z => by
      rw [z] at h
      exact absurd h.symm (List.not_perm_nil_cons a as)
    cases bs with
    | nil => exact absurd rfl hb
    | cons b bs =>
      rw [if_neg (by simp), if_neg (by simp), joint_perm h]
theorem up_H : ∀ (n : Nat) (f : Fm n), thin n f → gH (n + 1) (up n f)
  | 0, es, h => by
    show (lfs es).length ≤ 100
    have : (lfs es).length ≤ 4 := h
    omega
  | n + 1, bs, h => by
    obtain ⟨h4, hp⟩ := h
    refine ⟨by rw [List.length_map]; omega, fun p hp' => ?_⟩
    obtain ⟨q, hq, rfl⟩ := List.mem_map.mp hp'
    exact up_H n q.2 (hp q hq)
theorem up_C : ∀ (n : Nat) (f : Fm n), gC (n + 1) (up n f) = nodesN n f
  | 0, es => rfl
  | n + 1, bs => by
    show 1 + (((brs bs).map fun p => (p.1, up n p.2)).map fun p => gC (n + 1) p.2).sum = 1 + (List.map (fun p : Bx × Fm n => nodesN n p.2) (brs bs)).sum
    rw [List.map_map]
    have e : ((fun p : Bx × Gm (n + 1) => gC (n + 1) p.2) ∘ fun p : Bx × Fm n => (p.1, up n p.2)) = fun p : Bx × Fm n => nodesN n p.2 := funext fun p => up_C n p.2
    rw [e]
end PB
namespace Q
open PySem L2 PySem.Spec PyProof.Rows PySem.Calls
open Evl PB
abbrev sLHt : Stmt := top 50
def spLHt : Sp := fun vs H Q _ => ∃ (n : Nat) (f : Fm n) (v : V), vs = [v] ∧ TD1 H v (formD n f) ∧ sizes n f ∧ n ≤ 3 ∧ ∀ H', Ex H H' → Q (.int ((n + 1 : Nat) : Int)) H'
section
variable {P : Program} {w : World} {K : PySem.W.Frag} {mg : Str → Option Value} {base : Heap}
theorem ok_lboxesG {f : Addr} {fd : FuncData} (F : Fun K "_law_boxes_in" "_law_boxes_in" sLBoxes f fd) (CE : Cl P w K mg base 1 "_law_entries_in" spLEntG) : FnOk P w K mg base CX0 2 f fd ["form"] spLBoxesG := by
  refine F.ok scLBoxes (fun vs H Q E h => ?_) (fun cdv A' outer s H vs Q E hr h => ?_)
  · obtain ⟨n, g, v, rfl, _⟩ := h
    rfl
  · obtain ⟨n, g, v, rfl, hx, ht, h3, hc, he, k⟩ := h
    refine ⟨_, pss_one (ps_ret (pe_lc (own := [("entry", 1)]) (g := gName 1) (by rfl) scLBoxes.nd (pi_list (pe_cl CE hr (by decide) (by rfl) (pa_cons (pv 0) pa_nil)))
            (blkOk_by (own := [("entry", 1)]) (N := ["form", "entry"]) (sc := defScope sLBoxes) (by decide +kernel))
            (fun _ _ _ _ _ => pg_name (i := 1) scLBoxes.nd rfl (Or.inl rfl)) (fun _ _ _ _ _ => pts_nil)
            (te := tOp (rIxT K) (tVar 1) (tC (.int 1))) (fun _ _ _ _ _ => by exact (pe_ix ix_tup (pv 1) pe_int (fun _ _ => rfl))))), ?_⟩
    refine s_retQ (go_lcX (enc := entD) (P := fun es => es.Perm (gEs n g)) (σ := [some v, none]) (H := H) (fun e : Int × Bx => boxD e.2) (fun H1 e1 Q q => ⟨_, rfl, n, g, v, rfl, hx.mono e1, ht, h3, hc, he, fun l xs es H2 _ e2 hl tl pm => q l xs es H2 pm e2 hl tl⟩) (fun es pm => by rw [pm.length_eq]; omega) (fun es _ e _ H1 e1 => turn_nm (fun _ => rfl) (fun _ _ _ _ => et_yes) fun u H4 e4 x4 _ => ed_ix (ed_var rfl x4) ⟨by decide, rfl⟩) (Ex.refl H) fun l xs es H2 hl0 pm e2 hl tl => ?_)
    exact k l xs (es.map (·.2)) H2 hl0 e2 hl (by rw [List.map_map]; exact tl) (pm.map (·.2))
theorem ok_ljointG {f : Addr} {fd : FuncData} (F : Fun K "_law_joint_box" "_law_joint_box" sLJoint f fd) (T : TMm mg) : FnOk P w K mg base CX0 1 f fd ["boxes"] spJointG := by
  refine F.ok scLJoint (fun vs H Q E h => ?_) (fun cdv A' outer s H vs Q E hr h => ?_)
  · obtain ⟨L, xs, bs, rfl, _⟩ := h
    rfl
  · obtain ⟨L, xs, bs, rfl, hL, x, hl, k⟩ := h
    have hu := hr.units
    refine ⟨_, (pss_cons (ps_if (pt_cmpR (op_eqD hu) (pv 0) (pe_lst pa_nil) (nomark _)) (pss_one (ps_ret pe_non)) pss_nil)
      (pss_cons (ps_set (i := 1) scLJoint.nd rfl (Or.inl rfl) (pe_tup (pa_cons (pe_callB (cr_min rfl) (by rfl) T.min (by decide +kernel) (pa_cons (pe_lc (own := [("box", 2)]) (g := gName 2) (by rfl) scLJoint.nd (pi_list (pv 0)) (blkOk_by (own := [("box", 2)]) (N := ["boxes", "low", "box"]) (sc := defScope sLJoint) (by decide +kernel)) (fun _ _ _ _ _ => pg_name (i := 2) scLJoint.nd rfl (Or.inl rfl)) (fun _ _ _ _ _ => pts_nil) (te := tOp (rIxT K) (tVar 2) (tC (.int 0))) (fun _ _ _ _ _ => by exact (pe_ix ix_tup (pv 2) pe_int (fun _ _ => rfl)))) pa_nil)) (pa_cons (pe_callB (cr_min rfl) (by rfl) T.min (by decide +kernel) (pa_cons (pe_lc (own := [("box", 2)]) (g := gName 2) (by rfl) scLJoint.nd (pi_list (pv 0)) (blkOk_by (own := [("box", 2)]) (N := ["boxes", "low", "box"]) (sc := defScope sLJoint) (by decide +kernel)) (fun _ _ _ _ _ => pg_name (i := 2) scLJoint.nd rfl (Or.inl rfl)) (fun _ _ _ _ _ => pts_nil) (te := tOp (rIxT K) (tVar 2) (tC (.int 1))) (fun _ _ _ _ _ => by exact (pe_ix ix_tup (pv 2) pe_int (fun _ _ => rfl)))) pa_nil)) pa_nil))))
      (pss_one (ps_ret (pe_op op_catT (pv 1) (pe_tup (pa_cons (pe_callB (cr_max rfl) (by rfl) T.max (by decide +kernel) (pa_cons (pe_lc (own := [("box", 2)]) (g := gName 2) (by rfl) scLJoint.nd (pi_list (pv 0)) (blkOk_by (own := [("box", 2)]) (N := ["boxes", "low", "box"]) (sc := defScope sLJoint) (by decide +kernel)) (fun _ _ _ _ _ => pg_name (i := 2) scLJoint.nd rfl (Or.inl rfl)) (fun _ _ _ _ _ => pts_nil) (te := tOp (rIxT K) (tVar 2) (tC (.int 2))) (fun _ _ _ _ _ => by exact (pe_ix ix_tup (pv 2) pe_int (fun _ _ => rfl)))) pa_nil)) (pa_cons (pe_callB (cr_max rfl) (by rfl) T.max (by decide +kernel) (pa_cons (pe_lc (own := [("box", 2)]) (g := gName 2) (by rfl) scLJoint.nd (pi_list (pv 0)) (blkOk_by (own := [("box", 2)]) (N := ["boxes", "low", "box"]) (sc := defScope sLJoint) (by decide +kernel)) (fun _ _ _ _ _ => pg_name (i := 2) scLJoint.nd rfl (Or.inl rfl)) (fun _ _ _ _ _ => pts_nil) (te := tOp (rIxT K) (tVar 2) (tC (.int 3))) (fun _ _ _ _ _ => by exact (pe_ix ix_tup (pv 2) pe_int (fun _ _ => rfl)))) pa_nil)) pa_nil)))))))), ?_⟩
    refine q_when (b := bs.isEmpty) (et_test fun H1 e1 Q q => ⟨_, rfl, Nat.zero_le _, fun l hl0 => ⟨.list (bs.map boxD), .list [], .lst (SqL.of (Ex.new hl0 _ _ (e1 _ _ hL))) ((x.mono (e1.trans (Ex.new hl0))).dp), .lst (SqL.of upd_same) .nil, shaped_bs bs, rfl, ?_⟩⟩) (fun hb H1 e1 => ?_) (fun hb H1 e1 => ?_)
    · have z : PyData.eqv (.list (bs.map boxD)) (.list []) = bs.isEmpty := by
        cases bs with
        | nil => rfl
        | cons b r => simp [PyData.eqv, PyData.eqvAll]
      rw [z]
      exact q _ (Ex.new hl0)
    · refine s_ret ev_c fun H2 e2 => k _ H2 (e1.trans e2) ?_
      unfold jbD
      rw [if_pos hb]
      exact .non .nil
    have hn : bs ≠ [] := fun z => by
      rw [z] at hb
      cases hb
    have nm : ∀ f : Bx → Int, bs.map f ≠ [] := fun f z => hn (List.map_eq_nil_iff.mp z)
    have ej : jbD bs = boxD (joint bs) := by
      unfold jbD
      rw [if_neg (by rw [hb]; decide)]
    rw [ej] at k
    refine q_asgD (d := .tuple [.int (joint bs).l, .int (joint bs).b]) (ed_tup (da_cons (ed_int (ev_minN (eds_side (·.l) (fun b => ⟨by decide, rfl⟩) (fun _ => rfl) (fun _ => rfl) (ld_of (ev_var rfl) (e1 _ _ hL) (x.mono e1)) hl) (nm _))) (da_cons (ed_int (ev_minN (eds_side (·.b) (fun b => ⟨by decide, rfl⟩) (fun _ => rfl) (fun _ => rfl) (ld_of (ev_var rfl) (e1 _ _ hL) (x.mono e1)) hl) (nm _))) da_nil)) (by show 2 ≤ 100000; decide)) fun lo H2 e2 y => ?_
    have e12 := e1.trans e2
    exact s_retD (d := boxD (joint bs)) (ed_cat (bs := [.int (joint bs).r, .int (joint bs).t]) (ed_var rfl y) (ed_tup (da_cons (ed_int (ev_maxN (eds_side (·.r) (fun b => ⟨by decide, rfl⟩) (fun _ => rfl) (fun _ => rfl) (ld_of (ev_var rfl) (e12 _ _ hL) (x.mono e12)) hl) (nm _))) (da_cons (ed_int (ev_maxN (eds_side (·.t) (fun b => ⟨by decide, rfl⟩) (fun _ => rfl) (fun _ => rfl) (ld_of (ev_var rfl) (e12 _ _ hL) (x.mono e12)) hl) (nm _))) da_nil)) (by show 2 ≤ 100000; decide)) (by simp) (by simp) (by show 4 ≤ 100000; decide)) fun v H3 e3 z => k v H3 (e12.trans e3) z
theorem bnds {n : Nat} {f : Fm n} (ht : thin n f) (h3 : n ≤ 3) : gC (n + 1) (up n f) ≤ 2000 ∧ (gEs (n + 1) (up n f)).length ≤ 4000 ∧ (gP (n + 1) (up n f)).length ≤ 4000 := by
  rw [up_C, up_E, up_P, List.length_replicate]
  have a := nodes_le n f ht
  have b := ents_len n f ht
  have c := leaves_le n f ht
  have p5 : 5 ^ n ≤ 125 := by
    match n, h3 with
    | 0, _ => decide
    | 1, _ => decide
    | 2, _ => decide
    | 3, _ => decide
  have p4 := pow4' h3
  rw [Nat.pow_succ] at b
  exact ⟨by omega, by omega, by omega⟩
theorem lent_of_G (vs : List V) (H : Hp) (Q : VK) (E : XK) (h : spLEnt vs H Q E) : spLEntG vs H Q E := by
  obtain ⟨n, f, v, rfl, hx, ht, h3, k⟩ := h
  obtain ⟨c1, c2, _⟩ := bnds ht h3
  exact ⟨n + 1, up n f, v, rfl, by rw [up_D]; exact hx, up_H n f ht, by omega, c1, c2, fun l xs es H' a b c d e => k l xs es H' a b c d (by rw [up_E] at e; exact e)⟩
theorem lboxes_of_G (vs : List V) (H : Hp) (Q : VK) (E : XK) (h : spLBoxes vs H Q E) : spLBoxesG vs H Q E := by
  obtain ⟨n, f, v, rfl, hx, ht, h3, k⟩ := h
  obtain ⟨c1, c2, _⟩ := bnds ht h3
  exact ⟨n + 1, up n f, v, rfl, by rw [up_D]; exact hx, up_H n f ht, by omega, c1, c2, fun l xs es H' a b c d e => k l xs es H' a b c d (by rw [up_E] at e; exact e)⟩
theorem joint_of_G (vs : List V) (H : Hp) (Q : VK) (E : XK) (h : spAround vs H Q E) : spJointG vs H Q E := by
  obtain ⟨L, xs, bs, rfl, hL, x, hn, hl, k⟩ := h
  refine ⟨L, xs, bs, rfl, hL, x, hl, fun v H' e t => k v H' e ?_⟩
  have ej : jbD bs = boxD (joint bs) := by
    unfold jbD
    rw [if_neg (by cases bs with | nil => exact absurd rfl hn | cons b r => simp)]
  rw [ej] at t
  exact t
theorem scLHt : FnScope ["form", "height", "here"] ["form"] (defScope sLHt) := ⟨rfl, rfl, rfl, by decide +kernel, rfl, by decide +kernel, by decide +kernel⟩
abbrev nmLHt : List Str := ["form", "height", "here"]
theorem form_hd {n : Nat} {f : Fm n} : ∃ d2, formD n f = .tuple [.str (wd n), d2] := by
  cases n with
  | zero => exact ⟨_, rfl⟩
  | succ n => exact ⟨_, rfl⟩
theorem q_parG (h : ta σ H fun x H1 => tb σ H1 fun y H2 => ∃ v w, [x, y] = [v, w] ∧ tz D ((σ.set i (some v)).set j (some w)) H2) : tSeq (tPar i j (tCons ta (tCons tb tNil))) tz D σ H := h
theorem s_parG (h : ta σ H fun x H1 => tb σ H1 fun y H2 => ∃ v w, [x, y] = [v, w] ∧ D.nx ((σ.set i (some v)).set j (some w)) H2) : tPar i j (tCons ta (tCons tb tNil)) D σ H := h
theorem ok_lht {f : Addr} {fd : FuncData} (F : Fun K "_law_height" "_law_height" sLHt f fd) : FnOk P w K mg base CX0 1 f fd ["form"] spLHt := by
  refine F.ok scLHt (fun vs H Q E h => ?_) (fun cdv A' outer s H vs Q E hr h => ?_)
  · obtain ⟨n, g, v, rfl, _⟩ := h
    rfl
  · obtain ⟨n, g, v, rfl, hx, hz, h3, k⟩ := h
    refine ⟨_, (pss_cons (ps_par (i := 1) (j := 2) (by rfl) scLHt.nd rfl rfl (by decide) rfl rfl (pa_cons (pe_int) (pa_cons (pv 0) pa_nil)) (by rfl))
      (pss_cons (ps_while PassesOwn.never (pt_cmpR op_eq (pe_ix ix_tup (pv 2) pe_int (fun _ _ => rfl)) pe_str (nomark _)) (pss_one (ps_par (i := 1) (j := 2) (by rfl) scLHt.nd rfl rfl (by decide) rfl rfl (pa_cons (pe_op op_add (pv 1) pe_int) (pa_cons (pe_ix ix_tup (pe_ix ix_tup (pe_ix ix_tup (pv 2) pe_int (fun _ _ => rfl)) pe_int (fun _ _ => rfl)) pe_int (fun _ _ => rfl)) pa_nil)) (by rfl))))
      (pss_one (ps_ret (pv 1))))), ?_⟩
    refine q_parG ⟨v, rfl, _, _, rfl, ?_⟩
    refine q_while (fun m σ' H' => ∃ (k : Nat) (h : Fm k) (u : V), σ' = [some v, some (.int ((n - k + 1 : Nat) : Int)), some u] ∧ Ex H H' ∧ TD1 H' u (formD k h) ∧ sizes k h ∧ k ≤ n ∧ m = k) n ⟨n, g, v, by rw [Nat.sub_self]; rfl, Ex.refl _, hx, hz, Nat.le_refl _, rfl⟩ ?_
    rintro m σ' H' ⟨k1, h1, u, rfl, e1, x1, z1, l1, rfl⟩
    obtain ⟨d2, ed⟩ := form_hd (n := m) (f := h1)
    have x1' := x1
    rw [ed] at x1'
    refine ⟨_, et_test (ev_op (ev_ofS (ed_ix (ed_var rfl x1') ⟨by decide, rfl⟩)) ev_c (rv_eq rfl)), fun hb H5 e5 => ?_, fun hb H5 e5 => ?_⟩
    · match m, h1, x1, z1, l1, hb with
      | 0, h1, x1, z1, l1, hb => exact absurd hb (by decide)
      | m + 1, h1, x1, z1, l1, hb =>
        obtain ⟨z2, _, zp⟩ := z1
        obtain ⟨p, r, ep⟩ : ∃ p r, brs h1 = p :: r := by
          match q : brs h1, z2 with
          | p :: r, _ => exact ⟨p, r, rfl⟩
        have x5 : TD1 H5 u (.tuple [.str "node", .tuple (List.map (fun p : Bx × Fm m => PyData.tuple [boxD p.1, formD m p.2]) (brs h1))]) := x1.mono e5
        rw [ep] at x5
        have e2 : EvD (tOp (rIxT K) (tOp (rIxT K) (tOp (rIxT K) (tVar 2) (tC (.int 1))) (tC (.int 0))) (tC (.int 1))) [some v, some (.int ((n - (m + 1) + 1 : Nat) : Int)), some u] H5 (formD m p.2) := ed_ix (ed_ix (ed_ix (ed_var rfl x5) ⟨by decide, rfl⟩) ⟨by decide, rfl⟩) ⟨by decide, rfl⟩
        refine ⟨fun σ2 H2 => ∃ m', m' < m + 1 ∧ _, fun _ _ h => h, ?_⟩
        refine s_parG ⟨_, rfl, _, _, rfl, rfl, e2 H5 (Ex.refl _) _ fun w H6 e6 t6 => ⟨_, _, rfl, m, Nat.lt_succ_self _, m, p.2, w, ?_, (e1.trans e5).trans e6, t6, (zp p (by rw [ep]; exact List.mem_cons_self)).2, by omega, rfl⟩⟩
        have : ((n - (m + 1) + 1 : Nat) : Int) + 1 = ((n - m + 1 : Nat) : Int) := by omega
        show [some v, some (.int (((n - (m + 1) + 1 : Nat) : Int) + 1)), some w] = _
        rw [this]
    · match m, h1, hb with
      | 0, h1, hb => exact ⟨_, rfl, by rw [Nat.sub_zero]; exact k H5 (e1.trans e5)⟩
      | m + 1, h1, hb => exact absurd (show decide (V.str "node" = V.str "node") = false from hb) (by decide)
end
end Q
set_option Elab.async false
set_option linter.all false
set_option maxRecDepth 100000
set_option maxHeartbeats 4000000
/-! flaws by another count -/
namespace Q
open PySem L2 PySem.Spec PyProof.Rows PySem.Calls
open Evl PB
/-! how many different ones -/
theorem diff_oss (ns : List Int) : diffN ns = (PySem.W.ossOf ns).length := by
  unfold diffN
  rw [PySem.W.oss_met]
theorem oss_nd : ∀ l ks : List Int, ks.Nodup → (l.foldl step_dedup ks).Nodup
  | [], ks, h => h
  | a :: l, ks, h => by
    show (l.foldl step_dedup (step_dedup ks a)).Nodup
    refine oss_nd l _ ?_
    rw [PySem.W.oss_step]
    by_cases q : a ∈ ks
    · rw [if_pos q]
      exact h
    · rw [if_neg q]
      exact List.nodup_append.mpr ⟨h, by simp, fun x hx y hy => by
        rw [List.mem_singleton.mp hy]
        rintro rfl
        exact q hx⟩
theorem nd_perm {α : Type} {a b : List α} (ha : a.Nodup) (hb : b.Nodup) (h : ∀ x, x ∈ a ↔ x ∈ b) : a.Perm b := (List.perm_ext_iff_of_nodup ha hb).mpr h
theorem diff_of {ns ks : List Int} (nd : ks.Nodup) (h : ∀ x, x ∈ ks ↔ x ∈ ns) : diffN ns = ks.length := by
  rw [diff_oss]
  exact (nd_perm (oss_nd ns [] .nil) nd fun x => by
    rw [h]
    exact PySem.W.oss_has).length_eq
theorem diff_perm {ns ms : List Int} (p : ns.Perm ms) : diffN ns = diffN ms := by
  rw [diff_oss ms]
  exact diff_of (oss_nd ms [] .nil) fun x => by
    rw [p.mem_iff]
    exact PySem.W.oss_has
/-! the words in their order -/
def fW : List Str := ["box", "depth", "many", "size", "twice"]
def rk (s : Str) : Nat := fW.idxOf s
theorem rk_lt : ∀ x ∈ fW, ∀ y ∈ fW, ltCps x.cps.toList y.cps.toList = decide (rk x < rk y) := by decide +kernel
theorem rk_inj : ∀ x ∈ fW, ∀ y ∈ fW, rk x = rk y → x = y := by decide +kernel
theorem rising_pw : ∀ (r : List Str) (p : Str), (∀ x ∈ p :: r, x ∈ fW) → PyProof.Rows.risingS p r = true → (p :: r).Pairwise fun a b => rk a ≤ rk b
  | [], p, _, _ => by simp
  | x :: r, p, hm, h => by
    have h' : (!ltCps x.cps.toList p.cps.toList && PyProof.Rows.risingS x r) = true := h
    obtain ⟨h1, h2⟩ := Bool.and_eq_true_iff.mp h'
    rw [rk_lt x (hm x (List.mem_cons_of_mem _ List.mem_cons_self)) p (hm p List.mem_cons_self)] at h1
    have l : rk p ≤ rk x := by
      by_cases q : rk x < rk p
      · rw [decide_eq_true q] at h1
        cases h1
      · omega
    have ih := rising_pw r x (fun y hy => hm y (List.mem_cons_of_mem _ hy)) h2
    refine List.pairwise_cons.mpr ⟨fun y hy => ?_, ih⟩
    rcases List.mem_cons.mp hy with rfl | hy
    · exact l
    · exact Nat.le_trans l ((List.pairwise_cons.mp ih).1 y hy)
theorem sorted_pw {ys : List Str} (hm : ∀ x ∈ ys, x ∈ fW) (h : PyProof.Rows.sortedS ys = true) : ys.Pairwise fun a b => rk a ≤ rk b := by
  cases ys with
  | nil => exact .nil
  | cons y ys => exact rising_pw ys y hm h
theorem fwN_sub (ws : List (Str × Bool)) : (fwN ws).Sublist (ws.map (·.1)) := by
  unfold fwN
  exact List.filter_sublist.map _
theorem fW_pw : fW.Pairwise fun a b => rk a ≤ rk b := by decide +kernel
theorem fW_nd : fW.Nodup := by decide +kernel
/-- the sorted words of the flaws found are the flaws -/
theorem flaws_sorted {n : Nat} {g : Gm n} {ks ys : List Str} (nd : ks.Nodup) (h : ∀ s, s ∈ ks ↔ s ∈ flaws n g) (p : ys.Perm ks) (hs : PyProof.Rows.sortedS ys = true) : ys = flaws n g := by
  have sub : (flaws n g).Sublist fW := fwN_sub (flW n g)
  have pf : ys.Perm (flaws n g) := p.trans (nd_perm nd (List.Nodup.sublist sub fW_nd) h)
  have hm : ∀ x ∈ ys, x ∈ fW := fun x hx => sub.subset (pf.mem_iff.mp hx)
  exact List.Perm.eq_of_pairwise (fun a b ha hb h1 h2 => rk_inj a (hm a ha) b (sub.subset hb) (Nat.le_antisymm h1 h2)) (sorted_pw hm hs) (List.Pairwise.sublist sub fW_pw) pf
theorem mem_flaws {n : Nat} {g : Gm n} (s : Str) : s ∈ flaws n g ↔ (s = "box" ∧ gB n g = false) ∨ (s = "depth" ∧ 1 < diffN (gP n g)) ∨ (s = "many" ∧ 300 < (gEs n g).length) ∨ (s = "size" ∧ gS n g = false) ∨ (s = "twice" ∧ diffN ((gEs n g).map (·.1)) < (gEs n g).length) := by
  unfold flaws fwN flW gFl
  rw [List.mem_map]
  constructor
  · rintro ⟨p, hp, rfl⟩
    obtain ⟨hp, ht⟩ := List.mem_filter.mp hp
    rcases List.mem_cons.mp hp with rfl | hp
    · exact .inl ⟨rfl, by
        cases q : gB n g with
        | false => rfl
        | true => rw [q] at ht; cases ht⟩
    rcases List.mem_cons.mp hp with rfl | hp
    · exact .inr (.inl ⟨rfl, of_decide_eq_true ht⟩)
    rcases List.mem_cons.mp hp with rfl | hp
    · exact .inr (.inr (.inl ⟨rfl, of_decide_eq_true ht⟩))
    rcases List.mem_cons.mp hp with rfl | hp
    · exact .inr (.inr (.inr (.inl ⟨rfl, by
        cases q : gS n g with
        | false => rfl
        | true => rw [q] at ht; cases ht⟩)))
    rw [List.mem_singleton.mp hp] at ht ⊢
    exact .inr (.inr (.inr (.inr ⟨rfl, of_decide_eq_true ht⟩)))
  · rintro (⟨rfl, h⟩ | ⟨rfl, h⟩ | ⟨rfl, h⟩ | ⟨rfl, h⟩ | ⟨rfl, h⟩)
    · exact ⟨("box", !gB n g), List.mem_filter.mpr ⟨by simp, by rw [h]; rfl⟩, rfl⟩
    · exact ⟨("depth", decide (1 < diffN (gP n g))), List.mem_filter.mpr ⟨by simp, decide_eq_true h⟩, rfl⟩
    · exact ⟨("many", decide (300 < (gEs n g).length)), List.mem_filter.mpr ⟨by simp, decide_eq_true h⟩, rfl⟩
    · exact ⟨("size", !gS n g), List.mem_filter.mpr ⟨by simp, by rw [h]; rfl⟩, rfl⟩
    · exact ⟨("twice", decide (diffN ((gEs n g).map (·.1)) < (gEs n g).length)), List.mem_filter.mpr ⟨by simp, decide_eq_true h⟩, rfl⟩
/-! a dict of words or numbers, all told True -/
def trueK (ks : List Key) : List (Key × V) := ks.map fun k => (k, .bl true)
def hasK (ks : List Key) (k : Key) : Bool := ks.any fun j => decide (j = k)
theorem hasK_iff {ks : List Key} {k : Key} : hasK ks k = true ↔ k ∈ ks := by
  unfold hasK
  rw [List.any_eq_true]
  constructor
  · rintro ⟨j, hj, e⟩
    rw [← of_decide_eq_true e]
    exact hj
  · exact fun h => ⟨k, h, decide_eq_true rfl⟩
def addK (ks : List Key) (k : Key) : List Key := if hasK ks k = true then ks else ks ++ [k]
theorem put_trueK (ks : List Key) (k : Key) : putK (trueK ks) k (.bl true) = trueK (addK ks k) := by
  unfold putK trueK addK
  by_cases h : hasK ks k = true
  · have h' := hasK_iff.mp h
    rw [if_pos h, if_pos (List.any_eq_true.mpr ⟨(k, .bl true), List.mem_map.mpr ⟨k, h', rfl⟩, decide_eq_true rfl⟩), List.map_map]
    refine List.map_congr_left fun a ha => ?_
    show (if a = k then (a, V.bl true) else (a, V.bl true)) = (a, V.bl true)
    split <;> rfl
  · rw [if_neg h, if_neg (fun z => by
      obtain ⟨p, hp, e⟩ := List.any_eq_true.mp z
      obtain ⟨a, ha, rfl⟩ := List.mem_map.mp hp
      have e : a = k := of_decide_eq_true e
      rw [e] at ha
      exact h (hasK_iff.mpr ha)), List.map_append]
    rfl
theorem addK_nd {ks : List Key} {k : Key} (h : ks.Nodup) : (addK ks k).Nodup := by
  unfold addK
  by_cases q : hasK ks k = true
  · rw [if_pos q]
    exact h
  · rw [if_neg q]
    exact List.nodup_append.mpr ⟨h, by simp, fun x hx y hy => by
      rw [List.mem_singleton.mp hy]
      rintro rfl
      exact q (hasK_iff.mpr hx)⟩
theorem addK_mem {ks : List Key} {k x : Key} : x ∈ addK ks k ↔ x ∈ ks ∨ x = k := by
  unfold addK
  by_cases q : hasK ks k = true
  · rw [if_pos q]
    constructor
    · exact .inl
    · rintro (h | rfl)
      · exact h
      · exact hasK_iff.mp q
  · rw [if_neg q, List.mem_append, List.mem_singleton]
theorem addK_len {ks : List Key} {k : Key} : (addK ks k).length ≤ ks.length + 1 := by
  unfold addK
  by_cases q : hasK ks k = true
  · rw [if_pos q]
    omega
  · rw [if_neg q, List.length_append]
    exact Nat.le_refl _
end Q
set_option Elab.async false
set_option linter.all false
set_option maxRecDepth 100000
set_option maxHeartbeats 4000000
/-! a key told if; steps of the count -/
namespace Q
open PySem L2 PySem.Spec PyProof.Rows PySem.Calls
open Evl PB
def optK (b : Bool) (ks : List Key) (k : Key) : List Key := if b = true then addK ks k else ks
theorem optK_mem {b : Bool} {ks : List Key} {k x : Key} : x ∈ optK b ks k ↔ x ∈ ks ∨ (x = k ∧ b = true) := by
  unfold optK
  cases b with
  | true => rw [if_pos rfl, addK_mem]; simp
  | false => rw [if_neg (by decide)]; simp
theorem optK_nd {b : Bool} {ks : List Key} {k : Key} (h : ks.Nodup) : (optK b ks k).Nodup := by
  unfold optK
  cases b with
  | true => rw [if_pos rfl]; exact addK_nd h
  | false => rw [if_neg (by decide)]; exact h
theorem optK_len {b : Bool} {ks : List Key} {k : Key} : (optK b ks k).length ≤ ks.length + 1 := by
  unfold optK
  cases b with
  | true => rw [if_pos rfl]; exact addK_len
  | false => rw [if_neg (by decide)]; omega
theorem kf_step {kf : List Key} {A B : Key} {fs fb c1 c2 : Bool} (h : ∀ s, s ∈ kf ↔ (s = A ∧ fs = true) ∨ (s = B ∧ fb = true)) (s : Key) : s ∈ optK c2 (optK c1 kf A) B ↔ (s = A ∧ (fs || c1) = true) ∨ (s = B ∧ (fb || c2) = true) := by
  rw [optK_mem, optK_mem, h, Bool.or_eq_true, Bool.or_eq_true]
  constructor
  · rintro (((⟨a, b⟩ | ⟨a, b⟩) | ⟨a, b⟩) | ⟨a, b⟩)
    · exact .inl ⟨a, .inl b⟩
    · exact .inr ⟨a, .inl b⟩
    · exact .inl ⟨a, .inr b⟩
    · exact .inr ⟨a, .inr b⟩
  · rintro (⟨a, b | b⟩ | ⟨a, b | b⟩)
    · exact .inl (.inl (.inl ⟨a, b⟩))
    · exact .inl (.inr ⟨a, b⟩)
    · exact .inl (.inl (.inr ⟨a, b⟩))
    · exact .inr ⟨a, b⟩
/-- a dict's key told True -/
theorem put_here {te : TE} {σ : L2.St} {H : Hp} {F : Addr} {ks : List Key} {k : Key} {D : Ends} {i : Nat} (hF : H F = some (.dK (trueK ks))) (hi : σ[i]? = some (some (.ref F))) (hl : ks.length < 90000) (hk : Ev te σ H (kV k)) (q : ∀ H1, Ex H H1 → D.nx σ (upd H1 F (.dK (trueK (addK ks k))))) : sDPut (tVar i) te (tC (.bl true)) D σ H := by
  refine ⟨_, hi, hk H (Ex.refl _) _ fun H1 e1 => ⟨F, _, rfl, .inl ⟨trueK ks, k, e1 _ _ hF, rfl, sz_lt (by
    unfold trueK
    rw [List.length_map]
    omega), rfl⟩, ?_⟩⟩
  rw [put_trueK]
  exact q H1 e1
theorem upd_at {H : Hp} {a : Addr} {o : HO} (h : H a = some o) : upd H a o = H := by
  funext b
  by_cases e : b = a
  · rw [e, upd_same, h]
  · rw [upd_ne e]
section
variable {t : TT} {tz tu tw : TS} {D : Ends} {σ : L2.St} {H : Hp} {i : Nat} {F : Addr} {ks : List Key} {s : Str} {b : Bool}
theorem q_if (h : EvT t σ H b) (h1 : b = true → ∀ H1, Ex H H1 → tu { D with nx := tz D } σ H1) (h2 : b = false → ∀ H1, Ex H H1 → tw { D with nx := tz D } σ H1) : tSeq (tIfS t tu tw) tz D σ H := s_if (D := { D with nx := tz D }) h h1 h2
theorem s_optPut (h : EvT t σ H b) (hi : σ[i]? = some (some (.ref F))) (hF : H F = some (.dK (trueK ks))) (hl : ks.length < 90000) (q : ∀ H1, Ex H H1 → D.nx σ (upd H1 F (.dK (trueK (optK b ks (.inr s)))))) : tIfS t (sDPut (tVar i) (tC (.str s)) (tC (.bl true))) tNext D σ H := by
  refine s_if h (fun hb H1 e1 => ?_) (fun hb H1 e1 => ?_)
  · refine put_here (k := .inr s) (e1 _ _ hF) hi hl ev_c fun H2 e2 => ?_
    have z := q H2 (e1.trans e2)
    rw [hb] at z
    exact z
  · have z := q H1 e1
    rw [hb] at z
    have e : upd H1 F (.dK (trueK (optK false ks (.inr s)))) = H1 := upd_at (e1 _ _ hF)
    rw [e] at z
    exact z
theorem q_optPut (h : EvT t σ H b) (hi : σ[i]? = some (some (.ref F))) (hF : H F = some (.dK (trueK ks))) (hl : ks.length < 90000) (q : ∀ H1, Ex H H1 → tz D σ (upd H1 F (.dK (trueK (optK b ks (.inr s)))))) : tSeq (tIfS t (sDPut (tVar i) (tC (.str s)) (tC (.bl true))) tNext) tz D σ H := s_optPut (D := { D with nx := tz D }) h hi hF hl q
theorem ev_ifI {x y : Int} (h : EvT t σ H b) : Ev (tIf t (tC (.int x)) (tC (.int y))) σ H (.int (if b = true then x else y)) := fun H1 e Q q => h H1 e _ fun H2 e2 => by
  cases b with
  | true =>
    show (if true = true then _ else _)
    rw [if_pos rfl]
    exact q H2 e2
  | false =>
    show (if false = true then _ else _)
    rw [if_neg (by decide)]
    exact q H2 e2
end
theorem inr_list : ∀ {kf : List Key}, (∀ k ∈ kf, ∃ s : Str, k = .inr s) → ∃ ks : List Str, kf = ks.map Sum.inr
  | [], _ => ⟨[], rfl⟩
  | k :: kf, h => by
    obtain ⟨s, rfl⟩ := h k List.mem_cons_self
    obtain ⟨ks, rfl⟩ := inr_list fun x hx => h x (List.mem_cons_of_mem _ hx)
    exact ⟨s :: ks, rfl⟩
theorem inl_list : ∀ {kf : List Key}, (∀ k ∈ kf, ∃ s : Int, k = .inl s) → ∃ ks : List Int, kf = ks.map Sum.inl
  | [], _ => ⟨[], rfl⟩
  | k :: kf, h => by
    obtain ⟨s, rfl⟩ := h k List.mem_cons_self
    obtain ⟨ks, rfl⟩ := inl_list fun x hx => h x (List.mem_cons_of_mem _ hx)
    exact ⟨s :: ks, rfl⟩
theorem nd_of_map {α β : Type} {f : α → β} {l : List α} (h : (l.map f).Nodup) : l.Nodup := by
  induction l with
  | nil => exact .nil
  | cons a l ih =>
    rw [List.map_cons] at h
    obtain ⟨h1, h2⟩ := List.nodup_cons.mp h
    exact List.nodup_cons.mpr ⟨fun z => h1 (List.mem_map.mpr ⟨a, z, rfl⟩), ih h2⟩
theorem depth_count {kd : List Key} {ps : List Int} (nd : kd.Nodup) (hi : ∀ s ∈ kd, ∃ i, s = .inl i) (h : ∀ i : Int, .inl i ∈ kd ↔ i ∈ ps.map (· + 1)) : kd.length = diffN ps := by
  obtain ⟨is, rfl⟩ := inl_list hi
  have nd1 := nd_of_map nd
  have z : diffN ps = (is.map (· - 1)).length := diff_of (by
    clear h hi nd
    induction is with
    | nil => exact .nil
    | cons a l ih =>
      obtain ⟨h1, h2⟩ := List.nodup_cons.mp nd1
      rw [List.map_cons]
      refine List.nodup_cons.mpr ⟨fun z => ?_, ih h2⟩
      obtain ⟨b, hb, e⟩ := List.mem_map.mp z
      have : b = a := by omega
      rw [this] at hb
      exact h1 hb) fun x => by
    constructor
    · intro hx
      obtain ⟨b, hb, rfl⟩ := List.mem_map.mp hx
      obtain ⟨p, hp, e⟩ := List.mem_map.mp ((h b).mp (List.mem_map.mpr ⟨b, hb, rfl⟩))
      have : p = b - 1 := by omega
      rw [← this]
      exact hp
    · intro hx
      obtain ⟨b, hb, e⟩ := List.mem_map.mp ((h (x + 1)).mpr (List.mem_map.mpr ⟨x, hx, rfl⟩))
      have : b = x + 1 := Sum.inl.inj e
      exact List.mem_map.mpr ⟨b, hb, by omega⟩
  rw [z, List.length_map, List.length_map]
theorem ev_lenDR {te : TE} {σ : L2.St} {H : Hp} {D : Addr} {kvs : List (Key × V)} (h : Ev te σ H (.ref D)) (hD : H D = some (.dK kvs)) : Ev (tCB (fun xs H Q => ∃ a kvs, xs = [V.ref a] ∧ Rd H a (.dK kvs) ∧ Q (.int kvs.length) H) (tCons te tNil)) σ H (.int kvs.length) := fun H1 e Q q => h H1 e _ fun H2 e2 => ⟨D, kvs, rfl, .inl ((e.trans e2) _ _ hD), q H2 e2⟩
end Q
set_option Elab.async false
set_option linter.all false
set_option maxRecDepth 100000
set_option maxHeartbeats 8000000
/-! the law's own flaws -/
namespace PB
open PySem
/-- what waits: a form, its depth, its box -/
structure Wa where
  w : Sh
  d : Int
  b : Option Bx
def obD : Option Bx → PyData
  | none => .none
  | some x => boxD x
def waD (x : Wa) : PyData := .tuple [shD x.w, .int x.d, obD x.b]
def waS (o : Bool) (x : Wa) : Bool := if o = true then gS x.w.1 x.w.2 else decide (2 ≤ gW x.w.1 x.w.2) && gS x.w.1 x.w.2
def ownB (x : Wa) : Bool := match x.b with
  | none => true
  | some b => arB b (shE x.w)
def waB (x : Wa) : Bool := ownB x && gB x.w.1 x.w.2
def waN (x : Wa) : List Int := (shE x.w).map (·.1)
def waP (x : Wa) : List Int := (gP x.w.1 x.w.2).map (· + x.d)
theorem any_one {α : Type} (p : α → Bool) (l : List α) (x : α) : (l ++ [x]).any p = (l.any p || p x) := by rw [List.any_append]; simp
end PB
namespace Q
open PySem L2 PySem.Spec PyProof.Rows PySem.Calls
open Evl PB
abbrev sLFl : Stmt := top 54
/-- four things of one's own -/
structure Four (F N D W : Addr) : Prop where
  fn : F ≠ N
  fd : F ≠ D
  fw : F ≠ W
  nd : N ≠ D
  nw : N ≠ W
  dw : D ≠ W
/-- the walk's state -/
structure LS (F N D W : Addr) (H1 H : Hp) (kf kd : List Key) (ns : List Int) (ws : List Wa) : Prop where
  kp : Kp [F, N, D, W] H1 H
  hf : H F = some (.dK (trueK kf))
  hd : H D = some (.dK (trueK kd))
  hn : ∃ xs, H N = some (.lst xs) ∧ TDs H xs (ns.map PyData.int)
  hw : ∃ ys, H W = some (.lst ys) ∧ TDs H ys (ws.map waD)
section
variable {F N D W : Addr} {H1 H H' : Hp} {kf kd kf' kd' : List Key} {ns ms : List Int} {ws ws' : List Wa}
theorem LS.ex (s : LS F N D W H1 H kf kd ns ws) (e : Ex H H') : LS F N D W H1 H' kf kd ns ws := by
  obtain ⟨a, b, c, ⟨xs, d1, d2⟩, ys, f1, f2⟩ := s
  exact ⟨a.ex e, e _ _ b, e _ _ c, ⟨xs, e _ _ d1, d2.mono e⟩, ys, e _ _ f1, f2.mono e⟩
theorem LS.found (q : Four F N D W) (s : LS F N D W H1 H kf kd ns ws) : LS F N D W H1 (upd H F (.dK (trueK kf'))) kf' kd ns ws ∧ TKp H (upd H F (.dK (trueK kf'))) := by
  obtain ⟨a, b, c, ⟨xs, d1, d2⟩, ys, f1, f2⟩ := s
  have tk : TKp H (upd H F (.dK (trueK kf'))) := upd_tupD b
  exact ⟨⟨a.upd (by simp), upd_same, by rw [upd_ne q.fd.symm]; exact c, ⟨xs, by rw [upd_ne q.fn.symm]; exact d1, d2.by tk⟩, ys, by rw [upd_ne q.fw.symm]; exact f1, f2.by tk⟩, tk⟩
theorem LS.dep (q : Four F N D W) (s : LS F N D W H1 H kf kd ns ws) : LS F N D W H1 (upd H D (.dK (trueK kd'))) kf kd' ns ws ∧ TKp H (upd H D (.dK (trueK kd'))) := by
  obtain ⟨a, b, c, ⟨xs, d1, d2⟩, ys, f1, f2⟩ := s
  have tk : TKp H (upd H D (.dK (trueK kd'))) := upd_tupD c
  exact ⟨⟨a.upd (by simp), by rw [upd_ne q.fd]; exact b, upd_same, ⟨xs, by rw [upd_ne q.nd]; exact d1, d2.by tk⟩, ys, by rw [upd_ne q.dw.symm]; exact f1, f2.by tk⟩, tk⟩
theorem LS.nums (q : Four F N D W) (s : LS F N D W H1 H kf kd ns ws) {xs zs : List V} (hx : H N = some (.lst xs)) (t : TDs H zs (ms.map PyData.int)) : LS F N D W H1 (upd H N (.lst (xs ++ zs))) kf kd (ns ++ ms) ws ∧ TKp H (upd H N (.lst (xs ++ zs))) := by
  obtain ⟨a, b, c, ⟨xs', d1, d2⟩, ys, f1, f2⟩ := s
  rw [hx] at d1
  cases d1
  have tk : TKp H (upd H N (.lst (xs ++ zs))) := upd_tup hx
  exact ⟨⟨a.upd (by simp), by rw [upd_ne q.fn]; exact b, by rw [upd_ne q.nd.symm]; exact c, ⟨_, upd_same, by rw [List.map_append]; exact (d2.app t).by tk⟩, ys, by rw [upd_ne q.nw.symm]; exact f1, f2.by tk⟩, tk⟩
theorem LS.waits (q : Four F N D W) (s : LS F N D W H1 H kf kd ns ws) {zs : List V} (t : TDs H zs (ws'.map waD)) : LS F N D W H1 (upd H W (.lst zs)) kf kd ns ws' ∧ TKp H (upd H W (.lst zs)) := by
  obtain ⟨a, b, c, ⟨xs, d1, d2⟩, ys, f1, f2⟩ := s
  have tk : TKp H (upd H W (.lst zs)) := upd_tup f1
  exact ⟨⟨a.upd (by simp), by rw [upd_ne q.fw]; exact b, by rw [upd_ne q.dw]; exact c, ⟨xs, by rw [upd_ne q.nw]; exact d1, d2.by tk⟩, zs, upd_same, t.by tk⟩, tk⟩
end
def spLFl : Sp := fun vs H Q _ => ∃ (n : Nat) (g : Gm n) (v : V), vs = [v] ∧ TD1 H v (gD n g) ∧ gT n g ∧ n ≤ 4 ∧ gC n g ≤ 2000 ∧ (gEs n g).length ≤ 4000 ∧ ∀ l H', H l = none → Ex H H' → H' l = some (.lst ((flaws n g).map V.str)) → Q (.ref l) H'
theorem small_wa (x : Wa) (h : x.w.1 ≤ 4) : (waD x).canLay0 = true ∧ (waD x).depth ≤ 60 := by
  have z := small_formG x.w.1 x.w.2
  have b : (obD x.b).canLay0 = true ∧ (obD x.b).depth ≤ 16 := by
    cases x.b with
    | none => exact ⟨rfl, by decide⟩
    | some y => exact ⟨(small_box y).1, Nat.le_trans (small_box y).2 (by decide)⟩
  have q := lay_tup (ds := [shD x.w, .int x.d, obD x.b]) (k := 16) fun d hd => by
    rcases List.mem_cons.mp hd with rfl | hd
    · exact ⟨z.1, Nat.le_trans z.2 (by omega)⟩
    rcases List.mem_cons.mp hd with rfl | hd
    · exact ⟨rfl, by show 0 ≤ 16; decide⟩
    rw [List.mem_singleton.mp hd]
    exact b
  exact ⟨q.1, Nat.le_trans q.2 (by decide)⟩
section
variable {P : Program} {w : World} {K : PySem.W.Frag} {mg : Str → Option Value} {base : Heap}
abbrev nmLFl : List Str := ["form", "found", "numbers", "depths", "outermost", "waits", "word", "items", "depth", "box", "least", "one", "branch"]
theorem scLFl : FnScope nmLFl ["form"] (defScope sLFl) := ⟨rfl, rfl, rfl, by decide +kernel, rfl, by decide +kernel, by decide +kernel⟩
theorem eqv_joint (b : Bx) (es : List (Int × Bx)) {bs : List Bx} (p : bs.Perm (es.map (·.2))) : PyData.eqv (boxD b) (jbD bs) = arB b es := by
  rw [jbD_perm p]
  unfold jbD arB
  cases es with
  | nil => rfl
  | cons e es =>
    rw [if_neg (by simp), eqv_box]
    show bxEq b _ = (true && bxEq _ b)
    rw [Bool.true_and]
    cases h : bxEq b (joint ((e :: es).map (·.2))) with
    | true =>
      rw [bxEq_iff.mp h]
      exact (bxEq_iff.mpr rfl).symm
    | false =>
      cases h2 : bxEq (joint ((e :: es).map (·.2))) b with
      | false => rfl
      | true =>
        rw [bxEq_iff.mp h2, bxEq_iff.mpr rfl] at h
        cases h
theorem go_joint {te : TE} {σ : L2.St} {H : Hp} {Q : VK} (h : te σ H fun v H1 => spLBoxesG [v] H1 (fun w H2 => spJointG [w] H2 Q E0) E0) : tCall spJointG [] E0 (tCons (tCall spLBoxesG [] E0 (tCons te tNil)) tNil) σ H Q := h
theorem et_own {σ : L2.St} {H : Hp} {n : Nat} {g : Gm n} {ob : Option Bx} {u3 w2 : V} {wd : Str} {ds : List PyData} (h9 : σ[9]? = some (some u3)) (h6 : σ[6]? = some (some (.str wd))) (h7 : σ[7]? = some (some w2)) (t3 : TD1 H u3 (obD ob)) (t7 : TD1 H w2 (.tuple ds)) (ed : gD n g = .tuple [.str wd, .tuple ds]) (hg : gH n g) (h4 : n ≤ 4) (hc : gC n g ≤ 2000) (he : (gEs n g).length ≤ 4000) (d : Int) :
    EvT (tAnd (tTest (tOp rNotN (tVar 9) (tC .non))) (tTest (tOp (rNeD K) (tVar 9) (tCall spJointG [] E0 (tCons (tCall spLBoxesG [] E0 (tCons (tTup (tCons (tVar 6) (tCons (tVar 7) tNil))) tNil)) tNil))))) σ H (!ownB ⟨⟨n, g⟩, d, ob⟩) := by
  cases ob with
  | none =>
    have t3 : TD1 H u3 .none := t3
    cases t3
    exact et_and (a := false) (b := true) (fun H1 e1 Q q => ⟨_, h9, rfl, _, rfl, q H1 (Ex.refl _)⟩) fun z => nomatch z
  | some b =>
    have t3 : TD1 H u3 (boxD b) := t3
    obtain ⟨a3, xs3, rfl, ha3, _⟩ := id t3.tup
    refine et_is (et_and (a := true) (b := !arB b (gEs n g)) (fun H1 e1 Q q => ⟨_, h9, rfl, _, rfl, q H1 (Ex.refl _)⟩) fun _ => et_test fun H1 e1 Q q => ?_) (by rw [Bool.true_and]; rfl)
    refine ⟨_, h9, ?_⟩
    have tt : EvD (tTup (tCons (tVar 6) (tCons (tVar 7) tNil))) σ H1 (gD n g) := by
      rw [ed]
      exact ed_tup (da_cons (ed_str (ev_var h6)) (da_cons (ed_var h7 (t7.mono e1)) da_nil)) (by show 2 ≤ 100000; decide)
    dsimp only
    refine go_joint (tt H1 (Ex.refl _) _ fun v2 H2 e2 x2 => ⟨n, g, v2, rfl, x2, hg, h4, hc, he, fun l xs bs H3 hl0 e3 hl tl pm => ⟨l, xs, bs, rfl, hl, tl, by rw [pm.length_eq, List.length_map]; omega, fun v4 H4 e4 x4 => ?_⟩⟩)
    refine ⟨boxD b, jbD bs, (t3.mono (((e1.trans e2).trans e3).trans e4)).dp, x4.dp, shaped_box _, ?_, ?_⟩
    · unfold jbD
      cases bs with
      | nil => rfl
      | cons b r =>
        rw [if_neg (by simp)]
        exact shaped_box _
    · rw [eqv_joint b (gEs n g) pm]
      exact q H4 ((e2.trans e3).trans e4)
theorem ok_lfl {f : Addr} {fd : FuncData} (F : Fun K "_law_flaws" "_law_flaws" sLFl f fd) (T : TB mg) (St : TSt mg) (So : TSo mg) (CB : Cl P w K mg base 2 "_law_boxes_in" spLBoxesG) (CJ : Cl P w K mg base 1 "_law_joint_box" spJointG) : FnOk P w K mg base CX0 3 f fd ["form"] spLFl := by
  refine F.ok scLFl (fun vs H Q E h => ?_) (fun cdv A' outer s H vs Q E hr h => ?_)
  · obtain ⟨n, g, v, rfl, _⟩ := h
    rfl
  · obtain ⟨n, g, v, rfl, hx, ht, h4, hc, he, k⟩ := h
    have hu4 := hr.units
    refine ⟨_, (pss_cons (ps_asg (pe_tup (pa_cons (pe_dnewK) (pa_cons (pe_lst pa_nil) (pa_cons (pe_dnewK) (pa_cons (pe_bl) pa_nil))))) (pg_tup (by rfl) (pgs_cons (pg_name (i := 1) scLFl.nd rfl (Or.inl rfl)) (pgs_cons (pg_name (i := 2) scLFl.nd rfl (Or.inl rfl)) (pgs_cons (pg_name (i := 3) scLFl.nd rfl (Or.inl rfl)) (pgs_cons (pg_name (i := 4) scLFl.nd rfl (Or.inl rfl)) pgs_nil))))))
      (pss_cons (ps_set (i := 5) scLFl.nd rfl (Or.inl rfl) (pe_lst (pa_cons (pe_tup (pa_cons (pv 0) (pa_cons (pe_int) (pa_cons (pe_non) pa_nil)))) pa_nil)))
      (pss_cons (ps_while PassesOwn.never (pt_cmpR (op_neD hu4) (pv 5) (pe_lst pa_nil) (nomark _)) (pss_cons (ps_asg (pe_bm0 PySem.F.plainAttrs_list PySem.F.slot_list_pop PySem.F.type_list_pop mt_pop (pv 5)) (pg_tup (by rfl) (pgs_cons (pg_tup (by rfl) (pgs_cons (pg_name (i := 6) scLFl.nd rfl (Or.inl rfl)) (pgs_cons (pg_name (i := 7) scLFl.nd rfl (Or.inl rfl)) pgs_nil))) (pgs_cons (pg_name (i := 8) scLFl.nd rfl (.inr rfl)) (pgs_cons (pg_name (i := 9) scLFl.nd rfl (Or.inl rfl)) pgs_nil)))))
        (pss_cons (ps_set (i := 10) scLFl.nd rfl (Or.inl rfl) (pe_ifExp (pw_and (pt_val (pv 4)) (pw_and1 (pt_cmpR op_eq (pv 6) pe_str (nomark _)))).pt pe_int pe_int))
        (pss_cons (ps_set (i := 4) scLFl.nd rfl (Or.inl rfl) pe_bl)
        (pss_cons (ps_if (pt_not (pt_chain op_le op_le (pv 10) (pe_callB call_len_seq (by rfl) T.len PySem.boot_len (pa_cons (pv 7) pa_nil)) pe_int)) (pss_one (ps_dput (hu_of hr) (pv 1) pe_str pe_bl (by rfl))) pss_nil)
        (pss_cons (ps_if (pt_cmpR op_eq (pv 6) pe_str (nomark _)) (pss_cons (ps_dput (hu_of hr) (pv 3) (pv 8) pe_bl (by rfl))
          (pss_one (ps_expr (pe_bm PySem.F.plainAttrs_list PySem.F.slot_list_extend PySem.F.type_list_extend mt_extend (pv 2) (pa_cons (pe_lc (own := [("one", 11)]) (g := gName 11) (by rfl) scLFl.nd (pi_tup (pv 7))
        (blkOk_by (own := [("one", 11)]) (N := nmLFl) (sc := defScope sLFl) (by decide +kernel))
        (fun _ _ _ _ _ => by exact (pg_name (i := 11) scLFl.nd rfl (Or.inl rfl))) (fun _ _ _ _ _ => pts_nil)
        (te := (tOp (rIxT K) (tVar 11) (tC (.int 0)))) (fun _ _ _ _ _ => by exact (pe_ix ix_tup (pv 11) pe_int (fun _ _ => rfl)))) pa_nil))))) (pss_one (ps_expr (pe_bm PySem.F.plainAttrs_list PySem.F.slot_list_extend PySem.F.type_list_extend mt_extend (pv 5) (pa_cons (pe_lc (own := [("branch", 12)]) (g := gName 12) (by rfl) scLFl.nd (pi_tup (pv 7))
        (blkOk_by (own := [("branch", 12)]) (N := nmLFl) (sc := defScope sLFl) (by decide +kernel))
        (fun _ _ _ _ _ => by exact (pg_name (i := 12) scLFl.nd rfl (Or.inl rfl))) (fun _ _ _ _ _ => pts_nil)
        (te := (tTup (tCons (tOp (rIxT K) (tVar 12) (tC (.int 1))) (tCons (tOp (rI0 fun i j => .int (i + j)) (tVar 8) (tC (.int 1))) (tCons (tOp (rIxT K) (tVar 12) (tC (.int 0))) tNil))))) (fun _ _ _ _ _ => by exact (pe_tup (by exact (pa_cons (pe_ix ix_tup (pv 12) pe_int (fun _ _ => rfl)) (pa_cons (pe_op op_add (pv 8) pe_int) (pa_cons (pe_ix ix_tup (pv 12) pe_int (fun _ _ => rfl)) pa_nil))))))) pa_nil)))))
        (pss_one (ps_if (pw_and (pt_cmpR op_notN1 (pv 9) pe_non (nomark _)) (pw_and1 (pt_cmpR (op_neD hu4) (pv 9) (pe_cl CJ hr (by decide) (by rfl) (pa_cons (pe_cl CB hr (by decide) (by rfl) (pa_cons (pe_tup (pa_cons (pv 6) (pa_cons (pv 7) pa_nil))) pa_nil)) pa_nil)) (nomark _)))).pt (pss_one (ps_dput (hu_of hr) (pv 1) pe_str pe_bl (by rfl))) pss_nil))))))))
      (pss_cons (ps_if (pt_cmpR op_gt (pe_callB d_lenR (by rfl) T.len PySem.boot_len (pa_cons (pv 3) pa_nil)) pe_int (nomark _)) (pss_one (ps_dput (hu_of hr) (pv 1) pe_str pe_bl (by rfl))) pss_nil)
      (pss_cons (ps_if (pt_cmpR op_gt (pe_callB call_len_seq (by rfl) T.len PySem.boot_len (pa_cons (pv 2) pa_nil)) pe_int (nomark _)) (pss_one (ps_dput (hu_of hr) (pv 1) pe_str pe_bl (by rfl))) pss_nil)
      (pss_cons (ps_if (pt_cmpR op_lt (pe_lenSetA (by rfl) T.len (by rfl) St.set (pv 2)) (pe_callB call_len_seq (by rfl) T.len PySem.boot_len (pa_cons (pv 2) pa_nil)) (nomark _)) (pss_one (ps_dput (hu_of hr) (pv 1) pe_str pe_bl (by rfl))) pss_nil)
      (pss_one (ps_ret (pe_callB (call_sortedD rfl) (by rfl) So.sorted (by decide +kernel) (pa_cons (pv 1) pa_nil)))))))))), ?_⟩
    -- found, numbers, depths, outermost
    refine q_asgG fun Fd nF => ?_
    refine ⟨by decide, fun Nl nN => ?_⟩
    intro Dd nD
    refine ⟨sz_of (by show 4 ≤ 100000; decide), fun tp nT => ?_⟩
    have qFN : Fd ≠ Nl := fun z => by rw [← z, upd_same] at nN; cases nN
    have n0N : H Nl = none := by rw [upd_ne qFN.symm] at nN; exact nN
    have qND : Nl ≠ Dd := fun z => by rw [← z, upd_same] at nD; cases nD
    have nD1 : upd H Fd (.dK []) Dd = none := by rw [upd_ne qND.symm] at nD; exact nD
    have qFD : Fd ≠ Dd := fun z => by rw [← z, upd_same] at nD1; cases nD1
    have n0D : H Dd = none := by rw [upd_ne qFD.symm] at nD1; exact nD1
    have qDT : Dd ≠ tp := fun z => by rw [← z, upd_same] at nT; cases nT
    have nT1 : upd (upd H Fd (.dK [])) Nl (.lst []) tp = none := by rw [upd_ne qDT.symm] at nT; exact nT
    have qNT : Nl ≠ tp := fun z => by rw [← z, upd_same] at nT1; cases nT1
    have nT2 : upd H Fd (.dK []) tp = none := by rw [upd_ne qNT.symm] at nT1; exact nT1
    have qFT : Fd ≠ tp := fun z => by rw [← z, upd_same] at nT2; cases nT2
    have n0T : H tp = none := by rw [upd_ne qFT.symm] at nT2; exact nT2
    refine ⟨tp, _, rfl, SqT.of upd_same, rfl, _, _, rfl, _, _, rfl, _, _, rfl, _, _, rfl, rfl, ?_⟩
    have hF0 : upd (upd (upd (upd H Fd (.dK [])) Nl (.lst [])) Dd (.dK [])) tp (.tup [.ref Fd, .ref Nl, .ref Dd, .bl true]) Fd = some (.dK []) := by rw [upd_ne qFT, upd_ne qFD, upd_ne qFN, upd_same]
    have hN0 : upd (upd (upd (upd H Fd (.dK [])) Nl (.lst [])) Dd (.dK [])) tp (.tup [.ref Fd, .ref Nl, .ref Dd, .bl true]) Nl = some (.lst []) := by rw [upd_ne qNT, upd_ne qND, upd_same]
    have hD0 : upd (upd (upd (upd H Fd (.dK [])) Nl (.lst [])) Dd (.dK [])) tp (.tup [.ref Fd, .ref Nl, .ref Dd, .bl true]) Dd = some (.dK []) := by rw [upd_ne qDT, upd_same]
    have e0 : Ex H (upd (upd (upd (upd H Fd (.dK [])) Nl (.lst [])) Dd (.dK [])) tp (.tup [.ref Fd, .ref Nl, .ref Dd, .bl true])) := (((Ex.new nF).trans (Ex.new nN)).trans (Ex.new nD)).trans (Ex.new nT)
    generalize upd (upd (upd (upd H Fd (.dK [])) Nl (.lst [])) Dd (.dK [])) tp (.tup [.ref Fd, .ref Nl, .ref Dd, .bl true]) = H0 at hF0 hN0 hD0 e0 ⊢
    refine q_asgDs (ds := [waD ⟨⟨n, g⟩, 1, none⟩]) (eds_lst (da_cons (ed_tup (da_cons (ed_var rfl (hx.mono e0)) (da_cons (ed_int ev_c) (da_cons (ed_of ev_c (.non .nil)) da_nil))) (by show 3 ≤ 100000; decide)) da_nil) (by show 1 ≤ 100000; decide)) fun Wl ys0 H1 e1 nW hW tW => ?_
    have qFW : Fd ≠ Wl := fun z => by rw [← z, hF0] at nW; cases nW
    have qNW : Nl ≠ Wl := fun z => by rw [← z, hN0] at nW; cases nW
    have qDW : Dd ≠ Wl := fun z => by rw [← z, hD0] at nW; cases nW
    have four : Four Fd Nl Dd Wl := ⟨qFN, qFD, qFW, qND, qNW, qDW⟩
    have n0W : H Wl = none := fresh_back e0 nW
    have ls0 : LS Fd Nl Dd Wl H1 H1 [] [] [] [⟨⟨n, g⟩, 1, none⟩] := ⟨Kp.refl _ _, e1 _ _ hF0, e1 _ _ hD0, ⟨[], e1 _ _ hN0, .nil⟩, ys0, hW, tW⟩
    have a1 : ∀ s : Key, s ∈ ([] : List Key) ↔ (s = .inr "size" ∧ false = true) ∨ (s = .inr "box" ∧ false = true) := fun s => by simp
    have a2 : ∀ s ∈ ([] : List Key), ∃ i, s = .inl i := fun s hs => nomatch hs
    have a3 : ∀ i : Int, ((Sum.inl i : Key) ∈ ([] : List Key) ∨ ∃ x ∈ [(⟨⟨n, g⟩, 1, none⟩ : Wa)], i ∈ waP x) ↔ i ∈ (gP n g).map (· + 1) := fun i => by
      constructor
      · rintro (z | ⟨x, hx, hi⟩)
        · cases z
        · rw [List.mem_singleton.mp hx] at hi
          exact hi
      · exact fun z => .inr ⟨_, List.mem_singleton.mpr rfl, z⟩
    have a4 : (([] : List Int) ++ [(⟨⟨n, g⟩, 1, none⟩ : Wa)].flatMap waN).Perm ((gEs n g).map (·.1)) := by
      rw [List.flatMap_cons, List.flatMap_nil, List.append_nil, List.nil_append]
      exact List.Perm.refl _
    have a5 : (false || [(⟨⟨n, g⟩, 1, none⟩ : Wa)].any fun x => !waS true x) = !gS n g := by
      show (false || ((!gS n g) || false)) = _
      rw [Bool.false_or, Bool.or_false]
    have a6 : (false || [(⟨⟨n, g⟩, 1, none⟩ : Wa)].any fun x => !waB x) = !gB n g := by
      show (false || ((!(true && gB n g)) || false)) = _
      rw [Bool.false_or, Bool.or_false, Bool.true_and]
    have a7 : ∀ x ∈ [(⟨⟨n, g⟩, 1, none⟩ : Wa)], x.w.1 ≤ 4 ∧ gT x.w.1 x.w.2 := fun x hx => by
      rw [List.mem_singleton.mp hx]
      exact ⟨h4, ht⟩
    have a8 : gC n g = ([(⟨⟨n, g⟩, 1, none⟩ : Wa)].map fun x => shC x.w).sum := by
      rw [List.map_cons, List.map_nil, List.sum_cons, List.sum_nil, Nat.add_zero]
      rfl
    refine q_while (fun m σ' H' => ∃ (fs fb o : Bool) (kf kd : List Key) (ns : List Int) (ws : List Wa) (r6 r7 r8 r9 r10 : Option V), σ' = [some v, some (.ref Fd), some (.ref Nl), some (.ref Dd), some (.bl o), some (.ref Wl), r6, r7, r8, r9, r10, none, none] ∧ LS Fd Nl Dd Wl H1 H' kf kd ns ws ∧
      kf.Nodup ∧ (∀ s, s ∈ kf ↔ (s = .inr "size" ∧ fs = true) ∨ (s = .inr "box" ∧ fb = true)) ∧ kf.length + 2 * m ≤ 4000 ∧
      kd.Nodup ∧ (∀ s ∈ kd, ∃ i, s = .inl i) ∧ (∀ i : Int, (.inl i ∈ kd ∨ ∃ x ∈ ws, i ∈ waP x) ↔ i ∈ (gP n g).map (· + 1)) ∧ kd.length + m ≤ 2000 ∧
      (ns ++ ws.flatMap waN).Perm ((gEs n g).map (·.1)) ∧ (fs || ws.any fun x => !waS o x) = !gS n g ∧ (fb || ws.any fun x => !waB x) = !gB n g ∧ (o = true → ∃ x, ws = [x]) ∧ (∀ x ∈ ws, x.w.1 ≤ 4 ∧ gT x.w.1 x.w.2) ∧ m = (ws.map fun x => shC x.w).sum) (gC n g) ⟨false, false, true, [], [], [], [⟨⟨n, g⟩, 1, none⟩], none, none, none, none, none, rfl, ls0, .nil, a1, by show 0 + 2 * gC n g ≤ 4000; omega, .nil, a2, a3, by show 0 + gC n g ≤ 2000; omega, a4, a5, a6, fun _ => ⟨_, rfl⟩, a7, a8⟩ ?_
    rintro m σ' H' ⟨fs, fb, o, kf, kd, ns, ws, r6, r7, r8, r9, r10, rfl, ls, kfn, kfm, kfl, kdn, kdi, kdm, kdl, pm, hS, hB, ho, wh, rfl⟩
    have wl := sum_pos (fun x : Wa => shC x.w) (l := ws) fun w _ => gC_pos w.w.1 w.w.2
    obtain ⟨ys, hWy, tWy⟩ := id ls.hw
    refine ⟨_, et_test (ev_neL (ev_var rfl) hWy tWy fun d hd => ?_), fun hb H5 e5 => ?_, fun hb H5 e5 => ?_⟩
    · obtain ⟨x, hx, rfl⟩ := List.mem_map.mp hd
      exact small_wa x (wh x hx).1
    · have nW : ws ≠ [] := fun z => by
        rw [z] at hb
        cases hb
      obtain ⟨ws', x, rfl⟩ := snoc_of nW
      refine ⟨fun σ2 H2 => ∃ m', m' < _ ∧ _, fun _ _ h => h, ?_⟩
      have ls5 := ls.ex e5
      have tW5 := tWy.mono e5
      rw [List.map_append] at tW5
      obtain ⟨zs', z, rfl, tz, xz⟩ := tW5.pop
      have hW5 := e5 _ _ hWy
      obtain ⟨w3, wt⟩ := wh x (List.mem_append_right _ (List.mem_singleton.mpr rfl))
      refine ⟨_, rfl, .inl ⟨rfl, _, SqL.of hW5⟩, Wl, _, z, rfl, rfl, hW5, by simp, ?_⟩
      rw [List.dropLast_concat]
      obtain ⟨ls6, tk6⟩ := ls5.waits four (ws' := ws') tz
      have xz6 := xz.by tk6
      generalize upd H5 Wl (.lst zs') = H6 at ls6 xz6 ⊢
      have em : ((ws' ++ [x]).map fun x : Wa => shC x.w).sum = (ws'.map fun x : Wa => shC x.w).sum + shC x.w := by
        rw [List.map_append, List.sum_append, List.map_cons, List.map_nil, List.sum_cons, List.sum_nil, Nat.add_zero]
      have cp := gC_pos x.w.1 x.w.2
      have cpe : shC x.w = gC x.w.1 x.w.2 := rfl
      rw [em] at kfl kdl
      have pl := pm.length_eq
      rw [List.length_append, List.flatMap_append, List.length_append, List.flatMap_cons, List.flatMap_nil, List.append_nil, List.length_map] at pl
      have eN : (waN x).length = (gEs x.w.1 x.w.2).length := by
        unfold waN
        rw [List.length_map]
        rfl
      have oS : (ws'.any fun y => !waS o y) = ws'.any fun y => !waS false y := by
        cases o with
        | false => rfl
        | true =>
          obtain ⟨y, hy⟩ := ho rfl
          have : ws' = [] := by
            have l := congrArg List.length hy
            rw [List.length_append, List.length_singleton, List.length_singleton] at l
            exact List.eq_nil_of_length_eq_zero (by omega)
          rw [this]
          rfl
      rw [any_one, oS] at hS
      rw [any_one] at hB
      obtain ⟨⟨wn, wf⟩, dd, ob⟩ := x
      match wn, wf, w3, wt, xz6, cp, cpe, eN, pm, pl, em, hS, hB, kdm, wh, kfl, kdl with
      | wn + 1, wf, w3, wt, xz6, cp, cpe, eN, pm, pl, em, hS, hB, kdm, wh, kfl, kdl =>
      obtain ⟨lf, ds, ed, el, clf, cnd⟩ : ∃ (lf : Bool) (ds : List PyData), gD (wn + 1) wf = .tuple [.str (wdB lf), .tuple ds] ∧ ds.length = gW (wn + 1) wf ∧ (lf = true → ∃ es, wf = gL es ∧ ds = es.map entD) ∧ (lf = false → ∃ bs : List (Bx × Gm wn), wf = gN bs ∧ ds = bs.map fun p : Bx × Gm wn => PyData.tuple [boxD p.1, gD wn p.2]) := by
        rcases gm_cases wf with ⟨es, rfl⟩ | ⟨bs, rfl⟩
        · exact ⟨true, es.map entD, rfl, by rw [List.length_map]; rfl, fun _ => ⟨es, rfl, rfl⟩, fun z => nomatch z⟩
        · exact ⟨false, bs.map fun p : Bx × Gm wn => PyData.tuple [boxD p.1, gD wn p.2], rfl, by rw [List.length_map]; rfl, (fun z => nomatch z), fun _ => ⟨bs, rfl, rfl⟩⟩
      have xz7 : TD1 H6 z (.tuple [.tuple [.str (wdB lf), .tuple ds], .int dd, obD ob]) := by
        rw [← ed]
        exact xz6
      obtain ⟨a, xs, rfl, ha, y⟩ := xz7.tup
      obtain ⟨u1, ys1, rfl, y1, y⟩ := y.inv
      obtain ⟨u2, ys2, rfl, y2, y⟩ := y.inv
      obtain ⟨u3, ys3, rfl, y3, y⟩ := y.inv
      cases y.inv0
      cases y2.int
      obtain ⟨a1, xs1, rfl, ha1, z1⟩ := y1.tup
      obtain ⟨w1, zs1, rfl, q1, z1⟩ := z1.inv
      obtain ⟨w2, zs2, rfl, q2, z1⟩ := z1.inv
      cases z1.inv0
      cases q1.str
      refine ⟨a, _, rfl, SqT.of ha, rfl, _, _, rfl, ⟨a1, _, rfl, SqT.of ha1, rfl, _, _, rfl, w2, _, rfl, rfl, ?_⟩⟩
      refine ⟨_, _, rfl, u3, _, rfl, rfl, ?_⟩
      -- least
      refine q_asg (ev_ifI (b := o && lf) (et_and (et_B (ev_var rfl)) fun _ => et_is (et_test (ev_eqW (ev_var rfl))) (wd_leaf lf))) fun H7 e7 => ?_
      refine q_asg (ev_c (v := .bl false)) fun H8 e8 => ?_
      have e68 := e7.trans e8
      have ls8 := ls6.ex e68
      -- size
      refine q_optPut (ks := kf) (et_not (et_test (ev_chainB (ev_var rfl) (ev_lenT (ed_var rfl (q2.mono e68))) ev_c))) rfl ls8.hf (by omega) fun H9 e9 => ?_
      generalize hc1 : (!(decide ((if (o && lf) = true then (0 : Int) else 2) ≤ (ds.length : Int)) && decide ((ds.length : Int) ≤ 4))) = c1
      obtain ⟨ls9, tk9⟩ := (ls8.ex e9).found four (kf' := optK c1 kf (.inr "size"))
      have q29 := (q2.mono (e68.trans e9)).by tk9
      have y39 := (y3.mono (e68.trans e9)).by tk9
      generalize upd H9 Fd (.dK (trueK (optK c1 kf (.inr "size")))) = H10 at ls9 q29 y39 ⊢
      refine q_if (b := lf) (et_is (et_test (ev_eqW (ev_var rfl))) (wd_leaf lf)) (fun hl H11 e11 => ?_) (fun hl H11 e11 => ?_)
      · obtain ⟨es, rfl, rfl⟩ := clf hl
        subst hl
        have l100 : es.length ≤ 100 := wt
        have ls11 := ls9.ex e11
        have em2 : ((ws' ++ [(⟨⟨wn + 1, gL es⟩, dd, ob⟩ : Wa)]).map fun x : Wa => shC x.w).sum = (ws'.map fun x : Wa => shC x.w).sum + 1 := em
        have kfl2 : kf.length + 2 * ((ws'.map fun x : Wa => shC x.w).sum + 1) ≤ 4000 := kfl
        have kdl2 : kd.length + ((ws'.map fun x : Wa => shC x.w).sum + 1) ≤ 2000 := kdl
        clear em kfl kdl
        refine put_here (D := { nx := _, rt := _, bk := _, ct := _ }) (k := .inl dd) ls11.hd rfl (by omega) (ev_var rfl) fun H12 e12 => ?_
        obtain ⟨ls12, tk12⟩ := (ls11.ex e12).dep four (kd' := addK kd (.inl dd))
        have q212 := (q29.mono (e11.trans e12)).by tk12
        have y312 := (y39.mono (e11.trans e12)).by tk12
        generalize upd H12 Dd (.dK (trueK (addK kd (.inl dd)))) = H13 at ls12 q212 y312 ⊢
        obtain ⟨nx, hn13, tn13⟩ := id ls12.hn
        have nl := tn13.len
        rw [List.length_map] at nl
        refine ⟨_, rfl, .inl ⟨rfl, _, SqL.of hn13⟩, ?_⟩
        have zz := eds_it (te := tOp (rIxT K) (tVar 11) (tC (.int 0))) (g := gName 11) (tt := tYes) (vs := [11]) (wi := iTup K (tVar 7)) (σ := [some v, some (.ref Fd), some (.ref Nl), some (.ref Dd), some (.bl false), some (.ref Wl), some (.str (wdB true)), some w2, some (.int dd), some u3, some (.int (if (o && true) = true then 0 else 2)), none, none]) (H := H13) (es := es) (enc := entD) (fun _ => true) (fun e => PyData.int e.1) (ei_tup (ed_var rfl q212)) (Nat.le_trans l100 (by decide)) (fun p hp => turn_nm (fun _ => rfl) (fun _ _ _ _ => et_yes) fun u H4 e4 x4 _ => ed_ix (ed_var rfl x4) ⟨by decide, rfl⟩)
        rw [filt_all] at zz
        refine zz H13 (Ex.refl _) _ fun l ls H14 hl0 e14 hl tl => ?_
        have ep : (es.map fun e => PyData.int e.1) = (es.map (·.1)).map PyData.int := by rw [List.map_map]; rfl
        rw [ep] at tl
        have ll := tl.len
        rw [List.length_map, List.length_map] at ll
        have ls14 := ls12.ex e14
        obtain ⟨ls15, tk15⟩ := ls14.nums four (e14 _ _ hn13) tl
        have q215 := (q212.mono e14).by tk15
        have y315 := (y312.mono e14).by tk15
        have gEe : gEs (wn + 1) (gL es) = es := rfl
        rw [gEe] at eN
        refine ⟨Nl, l, nx, ls, rfl, rfl, e14 _ _ hn13, hl, sz_of (by omega), ?_⟩
        generalize upd H14 Nl (.lst (nx ++ ls)) = H15 at ls15 q215 y315 ⊢
        refine s_optPut (b := !ownB ⟨⟨wn + 1, gL es⟩, dd, ob⟩) (ks := optK c1 kf (.inr "size")) (et_own rfl rfl rfl y315 q215 rfl (show gH (wn + 1) (gL es) from l100) w3 (by show 1 ≤ 2000; decide) (by rw [gEe]; omega) dd) rfl ls15.hf (by have := optK_len (b := c1) (ks := kf) (k := .inr "size"); omega) fun H16 e16 => ?_
        generalize hc2 : (!ownB ⟨⟨wn + 1, gL es⟩, dd, ob⟩) = c2
        obtain ⟨ls16, _⟩ := (ls15.ex e16).found four (kf' := optK c2 (optK c1 kf (.inr "size")) (.inr "box"))
        have k1 := optK_len (b := c1) (ks := kf) (k := .inr "size")
        have k2 := optK_len (b := c2) (ks := optK c1 kf (.inr "size")) (k := .inr "box")
        have k3 := addK_len (ks := kd) (k := .inl dd)
        refine ⟨(ws'.map fun x : Wa => shC x.w).sum, by rw [em2]; exact Nat.lt_succ_self _, fs || c1, fb || c2, false, _, _, _, ws', _, _, _, _, _, rfl, ls16, optK_nd (optK_nd kfn), kf_step kfm, by omega, addK_nd kdn, fun s hs => ?_, fun i => ?_, by omega, ?_, ?_, ?_, (fun z => nomatch z), fun x hx => wh x (List.mem_append_left _ hx), rfl⟩
        · rcases addK_mem.mp hs with hs | hs
          · exact kdi s hs
          · exact ⟨_, hs⟩
        · rw [← kdm i, addK_mem]
          constructor
          · rintro ((z | z) | ⟨x, hx, hi⟩)
            · exact .inl z
            · refine .inr ⟨_, List.mem_append_right _ (List.mem_singleton.mpr rfl), ?_⟩
              rw [Sum.inl.inj z]
              exact List.mem_singleton.mpr (Int.zero_add dd).symm
            · exact .inr ⟨x, List.mem_append_left _ hx, hi⟩
          · rintro (z | ⟨x, hx, hi⟩)
            · exact .inl (.inl z)
            · rcases List.mem_append.mp hx with hx | hx
              · exact .inr ⟨x, hx, hi⟩
              · rw [List.mem_singleton.mp hx] at hi
                have : i = 0 + dd := List.mem_singleton.mp hi
                exact .inl (.inr (by rw [this, Int.zero_add]))
        · refine List.Perm.trans ?_ pm
          rw [List.flatMap_append, List.flatMap_cons, List.flatMap_nil, List.append_nil, List.append_assoc]
          exact List.Perm.append_left _ List.perm_append_comm
        · rw [← hS, ← hc1]
          have e1 : waS o ⟨⟨wn + 1, gL es⟩, dd, ob⟩ = (decide ((if (o && true) = true then (0 : Int) else 2) ≤ ((es.map entD).length : Int)) && decide (((es.map entD).length : Int) ≤ 4)) := by
            rw [List.length_map]
            cases o with
            | true =>
              show decide (es.length ≤ 4) = (decide ((0 : Int) ≤ (es.length : Int)) && decide ((es.length : Int) ≤ 4))
              rw [decide_eq_true (show (0 : Int) ≤ (es.length : Int) by omega), Bool.true_and]
              exact decide_eq_decide.mpr (by omega)
            | false =>
              show (decide (2 ≤ es.length) && decide (es.length ≤ 4)) = (decide ((2 : Int) ≤ (es.length : Int)) && decide ((es.length : Int) ≤ 4))
              rw [decide_eq_decide.mpr (show 2 ≤ es.length ↔ (2 : Int) ≤ (es.length : Int) by omega), decide_eq_decide.mpr (show es.length ≤ 4 ↔ (es.length : Int) ≤ 4 by omega)]
          rw [e1, Bool.or_assoc, Bool.or_comm _ (ws'.any _)]
        · rw [← hB, ← hc2]
          have e1 : waB ⟨⟨wn + 1, gL es⟩, dd, ob⟩ = ownB ⟨⟨wn + 1, gL es⟩, dd, ob⟩ := by
            show (_ && true) = _
            rw [Bool.and_true]
          rw [e1, Bool.or_assoc, Bool.or_comm _ (ws'.any _)]
      · obtain ⟨bs, rfl, rfl⟩ := cnd hl
        subst hl
        obtain ⟨l100, hp⟩ : bs.length ≤ 100 ∧ ∀ p ∈ bs, (gEs wn p.2).length ≤ 100 ∧ (gP wn p.2).length ≤ 100 ∧ gT wn p.2 := wt
        have ls11 := ls9.ex e11
        have ce : shC ⟨wn + 1, gN bs⟩ = 1 + (bs.map fun p : Bx × Gm wn => gC wn p.2).sum := rfl
        have em2 : ((ws' ++ [(⟨⟨wn + 1, gN bs⟩, dd, ob⟩ : Wa)]).map fun x : Wa => shC x.w).sum = (ws'.map fun x : Wa => shC x.w).sum + (1 + (bs.map fun p : Bx × Gm wn => gC wn p.2).sum) := em
        have kfl2 : kf.length + 2 * ((ws'.map fun x : Wa => shC x.w).sum + (1 + (bs.map fun p : Bx × Gm wn => gC wn p.2).sum)) ≤ 4000 := kfl
        have kdl2 : kd.length + ((ws'.map fun x : Wa => shC x.w).sum + (1 + (bs.map fun p : Bx × Gm wn => gC wn p.2).sum)) ≤ 2000 := kdl
        clear em kfl kdl
        obtain ⟨ys1, hw11, tw11⟩ := id ls11.hw
        have wl11 := tw11.len
        rw [List.length_map] at wl11
        have q211 := q29.mono e11
        have y311 := y39.mono e11
        have wl2 := sum_pos (fun x : Wa => shC x.w) (l := ws') fun w _ => gC_pos w.w.1 w.w.2
        refine ⟨_, rfl, .inl ⟨rfl, _, SqL.of hw11⟩, ?_⟩
        have zz := eds_it (te := tTup (tCons (tOp (rIxT K) (tVar 12) (tC (.int 1))) (tCons (tOp (rI0 fun i j => .int (i + j)) (tVar 8) (tC (.int 1))) (tCons (tOp (rIxT K) (tVar 12) (tC (.int 0))) tNil)))) (g := gName 12) (tt := tYes) (vs := [12]) (wi := iTup K (tVar 7)) (σ := [some v, some (.ref Fd), some (.ref Nl), some (.ref Dd), some (.bl false), some (.ref Wl), some (.str (wdB false)), some w2, some (.int dd), some u3, some (.int (if (o && false) = true then 0 else 2)), none, none]) (H := H11) (es := bs) (enc := fun p : Bx × Gm wn => PyData.tuple [boxD p.1, gD wn p.2]) (fun _ => true) (fun p => waD ⟨⟨wn, p.2⟩, dd + 1, some p.1⟩) (ei_tup (ed_var rfl q211)) (Nat.le_trans l100 (by decide)) (fun p hpm => turn_nm (fun _ => rfl) (fun _ _ _ _ => et_yes) fun u H4 e4 x4 _ => ed_tup (da_cons (ed_ix (ed_var rfl x4) ⟨by decide, rfl⟩) (da_cons (ed_int (ev_op (ev_var rfl) ev_c rv_I0)) (da_cons (ed_ix (ed_var rfl x4) ⟨by decide, rfl⟩) da_nil))) (by show 3 ≤ 100000; decide))
        rw [filt_all] at zz
        refine zz H11 (Ex.refl _) _ fun l ls H14 hl0 e14 hl tl => ?_
        have ep : (bs.map fun p : Bx × Gm wn => waD ⟨⟨wn, p.2⟩, dd + 1, some p.1⟩) = (bs.map fun p : Bx × Gm wn => (⟨⟨wn, p.2⟩, dd + 1, some p.1⟩ : Wa)).map waD := by rw [List.map_map]; rfl
        rw [ep] at tl
        have ll := tl.len
        rw [List.length_map, List.length_map] at ll
        have ls14 := ls11.ex e14
        have tt14 : TDs H14 (ys1 ++ ls) ((ws' ++ bs.map fun p : Bx × Gm wn => (⟨⟨wn, p.2⟩, dd + 1, some p.1⟩ : Wa)).map waD) := by
          rw [List.map_append]
          exact (tw11.mono e14).app tl
        obtain ⟨ls15, tk15⟩ := ls14.waits four tt14
        have q215 := (q211.mono e14).by tk15
        have y315 := (y311.mono e14).by tk15
        have eNl : (waN ⟨⟨wn + 1, gN bs⟩, dd, ob⟩).length = (gEs (wn + 1) (gN bs)).length := eN
        refine ⟨Wl, l, ys1, ls, rfl, rfl, e14 _ _ hw11, hl, sz_of (by omega), ?_⟩
        generalize upd H14 Wl (.lst (ys1 ++ ls)) = H15 at ls15 q215 y315 ⊢
        refine s_optPut (b := !ownB ⟨⟨wn + 1, gN bs⟩, dd, ob⟩) (ks := optK c1 kf (.inr "size")) (et_own rfl rfl rfl y315 q215 rfl (gT_gH (wn + 1) (gN bs) ⟨l100, hp⟩) w3 (by show 1 + (bs.map fun p : Bx × Gm wn => gC wn p.2).sum ≤ 2000; omega) (by omega) dd) rfl ls15.hf (by have := optK_len (b := c1) (ks := kf) (k := .inr "size"); omega) fun H16 e16 => ?_
        generalize hc2 : (!ownB ⟨⟨wn + 1, gN bs⟩, dd, ob⟩) = c2
        obtain ⟨ls16, _⟩ := (ls15.ex e16).found four (kf' := optK c2 (optK c1 kf (.inr "size")) (.inr "box"))
        have k1 := optK_len (b := c1) (ks := kf) (k := .inr "size")
        have k2 := optK_len (b := c2) (ks := optK c1 kf (.inr "size")) (k := .inr "box")
        have es : ((ws' ++ bs.map fun p : Bx × Gm wn => (⟨⟨wn, p.2⟩, dd + 1, some p.1⟩ : Wa)).map fun x : Wa => shC x.w).sum = (ws'.map fun x : Wa => shC x.w).sum + (bs.map fun p : Bx × Gm wn => gC wn p.2).sum := by
          rw [List.map_append, List.sum_append, List.map_map]
          rfl
        refine ⟨_, by rw [em2, es]; omega, fs || c1, fb || c2, false, _, _, _, _, _, _, _, _, _, rfl, ls16, optK_nd (optK_nd kfn), kf_step kfm, by rw [es]; omega, kdn, kdi, fun i => ?_, by rw [es]; omega, ?_, ?_, ?_, (fun z => nomatch z), fun x hx => ?_, rfl⟩
        · rw [← kdm i]
          have pe : i ∈ waP ⟨⟨wn + 1, gN bs⟩, dd, ob⟩ ↔ ∃ p ∈ bs, i ∈ waP ⟨⟨wn, p.2⟩, dd + 1, some p.1⟩ := by
            show i ∈ (bs.flatMap fun p : Bx × Gm wn => (gP wn p.2).map (· + 1)).map (· + dd) ↔ _
            rw [List.map_flatMap, List.mem_flatMap]
            constructor
            · rintro ⟨p, hpm, hi⟩
              refine ⟨p, hpm, ?_⟩
              rw [List.map_map] at hi
              obtain ⟨j, hj, rfl⟩ := List.mem_map.mp hi
              exact List.mem_map.mpr ⟨j, hj, by show j + (dd + 1) = j + 1 + dd; omega⟩
            · rintro ⟨p, hpm, hi⟩
              refine ⟨p, hpm, ?_⟩
              rw [List.map_map]
              obtain ⟨j, hj, rfl⟩ := List.mem_map.mp hi
              exact List.mem_map.mpr ⟨j, hj, by show j + 1 + dd = j + (dd + 1); omega⟩
          constructor
          · rintro (z | ⟨x, hx, hi⟩)
            · exact .inl z
            · rcases List.mem_append.mp hx with hx | hx
              · exact .inr ⟨x, List.mem_append_left _ hx, hi⟩
              · obtain ⟨p, hpm, rfl⟩ := List.mem_map.mp hx
                exact .inr ⟨_, List.mem_append_right _ (List.mem_singleton.mpr rfl), pe.mpr ⟨p, hpm, hi⟩⟩
          · rintro (z | ⟨x, hx, hi⟩)
            · exact .inl z
            · rcases List.mem_append.mp hx with hx | hx
              · exact .inr ⟨x, List.mem_append_left _ hx, hi⟩
              · rw [List.mem_singleton.mp hx] at hi
                obtain ⟨p, hpm, hi⟩ := pe.mp hi
                exact .inr ⟨_, List.mem_append_right _ (List.mem_map.mpr ⟨p, hpm, rfl⟩), hi⟩
        · refine List.Perm.trans ?_ pm
          rw [List.flatMap_append, List.flatMap_append, List.flatMap_cons, List.flatMap_nil, List.append_nil, List.flatMap_map]
          have e1 : waN ⟨⟨wn + 1, gN bs⟩, dd, ob⟩ = bs.flatMap fun p : Bx × Gm wn => waN ⟨⟨wn, p.2⟩, dd + 1, some p.1⟩ := by
            show (bs.flatMap fun p : Bx × Gm wn => gEs wn p.2).map (·.1) = _
            rw [List.map_flatMap]
            rfl
          rw [e1]
        · rw [← hS, ← hc1, List.any_append, List.any_map]
          have e1 : waS o ⟨⟨wn + 1, gN bs⟩, dd, ob⟩ = ((decide ((if (o && false) = true then (0 : Int) else 2) ≤ ((bs.map fun p : Bx × Gm wn => PyData.tuple [boxD p.1, gD wn p.2]).length : Int)) && decide (((bs.map fun p : Bx × Gm wn => PyData.tuple [boxD p.1, gD wn p.2]).length : Int) ≤ 4)) && bs.all fun p => waS false ⟨⟨wn, p.2⟩, dd + 1, some p.1⟩) := by
            rw [List.length_map]
            have a1 : decide (2 ≤ bs.length) = decide ((2 : Int) ≤ (bs.length : Int)) := decide_eq_decide.mpr (by omega)
            have a2 : decide (bs.length ≤ 4) = decide ((bs.length : Int) ≤ 4) := decide_eq_decide.mpr (by omega)
            cases o with
            | true =>
              show ((decide (2 ≤ bs.length) && decide (bs.length ≤ 4)) && _) = ((decide ((2 : Int) ≤ (bs.length : Int)) && decide ((bs.length : Int) ≤ 4)) && _)
              rw [a1, a2]
              rfl
            | false =>
              show (decide (2 ≤ bs.length) && ((decide (2 ≤ bs.length) && decide (bs.length ≤ 4)) && _)) = ((decide ((2 : Int) ≤ (bs.length : Int)) && decide ((bs.length : Int) ≤ 4)) && _)
              rw [a1, a2]
              cases decide ((2 : Int) ≤ (bs.length : Int)) <;> rfl
          rw [e1]
          generalize (decide ((if (o && false) = true then (0 : Int) else 2) ≤ ((bs.map fun p : Bx × Gm wn => PyData.tuple [boxD p.1, gD wn p.2]).length : Int)) && decide (((bs.map fun p : Bx × Gm wn => PyData.tuple [boxD p.1, gD wn p.2]).length : Int) ≤ 4)) = M
          rw [Bool.not_and]
          have e2 : (bs.any ((fun y => !waS false y) ∘ fun p : Bx × Gm wn => (⟨⟨wn, p.2⟩, dd + 1, some p.1⟩ : Wa))) = !(bs.all fun p => waS false ⟨⟨wn, p.2⟩, dd + 1, some p.1⟩) := by
            rw [List.not_all_eq_any_not]
            rfl
          rw [e2]
          generalize (!(bs.all fun p => waS false ⟨⟨wn, p.2⟩, dd + 1, some p.1⟩)) = A
          generalize (ws'.any fun y => !waS false y) = B
          cases fs <;> cases A <;> cases B <;> cases M <;> rfl
        · rw [← hB, ← hc2, List.any_append, List.any_map]
          have e1 : waB ⟨⟨wn + 1, gN bs⟩, dd, ob⟩ = (ownB ⟨⟨wn + 1, gN bs⟩, dd, ob⟩ && bs.all fun p => waB ⟨⟨wn, p.2⟩, dd + 1, some p.1⟩) := rfl
          rw [e1, Bool.not_and]
          have e2 : (bs.any ((fun y => !waB y) ∘ fun p : Bx × Gm wn => (⟨⟨wn, p.2⟩, dd + 1, some p.1⟩ : Wa))) = !(bs.all fun p => waB ⟨⟨wn, p.2⟩, dd + 1, some p.1⟩) := by
            rw [List.not_all_eq_any_not]
            rfl
          rw [e2]
          generalize (!(bs.all fun p => waB ⟨⟨wn, p.2⟩, dd + 1, some p.1⟩)) = A
          generalize (ws'.any fun y => !waB y) = B
          generalize (!ownB ⟨⟨wn + 1, gN bs⟩, dd, ob⟩) = C
          cases fb <;> cases A <;> cases B <;> cases C <;> rfl
        · rcases List.mem_append.mp hx with hx | hx
          · exact wh x (List.mem_append_left _ hx)
          · obtain ⟨p, hpm, rfl⟩ := List.mem_map.mp hx
            have w3' : wn + 1 ≤ 4 := w3
            exact ⟨by show wn ≤ 4; omega, (hp p hpm).2.2⟩
    · have nW : ws = [] := by
        cases ws with
        | nil => rfl
        | cons w W => cases hb
      subst nW
      have hS2 : fs = !gS n g := by
        have z : (fs || false) = !gS n g := hS
        rw [Bool.or_false] at z
        exact z
      have hB2 : fb = !gB n g := by
        have z : (fb || false) = !gB n g := hB
        rw [Bool.or_false] at z
        exact z
      rw [List.flatMap_nil, List.append_nil] at pm
      have kdm2 : ∀ i : Int, .inl i ∈ kd ↔ i ∈ (gP n g).map (· + 1) := fun i => by
        rw [← kdm i]
        constructor
        · exact .inl
        · rintro (z | ⟨x, hx, _⟩)
          · exact z
          · cases hx
      have kdc := depth_count kdn kdi kdm2
      have pl := pm.length_eq
      rw [List.length_map] at pl
      have ls5 := ls.ex e5
      have tkl : (trueK kd).length = kd.length := by
        unfold trueK
        rw [List.length_map]
      refine q_optPut (b := decide (1 < diffN (gP n g))) (ks := kf) (et_is (et_test (ev_op (ev_lenDR (ev_var rfl) ls5.hd) ev_c rv_I0)) (by rw [tkl, kdc]; exact decide_eq_decide.mpr (by omega))) rfl ls5.hf (by omega) fun H6 e6 => ?_
      generalize hc3 : decide (1 < diffN (gP n g)) = c3
      obtain ⟨ls7, _⟩ := (ls5.ex e6).found four (kf' := optK c3 kf (.inr "depth"))
      generalize upd H6 Fd (.dK (trueK (optK c3 kf (.inr "depth")))) = H7 at ls7 ⊢
      have k1 := optK_len (b := c3) (ks := kf) (k := .inr "depth")
      obtain ⟨xs7, hn7, tn7⟩ := id ls7.hn
      refine q_optPut (b := decide (300 < (gEs n g).length)) (et_is (et_test (ev_op (ev_lenL (ld_of (ev_var rfl) hn7 tn7)) ev_c rv_I0)) (by rw [List.length_map, pl]; exact decide_eq_decide.mpr (by omega))) rfl ls7.hf (by omega) fun H8 e8 => ?_
      generalize hc4 : decide (300 < (gEs n g).length) = c4
      obtain ⟨ls9, _⟩ := (ls7.ex e8).found four (kf' := optK c4 (optK c3 kf (.inr "depth")) (.inr "many"))
      generalize upd H8 Fd (.dK (trueK (optK c4 (optK c3 kf (.inr "depth")) (.inr "many")))) = H9 at ls9 ⊢
      have k2 := optK_len (b := c4) (ks := optK c3 kf (.inr "depth")) (k := .inr "many")
      obtain ⟨xs9, hn9, tn9⟩ := id ls9.hn
      refine q_optPut (b := decide (diffN ((gEs n g).map (·.1)) < (gEs n g).length)) (et_is (et_test (ev_op (ev_lenSet (ld_of (ev_var rfl) hn9 tn9) (by omega)) (ev_lenL (ld_of (ev_var rfl) hn9 tn9)) rv_I0)) (by rw [List.length_map, pl, diff_perm pm]; exact decide_eq_decide.mpr (by omega))) rfl ls9.hf (by omega) fun H10 e10 => ?_
      generalize hc5 : decide (diffN ((gEs n g).map (·.1)) < (gEs n g).length) = c5
      obtain ⟨ls11, _⟩ := (ls9.ex e10).found four (kf' := optK c5 (optK c4 (optK c3 kf (.inr "depth")) (.inr "many")) (.inr "twice"))
      generalize upd H10 Fd (.dK (trueK (optK c5 (optK c4 (optK c3 kf (.inr "depth")) (.inr "many")) (.inr "twice")))) = H11 at ls11 ⊢
      have hm : ∀ s : Key, s ∈ optK c5 (optK c4 (optK c3 kf (.inr "depth")) (.inr "many")) (.inr "twice") ↔ ∃ t : Str, s = .inr t ∧ t ∈ flaws n g := fun s => by
        rw [optK_mem, optK_mem, optK_mem, kfm]
        constructor
        · rintro ((((⟨rfl, h⟩ | ⟨rfl, h⟩) | ⟨rfl, h⟩) | ⟨rfl, h⟩) | ⟨rfl, h⟩)
          · refine ⟨_, rfl, (mem_flaws _).mpr (.inr (.inr (.inr (.inl ⟨rfl, ?_⟩))))⟩
            rw [hS2] at h
            cases q : gS n g with
            | false => rfl
            | true => rw [q] at h; cases h
          · refine ⟨_, rfl, (mem_flaws _).mpr (.inl ⟨rfl, ?_⟩)⟩
            rw [hB2] at h
            cases q : gB n g with
            | false => rfl
            | true => rw [q] at h; cases h
          · exact ⟨_, rfl, (mem_flaws _).mpr (.inr (.inl ⟨rfl, of_decide_eq_true (hc3.trans h)⟩))⟩
          · exact ⟨_, rfl, (mem_flaws _).mpr (.inr (.inr (.inl ⟨rfl, of_decide_eq_true (hc4.trans h)⟩)))⟩
          · exact ⟨_, rfl, (mem_flaws _).mpr (.inr (.inr (.inr (.inr ⟨rfl, of_decide_eq_true (hc5.trans h)⟩))))⟩
        · rintro ⟨t, rfl, ht⟩
          rcases (mem_flaws t).mp ht with ⟨rfl, h⟩ | ⟨rfl, h⟩ | ⟨rfl, h⟩ | ⟨rfl, h⟩ | ⟨rfl, h⟩
          · exact .inl (.inl (.inl (.inr ⟨rfl, by rw [hB2, h]; rfl⟩)))
          · exact .inl (.inl (.inr ⟨rfl, by rw [← hc3]; exact decide_eq_true h⟩))
          · exact .inl (.inr ⟨rfl, by rw [← hc4]; exact decide_eq_true h⟩)
          · exact .inl (.inl (.inl (.inl ⟨rfl, by rw [hS2, h]; rfl⟩)))
          · exact .inr ⟨rfl, by rw [← hc5]; exact decide_eq_true h⟩
      have nd5 := optK_nd (b := c5) (k := .inr "twice") (optK_nd (b := c4) (k := .inr "many") (optK_nd (b := c3) (k := .inr "depth") kfn))
      generalize optK c5 (optK c4 (optK c3 kf (.inr "depth")) (.inr "many")) (.inr "twice") = kz at ls11 hm nd5
      obtain ⟨ks, rfl⟩ := inr_list fun k hk => by
        obtain ⟨t, e, _⟩ := (hm k).mp hk
        exact ⟨t, e⟩
      have ndk := nd_of_map nd5
      have hk : ∀ s, s ∈ ks ↔ s ∈ flaws n g := fun s => by
        constructor
        · intro hs
          obtain ⟨t, e, h⟩ := (hm (.inr s)).mp (List.mem_map.mpr ⟨s, hs, rfl⟩)
          rw [Sum.inr.inj e]
          exact h
        · intro hs
          obtain ⟨t, h, e⟩ := List.mem_map.mp ((hm (.inr s)).mpr ⟨s, rfl, hs⟩)
          rw [← Sum.inr.inj e]
          exact h
      have kl : ks.length ≤ 5 := by
        have sub : (flaws n g).Sublist fW := fwN_sub (flW n g)
        rw [(nd_perm ndk (List.Nodup.sublist sub fW_nd) hk).length_eq]
        exact sub.length_le
      refine s_retQ ⟨_, rfl, Fd, trueK (ks.map Sum.inr), ks, rfl, .inl ls11.hf, ?_, by omega, fun ys p py hs hp => ?_⟩
      · unfold trueK
        rw [List.map_map]
        exact List.map_id _
      · rw [flaws_sorted ndk hk py hs]
        have ex : Ex H H11 := fun l o q => ls11.kp l o (fun z => ?_) (e1 _ _ (e0 _ _ q))
        · exact k p _ (fresh_back ex hp) (ex.trans (Ex.new hp)) upd_same
        · rcases List.mem_cons.mp z with z | z
          · rw [z, nF] at q
            cases q
          rcases List.mem_cons.mp z with z | z
          · rw [z, n0N] at q
            cases q
          rcases List.mem_cons.mp z with z | z
          · rw [z, n0D] at q
            cases q
          rw [List.mem_singleton.mp z, n0W] at q
          cases q
end
end Q
set_option Elab.async false
set_option linter.all false
set_option maxRecDepth 100000
set_option maxHeartbeats 4000000
/-! t[::-1], t a tuple -/
namespace Q
open PySem L2 PySem.Spec PyProof.Rows PySem.Calls
open Evl PB
theorem fm_congr {α β : Type} {f g : α → Option β} : ∀ {l : List α}, (∀ x ∈ l, f x = g x) → l.filterMap f = l.filterMap g
  | [], _ => rfl
  | x :: l, h => by
    rw [List.filterMap_cons, List.filterMap_cons, h x List.mem_cons_self, fm_congr fun y hy => h y (List.mem_cons_of_mem _ hy)]
theorem pick_back (xs : Array Value) : ((List.range xs.size).filterMap fun (k : Nat) => xs[(((xs.size : Int) - 1) + (k : Int) * (-1)).toNat]?) = xs.toList.reverse := by
  have z := pick_run xs.toList.reverse.toArray 0 xs.size
  have e1 : (List.range xs.size).map (0 + ·) = List.range xs.size := by
    have : (fun x => 0 + x) = (id : Nat → Nat) := funext fun x => Nat.zero_add x
    rw [this, List.map_id]
  rw [e1] at z
  have e2 : ((xs.toList.reverse.toArray.toList.drop 0).take xs.size) = xs.toList.reverse := by
    rw [List.drop_zero]
    exact List.take_of_length_le (by simp)
  rw [e2] at z
  rw [← z]
  refine fm_congr fun k hk => ?_
  have hk := List.mem_range.mp hk
  have e3 : (((xs.size : Int) - 1) + (k : Int) * (-1)).toNat = xs.size - 1 - k := by omega
  rw [e3]
  simp only [List.getElem?_toArray]
  rw [List.getElem?_reverse (by simpa using hk)]
  simp
theorem places_back (n : Nat) : Builtin.Slice.slicePlaces ((n : Int) - 1) (-1) (-1) = n := by
  unfold Builtin.Slice.slicePlaces
  rw [if_neg (by decide)]
  by_cases h : (n : Int) - 1 > -1
  · rw [if_pos h]
    have : (-(-1) : Int) = 1 := by decide
    rw [this, Int.ediv_one]
    omega
  · rw [if_neg h]
    omega
section
variable {prog : Program} {w : World} {A : Around} {E : Value → Shared → Prop} {s : Shared}
theorem applied_back {sl : Addr} {vs : Value} {n : Nat} {Q : Int × Int × Nat → Shared → Prop} (hs : s.heap.IsSliceOf sl .none .none vs) (ps : IsPart vs (some (-1))) (h : Q ((n : Int) - 1, -1, n) s) : wpAny (model prog w) A (Builtin.Slice.sliceApplied (.ref sl) (pure (n : Int))) Q E s := by
  obtain ⟨os, hos, hcs, hds⟩ := id hs
  unfold Builtin.Slice.sliceApplied Builtin.Slice.sliceFields
  refine wpAny_bind (wpAny_bind (wpAny_field hos hds (x := .none) rfl (wpAny_bind (wpAny_field hos hds (x := .none) rfl (wpAny_bind (wpAny_field hos hds (x := vs) rfl (wpAny_pure ?_)))))))
  refine wpAny_bind (HT.slicePart_ ps ?_)
  show wpAny _ _ (if ((-1 : Int) == 0) = true then _ else _) _ _ s
  rw [if_neg (by decide)]
  refine wpAny_bind (HT.slicePart_ .none (wpAny_bind (HT.slicePart_ .none (wpAny_bind (wpAny_pure ?_)))))
  show wpAny _ _ (pure ((n : Int) - 1, (-1 : Int), Builtin.Slice.slicePlaces ((n : Int) - 1) (-1) (-1))) _ _ s
  rw [places_back]
  exact wpAny_pure h
theorem getItem_back {t sl : Addr} {items : Array Value} {vs : Value} {Q : Value → Shared → Prop} (ht : IsTup s.heap t items) (hs : s.heap.IsSliceOf sl .none .none vs) (ps : IsPart vs (some (-1)))
    (h : Q (.ref s.heap.objs.size) { s with heap := s.heap.push { cls := .type "tuple", data := .seq items.toList.reverse.toArray } }) (hsz : items.size ≤ sizeLine) : wpAny (model prog w) A (getItem (.ref t) (.ref sl)) Q E s := by
  have hok : sizeOk (.seq items.toList.reverse.toArray) := by
    show items.toList.reverse.toArray.size ≤ sizeLine
    rw [List.size_toArray, List.length_reverse, Array.length_toList]
    exact hsz
  obtain ⟨os, hos, hcs, hds⟩ := id hs
  have hTs : s.TypeIs (.ref sl) "slice" := ⟨os, hos, hcs⟩
  unfold getItem
  try with_reducible refine wpAny_holding ?_
  first | refine wpAny_bind (wpAny_pure ?_) | skip
  refine wpAny_bind (wpAny_sequenceKey ht.typeIs (by decide) ?_)
  refine wpAny_bind (wpAny_callSpecial?_slot (name := Str.ofString "__getitem__") ht.typeIs PyProof.Rows.slot_tuple_getitem
    (wpAny_call_entry PyProof.Rows.slot_tuple_getitem ht.typeIs PyProof.Rows.entry_tuple_getitem ?_ (args_tuple_getitem _ _)))
  show wpAny _ _ (Builtin.Tuple.tupleItemsOf (.ref t) >>= _) _ _ s
  refine wpAny_bind (tupleItemsOf_ ht ?_)
  refine wpAny_bind (wpAny_typeOf hTs ?_)
  rw [if_pos (by decide)]
  refine wpAny_bind (applied_back hs ps ?_)
  have hno : ¬ ((((items.size : Int) - 1) == 0 && (-1 : Int) == 1 && items.size == items.size) = true) := by
    intro q
    rw [Bool.and_eq_true, Bool.and_eq_true] at q
    exact absurd q.1.2 (by decide)
  show wpAny _ _ (if (((items.size : Int) - 1) == 0 && (-1 : Int) == 1 && items.size == items.size) = true then _ else _) _ _ s
  rw [if_neg hno, pick_back]
  first
    | exact wpAny_bind (m := Builtin.Tuple.tupleExact _) (wpAny_newObj_type (wpAny_pure ⟨_, rfl, wpAny_pure h⟩) hok)
    | exact wpAny_bind (m := Builtin.Tuple.tupleExact _) (wpAny_newObj_type (wpAny_bind (wpAny_pure (wpAny_pure ⟨_, rfl, wpAny_pure h⟩))) hok)
    | exact wpAny_bind (wpAny_bind (m := Builtin.Tuple.tupleExact _) (wpAny_newObj_type (wpAny_pure (wpAny_pure ⟨_, rfl, wpAny_pure h⟩)) hok))
    | exact wpAny_bind (wpAny_bind (m := Builtin.Tuple.tupleExact _) (wpAny_newObj_type (wpAny_pure ⟨_, rfl, wpAny_pure h⟩) hok))
end
def tRevT (K : PySem.W.Frag) (te : TE) : TE := fun σ H Q => te σ H fun x H1 => ∃ a xs, x = .ref a ∧ SqT K H1 a xs ∧ ∀ p, H1 p = none → Q (.ref p) (upd H1 p (.tup xs.reverse))
theorem pe_revT {X : Cx} {e : Expr} {te : TE} {k : Nat} {p1 p2 p3 pos : Pos} (he : PE X e te) : PE X (.Subscript e (.Slice none none (some (.UnaryOp .USub (.Constant (.int 1) k p1) p2)) p3) pos) (tRevT X.K te) := by
  refine ⟨fun pins s σ H Q I h => ?_⟩
  refine Subscript_ (thn (he.run pins s σ H _ I h) fun v s1 ⟨x, H1, I1, r1, q1⟩ => ?_)
  obtain ⟨a, xs, ex, hx, q⟩ := q1
  subst ex
  cases r1
  have hst : PO X (some (.UnaryOp .USub (.Constant (.int 1) k p1) p2)) (tPart (tUn (rU fun i => .int (-i)) (tC (.int 1)))) := po_some (pe_un un_neg pe_int)
  refine wpAny_Slice (thn (po_none.run pins s1 σ H1 (fun o H2 => o = none ∧ H2 = H1) I1 ⟨rfl, rfl⟩) fun vl s2 ⟨l, H2, I2, pl, el, e2⟩ => ?_)
  subst el e2
  refine thn (po_none.run pins s2 σ H2 (fun o H3 => o = none ∧ H3 = H2) I2 ⟨rfl, rfl⟩) fun vu s3 ⟨u, H3, I3, pu, eu, e3⟩ => ?_
  subst eu e3
  refine thn (hst.run pins s3 σ H3 (fun o H4 => o = some (-1) ∧ H4 = H3) I3 ⟨1, rfl, -1, rfl, rfl, rfl⟩) fun vs s4 ⟨o, H4, I4, ps, eo, e4⟩ => ?_
  subst eo e4
  have I5 : Inv X pins σ H4 { s4 with heap := s4.heap.push { cls := .type "slice", data := .fields #[vl, vu, vs] } } := I4.kept (t' := s4.toks) fun b ob q => Heap.get?_push_of_some _ q
  obtain ⟨its, r, ht, hz⟩ := I5.tuple hx
  have hlen := r.length
  cases pl
  cases pu
  show wpAny (model X.prog X.w) X.A (subscriptTail e (.Slice none none (some (.UnaryOp .USub (.Constant (.int 1) k p1) p2)) p3) (.ref a) (.ref s4.heap.objs.size)) (EP X pins σ Q) X.xe { s4 with heap := s4.heap.push { cls := .type "slice", data := .fields #[.none, .none, vs] } }
  refine tail_any (ops := [.ref a, .ref s4.heap.objs.size]) ht.typeIs (PyProof.Rows.slot_tuple_getitem.lookup) ?_ (by with_unfolding_all rfl)
  refine getItem_back ht (Heap.IsSliceOf.new _ .none .none vs) ps ?_ (by rw [List.size_toArray]; omega)
  refine ⟨.ref _, _, I5.laid (t' := s4.toks) (o := .tup xs.reverse) (fun b ob q => Heap.get?_push_of_some _ q) (Nat.le_refl _) ?_, rfl, q _ (I5.hok.fresh (Nat.le_refl _))⟩
  exact ⟨by rw [List.length_reverse]; exact hz, its.reverse, r.reverse, ⟨_, Heap.get?_push_size _ rfl, rfl, _, rfl⟩⟩
section
variable {K : PySem.W.Frag} {σ : L2.St} {H : Hp} {te ta tb : TE} {ds as bs : List PyData} {d : PyData}
theorem TDs.rev {H : Hp} : ∀ {ds : List PyData} {xs : List V}, TDs H xs ds → TDs H xs.reverse ds.reverse
  | [], xs, t => by
    rw [t.inv0]
    exact .nil
  | d :: ds, xs, t => by
    obtain ⟨v, ys, rfl, hv, t⟩ := t.inv
    rw [List.reverse_cons, List.reverse_cons]
    exact (TDs.rev t).app hv
theorem ed_revT (h : EvD te σ H (.tuple ds)) : EvD (tRevT K te) σ H (.tuple ds.reverse) := fun H1 e Q q =>
  h H1 e _ fun v H2 e2 x => by
    obtain ⟨a, xs, rfl, ha, t⟩ := x.tup
    exact ⟨a, xs, rfl, SqT.of ha, fun p hp => q (.ref p) _ (e2.trans (Ex.new hp)) (TD1.mk upd_same (t.rev.mono (Ex.new hp)))⟩
/-- two tuples put together, whatever they hold -/
theorem ed_catA (h1 : EvD ta σ H (.tuple as)) (h2 : EvD tb σ H (.tuple bs)) (hl : as.length + bs.length ≤ 100000) : EvD (tOp (rCatA K) ta tb) σ H (.tuple (as ++ bs)) := fun H1 e Q q =>
  h1 H1 e _ fun u H2 e2 x => h2 H2 (e.trans e2) _ fun v H3 e3 y => by
    obtain ⟨a, xs, rfl, ha, t⟩ := (x.mono e3).tup
    obtain ⟨b, ys, rfl, hb, s⟩ := y.tup
    have l1 := t.len
    have l2 := s.len
    refine ⟨a, b, xs, ys, rfl, rfl, SqT.of ha, SqT.of hb, sz_of (by omega), fun z => ?_, fun _ z => ?_, fun _ _ p hp => q (.ref p) _ ((e2.trans e3).trans (Ex.new hp)) (TD1.mk upd_same ((t.app s).mono (Ex.new hp)))⟩
    · subst z
      have e0 : as = [] := List.length_eq_zero_iff.mp l1.symm
      rw [e0, List.nil_append] at q
      exact q (.ref b) H3 (e2.trans e3) y
    · subst z
      have e0 : bs = [] := List.length_eq_zero_iff.mp l2.symm
      rw [e0, List.append_nil] at q
      exact q (.ref a) H3 (e2.trans e3) (x.mono e3)
/-- t[:k] -/
theorem ed_upto {k : Nat} (h : EvD te σ H (.tuple ds)) (hi : Ev tb σ H (.int (k : Int))) (hk : k ≤ ds.length) : EvD (tSl (rSlA K) te tNoPart (tPart tb)) σ H (.tuple (ds.take k)) := fun H1 e Q q =>
  h H1 e _ fun v H2 e2 x => hi H2 (e.trans e2) _ fun H3 e3 => by
    obtain ⟨a, xs, rfl, ha, t⟩ := (x.mono e3).tup
    have l := t.len
    have s1 : HT.sIx xs.length 0 none = 0 := HT.sIx_none _ _
    have s2 : HT.sIx xs.length xs.length (some (k : Int)) = k := by
      show (if (k : Int) < 0 then ((k : Int) + (xs.length : Int)).toNat else min (k : Int).toNat xs.length) = _
      rw [if_neg (by omega)]
      omega
    refine ⟨k, rfl, a, xs, rfl, SqT.of ha, fun z => ?_, fun _ p hp => ?_⟩
    · have z2 := z.2
      rw [s2] at z2
      have e0 : ds.take k = ds := List.take_of_length_le (by omega)
      rw [e0] at q
      exact q (.ref a) H3 (e2.trans e3) (TD1.mk ha t)
    · have e0 : cutV xs none (some (k : Int)) = xs.take k := by
        unfold cutV
        rw [s1, s2, List.drop_zero, Nat.sub_zero]
      rw [e0]
      exact q (.ref p) _ ((e2.trans e3).trans (Ex.new hp)) (TD1.mk upd_same ((t.take k).mono (Ex.new hp)))
/-- t[k:] -/
theorem ed_fromT {k : Nat} (h : EvD te σ H (.tuple ds)) (hi : Ev tb σ H (.int (k : Int))) : EvD (tSl (rSlA K) te (tPart tb) tNoPart) σ H (.tuple (ds.drop k)) := fun H1 e Q q =>
  h H1 e _ fun v H2 e2 x => hi H2 (e.trans e2) _ fun H3 e3 => by
    obtain ⟨a, xs, rfl, ha, t⟩ := (x.mono e3).tup
    have l := t.len
    have s1 : HT.sIx xs.length 0 (some (k : Int)) = min k xs.length := by
      show (if (k : Int) < 0 then ((k : Int) + (xs.length : Int)).toNat else min (k : Int).toNat xs.length) = _
      rw [if_neg (by omega)]
      rfl
    have s2 : HT.sIx xs.length xs.length none = xs.length := HT.sIx_none _ _
    refine ⟨k, rfl, a, xs, rfl, SqT.of ha, fun z => ?_, fun _ p hp => ?_⟩
    · have z1 := z.1
      rw [s1] at z1
      have e0 : ds.drop k = ds := by
        by_cases hk : k = 0
        · rw [hk, List.drop_zero]
        · have : ds = [] := List.eq_nil_of_length_eq_zero (by omega)
          rw [this, List.drop_nil]
      rw [e0] at q
      exact q (.ref a) H3 (e2.trans e3) (TD1.mk ha t)
    · have e0 : cutV xs (some (k : Int)) none = xs.drop k := by
        unfold cutV
        rw [s1, s2]
        have e1 : xs.drop (min k xs.length) = xs.drop k := by
          by_cases hk : k ≤ xs.length
          · rw [Nat.min_eq_left hk]
          · rw [Nat.min_eq_right (by omega), List.drop_of_length_le (Nat.le_refl _), List.drop_of_length_le (by omega)]
        rw [e1]
        exact List.take_of_length_le (by rw [List.length_drop]; omega)
      rw [e0]
      exact q (.ref p) _ ((e2.trans e3).trans (Ex.new hp)) (TD1.mk upd_same ((t.drop k).mono (Ex.new hp)))
end
end Q
set_option Elab.async false
set_option linter.all false
set_option maxRecDepth 100000
set_option maxHeartbeats 4000000
/-! forms spoilt -/
namespace PB
open PySem
def gK : (n : Nat) → Gm n → Prop := gF True (fun es => es.length ≤ 8) fun n r bs => bs.length ≤ 8 ∧ ∀ p ∈ bs, r p.2
theorem up_K : ∀ (n : Nat) (f : Fm n), thin n f → gK (n + 1) (up n f)
  | 0, es, h => by
    show (lfs es).length ≤ 8
    have : (lfs es).length ≤ 4 := h
    omega
  | n + 1, bs, h => by
    obtain ⟨h4, hp⟩ := h
    refine ⟨by rw [List.length_map]; omega, fun p hp' => ?_⟩
    obtain ⟨q, hq, rfl⟩ := List.mem_map.mp hp'
    exact up_K n q.2 (hp q hq)
theorem one_pow8 (n : Nat) : 1 ≤ 8 ^ n := Nat.one_le_pow _ _ (by decide)
theorem gK_E : ∀ (n : Nat) (g : Gm n), gK n g → (gEs n g).length ≤ 8 ^ n
  | 0, g, _ => nomatch (show Empty from g)
  | n + 1, g, h => by
    have o := one_pow8 n
    rw [Nat.pow_succ]
    rcases gm_cases g with ⟨es, rfl⟩ | ⟨bs, rfl⟩
    · have l : es.length ≤ 8 := h
      show es.length ≤ _
      omega
    · obtain ⟨l, hp⟩ : bs.length ≤ 8 ∧ ∀ p ∈ bs, gK n p.2 := h
      have z := flat_le (fun p : Bx × Gm n => gEs n p.2) (c := 8 ^ n) (l := bs) fun p hpm => gK_E n p.2 (hp p hpm)
      have : bs.length * 8 ^ n ≤ 8 * 8 ^ n := Nat.mul_le_mul_right _ l
      show (bs.flatMap fun p : Bx × Gm n => gEs n p.2).length ≤ _
      omega
theorem gK_P : ∀ (n : Nat) (g : Gm n), gK n g → (gP n g).length ≤ 8 ^ n
  | 0, g, _ => nomatch (show Empty from g)
  | n + 1, g, h => by
    have o := one_pow8 n
    rw [Nat.pow_succ]
    rcases gm_cases g with ⟨es, rfl⟩ | ⟨bs, rfl⟩
    · show 1 ≤ _
      omega
    · obtain ⟨l, hp⟩ : bs.length ≤ 8 ∧ ∀ p ∈ bs, gK n p.2 := h
      have z := flat_le (fun p : Bx × Gm n => (gP n p.2).map (· + 1)) (c := 8 ^ n) (l := bs) fun p hpm => by
        rw [List.length_map]
        exact gK_P n p.2 (hp p hpm)
      have : bs.length * 8 ^ n ≤ 8 * 8 ^ n := Nat.mul_le_mul_right _ l
      show (bs.flatMap fun p : Bx × Gm n => (gP n p.2).map (· + 1)).length ≤ _
      omega
theorem gK_C : ∀ (n : Nat) (g : Gm n), gK n g → gC n g ≤ 9 ^ n
  | 0, g, _ => nomatch (show Empty from g)
  | n + 1, g, h => by
    have o : 1 ≤ 9 ^ n := Nat.one_le_pow _ _ (by decide)
    rw [Nat.pow_succ]
    rcases gm_cases g with ⟨es, rfl⟩ | ⟨bs, rfl⟩
    · show 1 ≤ _
      omega
    · obtain ⟨l, hp⟩ : bs.length ≤ 8 ∧ ∀ p ∈ bs, gK n p.2 := h
      have z := sum_le (fun p : Bx × Gm n => gC n p.2) (c := 9 ^ n) (l := bs) fun p hpm => gK_C n p.2 (hp p hpm)
      have : bs.length * 9 ^ n ≤ 8 * 9 ^ n := Nat.mul_le_mul_right _ l
      show 1 + (bs.map fun p : Bx × Gm n => gC n p.2).sum ≤ _
      omega
theorem pow8 {n : Nat} (h : n ≤ 2) : 8 ^ n ≤ 64 := by
  match n, h with
  | 0, _ => decide
  | 1, _ => decide
  | 2, _ => decide
theorem gK_T : ∀ (n : Nat) (g : Gm n), n ≤ 3 → gK n g → gT n g
  | 0, g, _, _ => nomatch (show Empty from g)
  | n + 1, g, h3, h => by
    rcases gm_cases g with ⟨es, rfl⟩ | ⟨bs, rfl⟩
    · have l : es.length ≤ 8 := h
      show es.length ≤ 100
      omega
    · obtain ⟨l, hp⟩ : bs.length ≤ 8 ∧ ∀ p ∈ bs, gK n p.2 := h
      have p8 := pow8 (show n ≤ 2 by omega)
      refine ⟨by show bs.length ≤ 100; omega, fun p hpm => ⟨?_, ?_, gK_T n p.2 (by omega) (hp p hpm)⟩⟩
      · have := gK_E n p.2 (hp p hpm)
        omega
      · have := gK_P n p.2 (hp p hpm)
        omega
/-- what stands in a form, and forms of the like -/
theorem parts_of (n : Nat) (f : Fm n) (ht : thin n f) (hb : boxesOk n f) (h2 : n ≤ 2) : ∃ (α : Type) (enc : α → PyData) (mk : List α → Gm (n + 1)) (l0 : List α), formD n f = .tuple [.str (wdB (isLf n)), .tuple (l0.map enc)] ∧ l0.length ≤ 4 ∧ (∀ l, gD (n + 1) (mk l) = .tuple [.str (wdB (isLf n)), .tuple (l.map enc)]) ∧
    (∀ l, l.length ≤ 8 → (∀ x ∈ l, x ∈ l0) → gK (n + 1) (mk l) ∧ gO (n + 1) (mk l)) ∧ (∀ x ∈ l0, (enc x).canLay0 = true ∧ (enc x).depth ≤ 60) := by
  match n, f, ht, hb, h2 with
  | 0, es, ht, hb, _ =>
    exact ⟨Int × Bx, entD, fun l => gL l, lfs es, rfl, ht, fun l => rfl, fun l hl hm => ⟨hl, fun e he => hb e (hm e he)⟩, fun x _ => ⟨(small_ent x).1, Nat.le_trans (small_ent x).2 (by decide)⟩⟩
  | n + 1, bs, ht, hb, h2 =>
    refine ⟨Bx × Gm (n + 1), fun p => PyData.tuple [boxD p.1, gD (n + 1) p.2], fun l => gN l, (brs bs).map fun p => (p.1, up n p.2), ?_, by rw [List.length_map]; exact ht.1, fun l => rfl, fun l hl hm => ⟨⟨hl, fun p hp => ?_⟩, fun p hp => ?_⟩, fun x hx => ?_⟩
    · show PyData.tuple [.str "node", .tuple (List.map (fun p : Bx × Fm n => PyData.tuple [boxD p.1, formD n p.2]) (brs bs))] = _
      rw [List.map_map]
      have e : ((fun p : Bx × Gm (n + 1) => PyData.tuple [boxD p.1, gD (n + 1) p.2]) ∘ fun p : Bx × Fm n => (p.1, up n p.2)) = fun p : Bx × Fm n => PyData.tuple [boxD p.1, formD n p.2] := funext fun p => by
        show PyData.tuple [boxD p.1, gD (n + 1) (up n p.2)] = _
        rw [up_D n p.2]
      rw [e]
      rfl
    · obtain ⟨q, hq, rfl⟩ := List.mem_map.mp (hm p hp)
      exact up_K n q.2 (ht.2 q hq)
    · obtain ⟨q, hq, rfl⟩ := List.mem_map.mp (hm p hp)
      exact ⟨(hb q hq).1, up_O n q.2 (hb q hq).2⟩
    · have z := small_two (k := 3 * (n + 1) + 4) (a := boxD x.1) (b := gD (n + 1) x.2) ⟨(small_box x.1).1, Nat.le_trans (small_box x.1).2 (by omega)⟩ (small_formG (n + 1) x.2)
      exact ⟨z.1, Nat.le_trans z.2 (by omega)⟩
end PB
namespace Q
open PySem L2 PySem.Spec PyProof.Rows PySem.Calls
open Evl PB
abbrev sSpo : Stmt := top 55
def spSpo (m : Nat) : Sp := fun vs H Q _ => ∃ (p : Addr) (n : Nat) (f : Fm n) (v : V), n < m ∧ vs = [.ref p, v] ∧ BagIn p H ∧ TD1 H v (formD n f) ∧ thin n f ∧ boxesOk n f ∧ n ≤ 2 ∧ ∀ w (g : Gm (n + 1)) H', Bgd p H H' → TD1 H' w (gD (n + 1) g) → gK (n + 1) g → gO (n + 1) g → Q w H'
section
variable {K : PySem.W.Frag} {p : Addr} {σ : L2.St} {H : Hp} {te ta tb : TE} {t1 t3 : TT} {N : Nat}
theorem go_drawN (hs : σ[0]? = some (some (.ref p))) (hb : BagIn p H) (hn : Ev tb σ H (.int (N : Int))) (h0 : 0 < N) (h1 : N ≤ 1000) {Q : VK} (q : ∀ (r : Nat) H', r < N → Bgd p H H' → Q (.int (r : Int)) H') : tCall spDraw [] E0 (tCons (tVar 0) (tCons tb tNil)) σ H Q :=
  ⟨_, hs, hn H (Ex.refl _) _ fun H1 e1 => by
    have g1 := bag_ex e1 hb
    obtain ⟨a, b, c, hp⟩ := g1.bag
    refine ⟨p, a, b, c, (N : Int), rfl, hp, by omega, Nat.lt_of_lt_of_le (small_num (n := N) (by omega)).1 (by decide), fun r H2 r0 rN g2 => ?_⟩
    obtain ⟨k, rfl⟩ := Int.eq_ofNat_of_zero_le r0
    exact q k H2 (by omega) (g1.trans g2)⟩
/-- a test, a draw, a test -/
theorem t_spo {b1 b3 : Bool} (h1 : EvT t1 σ H b1) (hs : σ[0]? = some (some (.ref p))) (hb : BagIn p H) (h0 : 0 < N) (hN : N ≤ 1000) (h3 : ∀ H1, Bgd p H H1 → EvT t3 σ H1 b3) {Q : Bool → Hp → Prop} (q : ∀ b H', Bgd p H H' → (b = true → b1 = true ∧ b3 = true) → Q b H') :
    tAnd t1 (tAnd (tTest (tOp (rI0 fun i j => .bl (decide (j < i))) (tCall spDraw [] E0 (tCons (tVar 0) (tCons (tC (.int (N : Int))) tNil))) (tC (.int 0)))) t3) σ H Q := h1 H (Ex.refl _) _ fun H1 e1 => by
  have g1 := bag_ex e1 hb
  cases b1 with
  | false => exact q false H1 g1 fun z => nomatch z
  | true =>
    show tAnd (tTest (tOp (rI0 fun i j => .bl (decide (j < i))) (tCall spDraw [] E0 (tCons (tVar 0) (tCons (tC (.int (N : Int))) tNil))) (tC (.int 0)))) t3 σ H1 Q
    refine go_drawN hs g1.bag ev_c h0 hN fun r H2 hr g2 => ⟨(r : Int), 0, rfl, rfl, _, rfl, ?_⟩
    have g12 := g1.trans g2
    cases hd : decide ((0 : Int) < (r : Int)) with
    | false =>
      show (if false = true then _ else _)
      rw [if_neg (by decide)]
      exact q false H2 g12 fun z => nomatch z
    | true =>
      show (if true = true then _ else _)
      rw [if_pos rfl]
      exact h3 H2 g12 H2 (Ex.refl _) _ fun H3 e3 => q b3 H3 (g12.trans (bag_ex e3 g12.bag)) fun z => ⟨rfl, z⟩
theorem ev_neD {d1 d2 : PyData} (h1 : EvD ta σ H d1) (h2 : EvD tb σ H d2) (s1 : SeqAt.shaped d1 = true) (s2 : SeqAt.shaped d2 = true) : Ev (tOp (rNeD K) ta tb) σ H (.bl (!PyData.eqv d1 d2)) := fun H1 e Q q =>
  h1 H1 e _ fun u H2 e2 a => h2 H2 (e.trans e2) _ fun v H3 e3 b => ⟨d1, d2, (a.mono e3).dp, b.dp, s1, s2, q H3 (e2.trans e3)⟩
theorem q_ifG {t : TT} {tu tw tz : TS} {D : Ends} (h : t σ H fun b H1 => if b = true then tu { D with nx := tz D } σ H1 else tw { D with nx := tz D } σ H1) : tSeq (tIfS t tu tw) tz D σ H := h
theorem Bgd.bin {p : Addr} {H H' : Hp} (g : Bgd p H H') : BagIn p H' := g.bag
/-- the box made a little larger -/
theorem go_boxD {u : V} {x : Bx} (h0 : σ[0]? = some (some (.ref p))) (h5 : σ[5]? = some (some u)) (hb : BagIn p H) (tu : TD1 H u (boxD x)) {Q : VK} (q : ∀ (d1 d2 : Nat) v H', Bgd p H H' → TD1 H' v (boxD ⟨x.l - d1, x.b, x.r, x.t + d2⟩) → Q v H') :
    tTup (tCons (tOp (rI0 fun i j => .int (i - j)) (tOp (rIxT K) (tVar 5) (tC (.int 0))) (tCall spDraw [] E0 (tCons (tVar 0) (tCons (tC (.int 2)) tNil)))) (tCons (tOp (rIxT K) (tVar 5) (tC (.int 1))) (tCons (tOp (rIxT K) (tVar 5) (tC (.int 2))) (tCons (tOp (rI0 fun i j => .int (i + j)) (tOp (rIxT K) (tVar 5) (tC (.int 3))) (tCall spDraw [] E0 (tCons (tVar 0) (tCons (tC (.int 2)) tNil)))) tNil)))) σ H Q := by
  have ix : ∀ {H1 : Hp} {k : Int} {z : Int}, TD1 H1 u (boxD x) → (0 ≤ k ∧ [PyData.int x.l, .int x.b, .int x.r, .int x.t][k.toNat]? = some (.int z)) → Ev (tOp (rIxT K) (tVar 5) (tC (.int k))) σ H1 (.int z) := fun t h => ev_ofD (ed_ix (ed_var h5 t) h)
  refine ix tu ⟨by decide, rfl⟩ H (Ex.refl _) _ fun H1 e1 => ?_
  have g1 := bag_ex e1 hb
  refine go_drawN (N := 2) h0 g1.bag ev_c (by decide) (by decide) fun d1 H2 _ g2 => ⟨x.l, (d1 : Int), rfl, rfl, ?_⟩
  have t2 := (tu.mono e1).by (g2.tk g1.bag)
  refine ix t2 ⟨by decide, rfl⟩ H2 (Ex.refl _) _ fun H3 e3 => ?_
  refine ix (t2.mono e3) ⟨by decide, rfl⟩ H3 (Ex.refl _) _ fun H4 e4 => ?_
  have t4 := (t2.mono e3).mono e4
  refine ix t4 ⟨by decide, rfl⟩ H4 (Ex.refl _) _ fun H5 e5 => ?_
  have g5 := (g1.trans g2).trans (bag_ex ((e3.trans e4).trans e5) g2.bag)
  refine go_drawN (N := 2) h0 g5.bag ev_c (by decide) (by decide) fun d2 H6 _ g6 => ⟨x.t, (d2 : Int), rfl, rfl, ?_⟩
  have g06 := g5.trans g6
  refine ⟨by show 4 ≤ sizeLine; decide, fun a na => q d1 d2 (.ref a) _ (g06.trans (bag_ex (Ex.new na) g06.bag)) (TD1.mk upd_same (.int _ (.int _ (.int _ (.int _ .nil)))))⟩
theorem ed_put {at_ : Nat} {wd : Str} {ds : List PyData} {w2 u5 u6 : V} {b g : PyData} (h2 : σ[2]? = some (some (.str wd))) (h3 : σ[3]? = some (some w2)) (h4 : σ[4]? = some (some (.int (at_ : Int)))) (h5 : σ[5]? = some (some u5)) (h6 : σ[6]? = some (some u6)) (t2 : TD1 H w2 (.tuple ds)) (t5 : TD1 H u5 b) (t6 : TD1 H u6 g) (ha : at_ < ds.length) (hl : ds.length ≤ 100) :
    EvD (tTup (tCons (tVar 2) (tCons (tOp (rCatA K) (tOp (rCatA K) (tSl (rSlA K) (tVar 3) tNoPart (tPart (tVar 4))) (tTup (tCons (tTup (tCons (tVar 5) (tCons (tVar 6) tNil))) tNil))) (tSl (rSlA K) (tVar 3) (tPart (tOp (rI0 fun i j => .int (i + j)) (tVar 4) (tC (.int 1)))) tNoPart)) tNil))) σ H (.tuple [.str wd, .tuple (ds.take at_ ++ [.tuple [b, g]] ++ ds.drop (at_ + 1))]) :=
  ed_tup (da_cons (ed_str (ev_var h2)) (da_cons (ed_catA (ed_catA (ed_upto (ed_var h3 t2) (ev_var h4) (by omega)) (ed_tup (da_cons (ed_tup (da_cons (ed_var h5 t5) (da_cons (ed_var h6 t6) da_nil)) (by show 2 ≤ 100000; decide)) da_nil) (by show 1 ≤ 100000; decide)) (by
    rw [List.length_take]
    show _ + 1 ≤ _
    omega)) (ed_fromT (k := at_ + 1) (ed_var h3 t2) (ev_is (ev_op (ev_var h4) ev_c rv_I0) (by congr 1))) (by
    rw [List.length_append, List.length_take, List.length_drop]
    show _ + 1 + _ ≤ _
    omega)) da_nil)) (by show 2 ≤ 100000; decide)
end
section
variable {P : Program} {w : World} {K : PySem.W.Frag} {mg : Str → Option Value} {base : Heap}
abbrev nmSpo : List Str := ["bag", "form", "word", "items", "at", "box", "within", "kind"]
theorem scSpo : FnScope nmSpo ["bag", "form"] (defScope sSpo) := ⟨rfl, rfl, rfl, by decide +kernel, rfl, by decide +kernel, by decide +kernel⟩
theorem ok_spo {f : Addr} {fd : FuncData} {m : Nat} (F : Fun K "_law_spoilt" "_law_spoilt" sSpo f fd) (T : TB mg) (CD : Cl P w K mg base 1 "_law_draw" spDraw) (C : Cl P w K mg base (m + 1) "_law_spoilt" (spSpo m)) : FnOk P w K mg base CX0 (m + 2) f fd ["bag", "form"] (spSpo (m + 1)) := by
  refine F.ok scSpo (fun vs H Q E h => ?_) (fun cdv A' outer s H vs Q E hr h => ?_)
  · obtain ⟨p, n, g, v, _, rfl, _⟩ := h
    rfl
  · obtain ⟨p, n, g, v, hm, rfl, hb, hx, ht, ho, h2, k⟩ := h
    have hu4 := hr.units
    refine ⟨_, (pss_cons (ps_asg (pv 1) (pg_tup (by rfl) (pgs_cons (pg_name (i := 2) scSpo.nd rfl (Or.inl rfl)) (pgs_cons (pg_name (i := 3) scSpo.nd rfl (Or.inl rfl)) pgs_nil))))
      (pss_cons (ps_if (pw_and (pt_cmpR op_eq (pv 2) pe_str (nomark _)) (pw_and (pt_cmpR op_gt (pe_cl CD hr (by omega) (by rfl) (pa_cons (pv 0) (pa_cons (pe_int) pa_nil))) pe_int (nomark _)) (pw_and1 (pt_cmpR (op_neD hu4) (pv 3) (pe_tup pa_nil) (nomark _))))).pt (pss_cons (ps_set (i := 4) scSpo.nd rfl (Or.inl rfl) (pe_cl CD hr (by omega) (by rfl) (pa_cons (pv 0) (pa_cons (pe_callB call_len_seq (by rfl) T.len PySem.boot_len (pa_cons (pv 3) pa_nil)) pa_nil))))
        (pss_cons (ps_asg (pe_ix ix_tup (pv 3) (pv 4) (fun _ _ => rfl)) (pg_tup (by rfl) (pgs_cons (pg_name (i := 5) scSpo.nd rfl (Or.inl rfl)) (pgs_cons (pg_name (i := 6) scSpo.nd rfl (Or.inl rfl)) pgs_nil))))
        (pss_cons (ps_if (pt_cmpR op_eq (pe_cl CD hr (by omega) (by rfl) (pa_cons (pv 0) (pa_cons (pe_int) pa_nil))) pe_int (nomark _)) (pss_one (ps_set (i := 5) scSpo.nd rfl (Or.inl rfl) (pe_tup (pa_cons (pe_op op_sub (pe_ix ix_tup (pv 5) pe_int (fun _ _ => rfl)) (pe_cl CD hr (by omega) (by rfl) (pa_cons (pv 0) (pa_cons (pe_int) pa_nil)))) (pa_cons (pe_ix ix_tup (pv 5) pe_int (fun _ _ => rfl)) (pa_cons (pe_ix ix_tup (pv 5) pe_int (fun _ _ => rfl)) (pa_cons (pe_op op_add (pe_ix ix_tup (pv 5) pe_int (fun _ _ => rfl)) (pe_cl CD hr (by omega) (by rfl) (pa_cons (pv 0) (pa_cons (pe_int) pa_nil)))) pa_nil))))))) (pss_one (ps_set (i := 6) scSpo.nd rfl (Or.inl rfl) (pe_cl C hr (Nat.le_refl _) (by rfl) (pa_cons (pv 0) (pa_cons (pv 6) pa_nil))))))
        (pss_one (ps_ret (pe_tup (pa_cons (pv 2) (pa_cons (pe_op op_catA (pe_op op_catA (pe_slice sl_tupA (pv 3) po_none (po_some (pv 4))) (pe_tup (pa_cons (pe_tup (pa_cons (pv 5) (pa_cons (pv 6) pa_nil))) pa_nil))) (pe_slice sl_tupA (pv 3) (po_some (pe_op op_add (pv 4) pe_int)) po_none)) pa_nil)))))))) pss_nil)
      (pss_cons (ps_set (i := 7) scSpo.nd rfl (Or.inl rfl) (pe_cl CD hr (by omega) (by rfl) (pa_cons (pv 0) (pa_cons (pe_int) pa_nil))))
      (pss_cons (ps_if (pw_and (pt_cmpR op_eq (pv 7) pe_int (nomark _)) (pw_and1 (pt_cmpR (op_neD hu4) (pv 3) (pe_tup pa_nil) (nomark _)))).pt (pss_one (ps_ret (pe_tup (pa_cons (pv 2) (pa_cons (pe_op op_catA (pv 3) (pe_slice sl_tupA (pv 3) po_none (po_some pe_int))) pa_nil))))) pss_nil)
      (pss_cons (ps_if (pt_cmpR op_eq (pv 7) pe_int (nomark _)) (pss_one (ps_ret (pe_tup (pa_cons (pv 2) (pa_cons (pe_slice sl_tupA (pv 3) (po_some pe_int) po_none) pa_nil))))) pss_nil)
      (pss_cons (ps_if (pt_cmpR op_eq (pv 7) pe_int (nomark _)) (pss_one (ps_ret (pe_tup (pa_cons (pv 2) (pa_cons (pe_op op_catA (pv 3) (pv 3)) pa_nil))))) pss_nil)
      (pss_cons (ps_if (pt_cmpR op_eq (pv 7) pe_int (nomark _)) (pss_one (ps_ret (pe_tup (pa_cons (pe_str) (pa_cons (pe_tup (pa_cons (pe_tup (pa_cons (pe_int) (pa_cons (pe_tup (pa_cons (pe_int) (pa_cons (pe_int) (pa_cons (pe_int) (pa_cons (pe_int) pa_nil))))) pa_nil))) (pa_cons (pe_tup (pa_cons (pe_int) (pa_cons (pe_tup (pa_cons (pe_int) (pa_cons (pe_int) (pa_cons (pe_int) (pa_cons (pe_int) pa_nil))))) pa_nil))) pa_nil))) pa_nil))))) pss_nil)
      (pss_one (ps_ret (pe_tup (pa_cons (pv 2) (pa_cons (pe_revT (pv 3)) pa_nil)))))))))))), ?_⟩
    obtain ⟨α, enc, mk, l0, ed, l4, md, mok, msm⟩ := parts_of n g ht ho h2
    have hx' := hx
    rw [ed] at hx'
    refine q_unp2 (ed_var rfl hx') fun v1 v2 H1 e1 x1 x2 => ?_
    cases x1.str
    have g1 := bag_ex e1 hb
    have shp : SeqAt.shaped (.tuple (l0.map enc)) = true := shp_tup fun d hd => by
      obtain ⟨x, hx, rfl⟩ := List.mem_map.mp hd
      exact msm x hx
    refine q_whenG (t_spo (N := 3) (p := p) (et_test (ev_eqW (ev_var rfl))) rfl g1.bag (by decide) (by decide) (fun H2 g2 => et_test (ev_neD (ed_var rfl (x2.by (g2.tk g1.bag))) (ed_tup da_nil (by decide)) shp (by rfl))) fun b H2 g2 hbt => ?_)
    have g02 := g1.trans g2
    have x22 := x2.by (g2.tk g1.bag)
    cases b with
    | true =>
      rw [if_pos rfl]
      obtain ⟨n1, n2⟩ := hbt rfl
      match n, g, hm, hx, ht, ho, h2, k, n1, ed with
      | 0, g, _, _, _, _, _, _, n1, _ => exact absurd n1 (by decide)
      | n + 1, bs, hm, hx, ht, ho, h2, k, n1, ed =>
      have x2' : TD1 H2 v2 (.tuple ((brs bs).map fun p : Bx × Fm n => PyData.tuple [boxD p.1, formD n p.2])) := by
        have e9 : formD (n + 1) bs = .tuple [.str "node", .tuple ((brs bs).map fun p : Bx × Fm n => PyData.tuple [boxD p.1, formD n p.2])] := rfl
        rw [e9] at ed
        injection ed with ed
        injection ed with _ ed
        injection ed with ed _
        rw [ed]
        exact x22
      have ne : (brs bs) ≠ [] := fun z => by
        have e9 : formD (n + 1) bs = .tuple [.str "node", .tuple ((brs bs).map fun p : Bx × Fm n => PyData.tuple [boxD p.1, formD n p.2])] := rfl
        rw [e9] at ed
        injection ed with ed
        injection ed with _ ed
        injection ed with ed _
        injection ed with ed
        rw [← ed, z] at n2
        cases n2
      clear n1 n2 hbt shp msm mok md l4 ed
      have hl4 : (brs bs).length ≤ 4 := ht.1
      have h0 : 0 < (brs bs).length := List.length_pos_iff.mpr ne
      refine q_asgQ (go_drawN (N := (brs bs).length) (p := p) rfl g02.bag (ev_is (ev_lenT (ed_var rfl x2')) (by rw [List.length_map])) h0 (by omega) fun r H3 hr g3 => ?_)
      have x3 := x2'.by (g3.tk g02.bag)
      have g03 := g02.trans g3
      obtain ⟨q, hq⟩ : ∃ q, (brs bs)[r]? = some q := ⟨_, List.getElem?_eq_getElem hr⟩
      have hqm := List.mem_of_getElem? hq
      refine q_unp2 (d1 := boxD q.1) (d2 := formD n q.2) (ed_ixV (ed_var rfl x3) (ev_var rfl) ⟨by omega, by
        show (List.map (fun p : Bx × Fm n => PyData.tuple [boxD p.1, formD n p.2]) (brs bs))[((r : Int)).toNat]? = _
        rw [Int.toNat_natCast, List.getElem?_map, hq]
        rfl⟩) fun u5 u6 H4 e4 t5 t6 => ?_
      have g04 := g03.trans (bag_ex e4 g03.bag)
      have x4 := x3.mono e4
      have fin : ∀ (y : Bx) (hh : Gm (n + 1)) (w : V) (H5 : Hp), y.ok → gK (n + 1) hh → gO (n + 1) hh → Bgd p H H5 → TD1 H5 w (.tuple [.str "node", .tuple (((brs bs).map fun p : Bx × Fm n => PyData.tuple [boxD p.1, formD n p.2]).take r ++ [.tuple [boxD y, gD (n + 1) hh]] ++ ((brs bs).map fun p : Bx × Fm n => PyData.tuple [boxD p.1, formD n p.2]).drop (r + 1))]) → Q w H5 := fun y hh w H5 yo hk ho5 g5 tw => by
        have L : List (Bx × Gm (n + 1)) := (brs bs).map fun p => (p.1, up n p.2)
        refine k w (gN (((brs bs).map fun p => (p.1, up n p.2)).take r ++ [(y, hh)] ++ ((brs bs).map fun p => (p.1, up n p.2)).drop (r + 1))) H5 g5 ?_ ⟨?_, fun z hz => ?_⟩ fun z hz => ?_
        · have e : gD (n + 1 + 1) (gN (((brs bs).map fun p => (p.1, up n p.2)).take r ++ [(y, hh)] ++ ((brs bs).map fun p => (p.1, up n p.2)).drop (r + 1))) = .tuple [.str "node", .tuple (((((brs bs).map fun p => (p.1, up n p.2)).take r ++ [(y, hh)] ++ ((brs bs).map fun p => (p.1, up n p.2)).drop (r + 1)) : List (Bx × Gm (n + 1))).map fun p : Bx × Gm (n + 1) => PyData.tuple [boxD p.1, gD (n + 1) p.2])] := rfl
          rw [e, List.map_append, List.map_append, List.map_take, List.map_drop, List.map_map]
          have e2 : ((fun p : Bx × Gm (n + 1) => PyData.tuple [boxD p.1, gD (n + 1) p.2]) ∘ fun p : Bx × Fm n => (p.1, up n p.2)) = fun p : Bx × Fm n => PyData.tuple [boxD p.1, formD n p.2] := funext fun p => by
            show PyData.tuple [boxD p.1, gD (n + 1) (up n p.2)] = _
            rw [up_D n p.2]
          rw [e2]
          exact tw
        · rw [List.length_append, List.length_append, List.length_take, List.length_drop, List.length_map, List.length_singleton]
          omega
        · rcases List.mem_append.mp hz with hz | hz
          · rcases List.mem_append.mp hz with hz | hz
            · obtain ⟨q', hq', rfl⟩ := List.mem_map.mp (List.mem_of_mem_take hz)
              exact up_K n q'.2 (ht.2 q' hq')
            · rw [List.mem_singleton.mp hz]
              exact hk
          · obtain ⟨q', hq', rfl⟩ := List.mem_map.mp (List.mem_of_mem_drop hz)
            exact up_K n q'.2 (ht.2 q' hq')
        · rcases List.mem_append.mp hz with hz | hz
          · rcases List.mem_append.mp hz with hz | hz
            · obtain ⟨q', hq', rfl⟩ := List.mem_map.mp (List.mem_of_mem_take hz)
              exact ⟨(ho q' hq').1, up_O n q'.2 (ho q' hq').2⟩
            · rw [List.mem_singleton.mp hz]
              exact ⟨yo, ho5⟩
          · obtain ⟨q', hq', rfl⟩ := List.mem_map.mp (List.mem_of_mem_drop hz)
            exact ⟨(ho q' hq').1, up_O n q'.2 (ho q' hq').2⟩
      have dl : ((brs bs).map fun p : Bx × Fm n => PyData.tuple [boxD p.1, formD n p.2]).length = (brs bs).length := by rw [List.length_map]
      refine q_ifG (go_drawN (N := 3) (p := p) rfl g04.bag ev_c (by decide) (by decide) fun r3 H5 _ g5 => ⟨rfl, _, rfl, ?_⟩)
      have g05 := g04.trans g5
      have x5 := x4.by (g5.tk g04.bag)
      have t55 := t5.by (g5.tk g04.bag)
      have t65 := t6.by (g5.tk g04.bag)
      cases hd : decide (V.int (r3 : Int) = V.int 0) with
      | true =>
        show (if (true : Bool) = true then _ else _)
        rw [if_pos rfl]
        refine go_boxD (p := p) rfl rfl g05.bag t55 fun d1 d2 w5 H6 g6 tw => ?_
        have g06 := g05.trans g6
        refine s_retD (ed_put (at_ := r) (K := K) rfl rfl rfl rfl rfl (x5.by (g6.tk g05.bag)) tw (t65.by (g6.tk g05.bag)) (by omega) (by omega)) fun w7 H7 e7 t7 => ?_
        obtain ⟨o1, o2⟩ := (ho q hqm).1
        refine fin _ (up n q.2) w7 H7 ⟨?_, ?_⟩ (up_K n q.2 (ht.2 q hqm)) (up_O n q.2 (ho q hqm).2) (g06.trans (bag_ex e7 g06.bag)) (by rw [up_D]; exact t7)
        · show q.1.l - (d1 : Int) ≤ q.1.r
          omega
        · show q.1.b ≤ q.1.t + (d2 : Int)
          omega
      | false =>
        show (if (false : Bool) = true then _ else _)
        rw [if_neg (by decide)]
        refine ⟨_, rfl, _, rfl, p, n, q.2, u6, by omega, rfl, g05.bag, t65, ht.2 q hqm, (ho q hqm).2, by omega, fun w6 g6' H6 g6 tw k6 o6 => ?_⟩
        have g06 := g05.trans g6
        refine s_retD (ed_put (at_ := r) (K := K) rfl rfl rfl rfl rfl (x5.by (g6.tk g05.bag)) (t55.by (g6.tk g05.bag)) tw (by omega) (by omega)) fun w7 H7 e7 t7 => ?_
        exact fin q.1 g6' w7 H7 (ho q hqm).1 k6 o6 (g06.trans (bag_ex e7 g06.bag)) t7
    | false =>
      rw [if_neg (by decide)]
      refine q_asgQ (go_drawN (N := 5) (p := p) rfl g02.bag ev_c (by decide) (by decide) fun kd H3 hr g3 => ?_)
      have x3 := x22.by (g3.tk g02.bag)
      have g03 := g02.trans g3
      have dl : (l0.map enc).length = l0.length := by rw [List.length_map]
      have fin : ∀ (l : List α) (w : V) (H5 : Hp), l.length ≤ 8 → (∀ x ∈ l, x ∈ l0) → Bgd p H H5 → TD1 H5 w (.tuple [.str (wdB (isLf n)), .tuple (l.map enc)]) → Q w H5 := fun l w H5 hl hmem g5 tw => by
        obtain ⟨k1, k2⟩ := mok l hl hmem
        exact k w (mk l) H5 g5 (by rw [md]; exact tw) k1 k2
      refine q_when (et_and (et_test (ev_op (ev_var rfl) ev_c (rv_eq rfl))) fun _ => et_test (ev_neD (ed_var rfl x3) (ed_tup da_nil (by decide)) shp (by rfl))) (fun hb1 H4 e4 => ?_) (fun hb1 H4 e4 => ?_)
      · have ne : 1 ≤ l0.length := by
          cases l0 with
          | nil =>
            have z := (Bool.and_eq_true_iff.mp hb1).2
            cases z
          | cons a r => exact Nat.le_add_left _ _
        have e9 : EvD (tTup (tCons (tVar 2) (tCons (tOp (rCatA K) (tVar 3) (tSl (rSlA K) (tVar 3) tNoPart (tPart (tC (.int 1))))) tNil))) [some (.ref p), some v, some (.str (wdB (isLf n))), some v2, none, none, none, some (.int (kd : Int))] H4 (.tuple [.str (wdB (isLf n)), .tuple ((l0.map enc) ++ (l0.map enc).take 1)]) := ed_tup (da_cons (ed_str (ev_var rfl)) (da_cons (ed_catA (ed_var rfl (x3.mono e4)) (ed_upto (k := 1) (ed_var rfl (x3.mono e4)) ev_c (by omega)) (by rw [List.length_take]; omega)) da_nil)) (by show 2 ≤ 100000; decide)
        refine s_retD e9 fun w H5 e5 t5 => fin (l0 ++ l0.take 1) w H5 (by rw [List.length_append, List.length_take]; omega) (fun x hx => ?_) (g03.trans (bag_ex (e4.trans e5) g03.bag)) (by rw [List.map_append, List.map_take]; exact t5)
        rcases List.mem_append.mp hx with hx | hx
        · exact hx
        · exact List.mem_of_mem_take hx
      have x4 := x3.mono e4
      refine q_when (et_test (ev_op (ev_var rfl) ev_c (rv_eq rfl))) (fun hb2 H5 e5 => ?_) (fun hb2 H5 e5 => ?_)
      · have e9 : EvD (tTup (tCons (tVar 2) (tCons (tSl (rSlA K) (tVar 3) (tPart (tC (.int 1))) tNoPart) tNil))) [some (.ref p), some v, some (.str (wdB (isLf n))), some v2, none, none, none, some (.int (kd : Int))] H5 (.tuple [.str (wdB (isLf n)), .tuple ((l0.map enc).drop 1)]) := ed_tup (da_cons (ed_str (ev_var rfl)) (da_cons (ed_fromT (k := 1) (ed_var rfl (x4.mono e5)) ev_c) da_nil)) (by show 2 ≤ 100000; decide)
        exact s_retD e9 fun w H6 e6 t6 => fin (l0.drop 1) w H6 (by rw [List.length_drop]; omega) (fun x hx => List.mem_of_mem_drop hx) (g03.trans (bag_ex ((e4.trans e5).trans e6) g03.bag)) (by rw [List.map_drop]; exact t6)
      have x5 := x4.mono e5
      refine q_when (et_test (ev_op (ev_var rfl) ev_c (rv_eq rfl))) (fun hb3 H6 e6 => ?_) (fun hb3 H6 e6 => ?_)
      · have e9 : EvD (tTup (tCons (tVar 2) (tCons (tOp (rCatA K) (tVar 3) (tVar 3)) tNil))) [some (.ref p), some v, some (.str (wdB (isLf n))), some v2, none, none, none, some (.int (kd : Int))] H6 (.tuple [.str (wdB (isLf n)), .tuple ((l0.map enc) ++ (l0.map enc))]) := ed_tup (da_cons (ed_str (ev_var rfl)) (da_cons (ed_catA (ed_var rfl (x5.mono e6)) (ed_var rfl (x5.mono e6)) (by omega)) da_nil)) (by show 2 ≤ 100000; decide)
        refine s_retD e9 fun w H7 e7 t7 => fin (l0 ++ l0) w H7 (by rw [List.length_append]; omega) (fun x hx => ?_) (g03.trans (bag_ex (((e4.trans e5).trans e6).trans e7) g03.bag)) (by rw [List.map_append]; exact t7)
        rcases List.mem_append.mp hx with hx | hx
        · exact hx
        · exact hx
      have x6 := x5.mono e6
      refine q_when (et_test (ev_op (ev_var rfl) ev_c (rv_eq rfl))) (fun hb4 H7 e7 => ?_) (fun hb4 H7 e7 => ?_)
      · have bx1 : ∀ {i : Int}, EvD (tTup (tCons (tC (.int i)) (tCons (tTup (tCons (tC (.int 0)) (tCons (tC (.int 0)) (tCons (tC (.int 1)) (tCons (tC (.int 1)) tNil))))) tNil))) [some (.ref p), some v, some (.str (wdB (isLf n))), some v2, none, none, none, some (.int (kd : Int))] H7 (entD (i, ⟨0, 0, 1, 1⟩)) := ed_tup (da_cons (ed_int ev_c) (da_cons (ed_tup (da_cons (ed_int ev_c) (da_cons (ed_int ev_c) (da_cons (ed_int ev_c) (da_cons (ed_int ev_c) da_nil)))) (by show 4 ≤ 100000; decide)) da_nil)) (by show 2 ≤ 100000; decide)
        refine s_retD (ed_tup (ds := [.str "leaf", .tuple [entD (999, ⟨0, 0, 1, 1⟩), entD (998, ⟨0, 0, 1, 1⟩)]]) (da_cons (ed_str ev_c) (da_cons (ed_tup (da_cons bx1 (da_cons bx1 da_nil)) (by show 2 ≤ 100000; decide)) da_nil)) (by show 2 ≤ 100000; decide)) fun w H8 e8 t8 => k w (gL [(999, ⟨0, 0, 1, 1⟩), (998, ⟨0, 0, 1, 1⟩)]) H8 (g03.trans (bag_ex ((((e4.trans e5).trans e6).trans e7).trans e8) g03.bag)) t8 (show 2 ≤ 8 by decide) fun e he => ?_
        rcases List.mem_cons.mp he with rfl | he
        · exact ⟨by decide, by decide⟩
        · rw [List.mem_singleton.mp he]
          exact ⟨by decide, by decide⟩
      have x7 := x6.mono e7
      have e9 : EvD (tTup (tCons (tVar 2) (tCons (tRevT K (tVar 3)) tNil))) [some (.ref p), some v, some (.str (wdB (isLf n))), some v2, none, none, none, some (.int (kd : Int))] H7 (.tuple [.str (wdB (isLf n)), .tuple (l0.map enc).reverse]) := ed_tup (da_cons (ed_str (ev_var rfl)) (da_cons (ed_revT (ed_var rfl x7)) da_nil)) (by show 2 ≤ 100000; decide)
      exact s_retD e9 fun w H8 e8 t8 => fin l0.reverse w H8 (by rw [List.length_reverse]; omega) (fun x hx => List.mem_reverse.mp hx) (g03.trans (bag_ex ((((e4.trans e5).trans e6).trans e7).trans e8) g03.bag)) (by rw [List.map_reverse]; exact t8)
end
end Q
set_option Elab.async false
set_option linter.all false
set_option maxRecDepth 100000
set_option maxHeartbeats 4000000
/-! dicts compared, by data -/
namespace Q
open PySem L2 PySem.Spec PyProof.Rows PySem.Calls
open Evl PB
/-- d != e, of two dicts: of other lengths, or the same by data -/
def rNeDD (K : PySem.W.Frag) : R2 := fun x y H Q => ∃ (a b : Addr) (ks ls : List (Key × V)), x = .ref a ∧ y = .ref b ∧ H a = some (.dK ks) ∧ H b = some (.dK ls) ∧
  ((ks.length ≠ ls.length ∧ Q (.bl true) H) ∨ (ks.length = ls.length ∧ (∀ p ∈ ks, ∃ v d, valV ls p.1 = some v ∧ Dp K H p.2 d ∧ Dp K H v d ∧ SeqAt.shaped d = true) ∧ Q (.bl false) H))
section
variable {X : Cx}
theorem hits_dd {pins : List (Addr × Obj)} {σ : L2.St} {H : Hp} {s : Shared} {A : Around} (I : Inv X pins σ H s) (hu : A.units + 64 < cLine) {ls : List (Key × V)} {vb : List (Key × Value)} (rb : KV ls vb) : ∀ {ks : List (Key × V)} {va : List (Key × Value)}, KV ks va → (∀ p ∈ ks, ∃ v d, valV ls p.1 = some v ∧ Dp X.K H p.2 d ∧ Dp X.K H v d ∧ SeqAt.shaped d = true) → PySem.W.KeqHits A s vb va true := fun {ks va} ra h => by
  unfold KV at ra
  induction ra with
  | nil => exact .nil
  | @cons p q ks va e t ih =>
    obtain ⟨e1, e2⟩ := e
    obtain ⟨v, d, h1, h2, h3, h4⟩ := h p List.mem_cons_self
    have ih := ih fun p' hp' => h p' (List.mem_cons_of_mem _ hp')
    obtain ⟨k, w⟩ := q
    have hv : ∃ y, valueAt vb k = some y ∧ RelV v y := by
      have e1' : p.1 = k := e1
      rw [e1'] at h1
      exact RelO.some_of (v := v) (o := valueAt vb k) (by rw [← h1]; exact KV.val rb k)
    obtain ⟨y, hy, ry⟩ := hv
    obtain ⟨as, r1⟩ := Dp.reads I d p.2 _ h2 e2
    obtain ⟨bs, r2⟩ := Dp.reads I d v y h3 ry
    have z := SeqAt.eqAt_reads d d A s _ _ as bs r1 r2 (SeqAt.canLay_of_shaped h4) (SeqAt.canLay_of_shaped h4) (SeqAt.room_of_shaped h4 (by omega))
    rw [SeqAt.eqv_refl d (SeqAt.canLay_of_shaped h4)] at z
    exact .hit hy z ih
theorem op_ne_dictDD (hu : X.A.units + 65 < cLine) : OpR X (compareOp .NotEq) (rNeDD X.K) := by
  intro pins s σ H x y v u Q I rx ry h
  obtain ⟨a, b, ks, ls, rfl, rfl, ea, eb, h⟩ := h
  obtain rfl : v = Value.ref a := rx
  obtain rfl : u = Value.ref b := ry
  obtain ⟨_, ya, va, ra, da⟩ := (show ObjOk X.prog X.w H s.heap a (.dK ks) from I.hok a _ ea)
  obtain ⟨_, yb, vb, rb, db⟩ := (show ObjOk X.prog X.w H s.heap b (.dK ls) from I.hok b _ eb)
  rcases h with ⟨hlen, q⟩ | ⟨hlen, hp, q⟩
  · have hl : ¬ va.length = vb.length := by rw [← ra.length, ← rb.length]; exact hlen
    exact PySem.W.keq_ne (knd := mixKind X.prog X.w) (r := true) ya yb da db (by omega) (fun z => absurd z hl) (fin_bl I q (by simp [hl]))
  · have hl : va.length = vb.length := by rw [← ra.length, ← rb.length]; exact hlen
    exact PySem.W.keq_ne (knd := mixKind X.prog X.w) (r := true) ya yb da db (by omega) (fun _ => hits_dd I (by show X.A.units + 1 + 64 < cLine; omega) rb ra hp) (fin_bl I q (by simp [hl]))
end
end Q
set_option Elab.async false
set_option linter.all false
set_option maxRecDepth 100000
set_option maxHeartbeats 4000000
/-! what is known, and the tree beside it -/
namespace Q
open PySem L2 PySem.Spec PyProof.Rows PySem.Calls
open Evl PB
theorem q_gate {t tz : TS} {D : Ends} {σ : L2.St} {H : Hp} (Fact : L2.St → Hp → Prop) (h : ∀ N : L2.St → Hp → Prop, (∀ σ' H', Fact σ' H' → N σ' H') → t { D with nx := N } σ H) (k : ∀ σ' H', Fact σ' H' → tz D σ' H') : tSeq t tz D σ H := h (tz D) k
/-- lists and dicts, not tuples and instances -/
def Soft (H : Hp) (s : Addr) : Prop := (∃ xs, H s = some (.lst xs)) ∨ ∃ kvs : List (Key × V), H s = some (.dK kvs)
theorem Soft.ins {H : Hp} {s a C dx : Addr} {fs : List (Str × V)} (h : Soft H s) (ha : H a = some (.ins C dx fs)) : a ≠ s := fun z => by
  rw [z] at ha
  rcases h with ⟨xs, h⟩ | ⟨xs, h⟩
  · rw [h] at ha
    cases ha
  · rw [h] at ha
    cases ha
theorem Soft.tup {H : Hp} {s a : Addr} {ys : List V} (h : Soft H s) (ha : H a = some (.tup ys)) : a ≠ s := fun z => by
  rw [z] at ha
  rcases h with ⟨xs, h⟩ | ⟨xs, h⟩
  · rw [h] at ha
    cases ha
  · rw [h] at ha
    cases ha
theorem Kp.tkS {S : List Addr} {H H' : Hp} (k : Kp S H H') (h : ∀ s ∈ S, Soft H s) : TKp H H' := fun l xs hl => k l _ (fun z => (h l z).tup hl rfl) hl
/-- a tree of these entries, its dict apart from S -/
def TrS (C : Addr) (S : List Addr) (H : Hp) (a : Addr) (es : List (Int × Bx)) : Prop := ∃ (n : Nat) (f : Fm n) (dx : Addr) (u : V) (D : Addr) (qs : List (Int × Bx)), H a = some (.ins C dx (trF u (.ref D))) ∧ TD1 H u (formD n f) ∧ DicB H D qs ∧ ByNum (ents n f) qs ∧ (ents n f).Perm es ∧ sizes n f ∧ least n f ∧ n ≤ 1 ∧ D ∉ S
theorem TrS.trE {C : Addr} {S : List Addr} {H : Hp} {a : Addr} {es : List (Int × Bx)} (h : TrS C S H a es) : TrE C H a es := by
  obtain ⟨n, f, dx, u, D, qs, h1, h2, h3, h4, h5, h6, h7, h8, _⟩ := h
  exact ⟨n, f, ⟨dx, u, D, qs, h1, h2, h3, h4⟩, h5, h6, h7, h8⟩
theorem TrS.of {C : Addr} {S : List Addr} {H0 H : Hp} {a : Addr} {es : List (Int × Bx)} (h : TrE C H a es) (d : TrD C H0 H a) (hS : ∀ s ∈ S, H0 s ≠ none) : TrS C S H a es := by
  obtain ⟨n, f, ⟨dx, u, D, qs, h1, h2, h3, h4⟩, h5, h6, h7, h8⟩ := h
  obtain ⟨dx', u', D', e1, e2⟩ := d
  rw [h1] at e1
  injection e1 with e1
  injection e1 with _ _ e1
  injection e1 with _ e1
  injection e1 with e1 _
  injection e1 with _ e1
  injection e1 with e1
  subst e1
  exact ⟨n, f, dx, u, D, qs, h1, h2, h3, h4, h5, h6, h7, h8, fun z => hS D z e2⟩
theorem TrS.kp {C : Addr} {S : List Addr} {H H' : Hp} {a : Addr} {es : List (Int × Bx)} (h : TrS C S H a es) (k : Kp S H H') (hs : ∀ s ∈ S, Soft H s) : TrS C S H' a es := by
  obtain ⟨n, f, dx, u, D, qs, h1, h2, ⟨kvs, h3, h4, h5⟩, h6, h7, h8, h9, h10, h11⟩ := h
  have tk := k.tkS hs
  exact ⟨n, f, dx, u, D, qs, k a _ (fun z => (hs a z).ins h1 rfl) h1, h2.by tk, ⟨kvs, k D _ h11 h3, h4, h5.by tk⟩, h6, h7, h8, h9, h10, h11⟩
theorem TrS.perm {C : Addr} {S : List Addr} {H : Hp} {a : Addr} {es fs : List (Int × Bx)} (h : TrS C S H a es) (p : es.Perm fs) : TrS C S H a fs := by
  obtain ⟨n, f, dx, u, D, qs, h1, h2, h3, h4, h5, h6⟩ := h
  exact ⟨n, f, dx, u, D, qs, h1, h2, h3, h4, h5.trans p, h6⟩
/-- an elder tree and its form -/
def EldO (C : Addr) (H : Hp) (x : V) : Prop := ∃ (tp b dx : Addr) (u1 d1 u2 : V) (n : Nat) (f : Fm n), x = .ref tp ∧ H tp = some (.tup [.ref b, u2]) ∧ H b = some (.ins C dx (trF u1 d1)) ∧ TD1 H u1 (formD n f) ∧ TD1 H u2 (formD n f) ∧ n ≤ 3
theorem EldO.kp {C : Addr} {S : List Addr} {H H' : Hp} {x : V} (h : EldO C H x) (k : Kp S H H') (hs : ∀ s ∈ S, Soft H s) : EldO C H' x := by
  obtain ⟨tp, b, dx, u1, d1, u2, n, f, h1, h2, h3, h4, h5, h6⟩ := h
  have tk := k.tkS hs
  exact ⟨tp, b, dx, u1, d1, u2, n, f, h1, tk _ _ h2, k b _ (fun z => (hs b z).ins h3 rfl) h3, h4.by tk, h5.by tk, h6⟩
/-! the dict that is known -/
theorem dicB_drop {H : Hp} {i : Int} : ∀ {es : List (Int × Bx)} {kvs : List (Key × V)}, kvs.map (·.1) = (es.map fun e => Sum.inl e.1) → TDs H (kvs.map (·.2)) (es.map fun e => boxD e.2) → (dropK kvs (.inl i)).map (·.1) = ((without es i).map fun e => Sum.inl e.1) ∧ TDs H ((dropK kvs (.inl i)).map (·.2)) ((without es i).map fun e => boxD e.2)
  | [], kvs, h1, h2 => by
    have : kvs = [] := List.map_eq_nil_iff.mp h1
    subst this
    exact ⟨rfl, .nil⟩
  | e :: es, [], h1, _ => by cases h1
  | e :: es, kv :: kvs, h1, h2 => by
    rw [List.map_cons, List.map_cons] at h1 h2
    injection h1 with h1a h1b
    obtain ⟨v, ys, ee, tv, tt⟩ := h2.inv
    injection ee with e1 e2
    subst e1 e2
    obtain ⟨r1, r2⟩ := dicB_drop (i := i) h1b tt
    by_cases q : e.1 = i
    · have d1 : dropK (kv :: kvs) (.inl i) = dropK kvs (.inl i) := dropK_pos (by rw [h1a, q])
      have d2 : without (e :: es) i = without es i := by
        unfold without
        rw [List.filter_cons, if_neg (by rw [decide_eq_true q]; decide)]
      rw [d1, d2]
      exact ⟨r1, r2⟩
    · have d1 : dropK (kv :: kvs) (.inl i) = kv :: dropK kvs (.inl i) := dropK_neg (fun z => q (Sum.inl.inj (h1a.symm.trans z)))
      have d2 : without (e :: es) i = e :: without es i := by
        unfold without
        rw [List.filter_cons, if_pos (by rw [decide_eq_false q]; rfl)]
      rw [d1, d2]
      exact ⟨by rw [List.map_cons, List.map_cons, h1a, r1], TDs.cons tv r2⟩
def putE (es : List (Int × Bx)) (i : Int) (b : Bx) : List (Int × Bx) := if i ∈ es.map (·.1) then es.map fun e => if e.1 = i then (i, b) else e else es ++ [(i, b)]
theorem dicB_put {H : Hp} {i : Int} {b : Bx} {u : V} {es : List (Int × Bx)} {kvs : List (Key × V)} (h1 : kvs.map (·.1) = (es.map fun e => Sum.inl e.1)) (h2 : TDs H (kvs.map (·.2)) (es.map fun e => boxD e.2)) (tu : TD1 H u (boxD b)) : (putK kvs (.inl i) u).map (·.1) = ((putE es i b).map fun e => Sum.inl e.1) ∧ TDs H ((putK kvs (.inl i) u).map (·.2)) ((putE es i b).map fun e => boxD e.2) := by
  have any : (kvs.any fun kv => decide (kv.1 = (Sum.inl i : Key))) = decide (i ∈ es.map (·.1)) := by
    rw [valV_any, mem_keys h1]
  unfold putK putE
  by_cases q : i ∈ es.map (·.1)
  · rw [if_pos q, if_pos (by rw [any, decide_eq_true q])]
    clear any q
    induction es generalizing kvs with
    | nil =>
      have : kvs = [] := List.map_eq_nil_iff.mp h1
      subst this
      exact ⟨rfl, .nil⟩
    | cons e es ih =>
      match kvs, h1, h2 with
      | kv :: kvs, h1, h2 =>
        rw [List.map_cons, List.map_cons] at h1 h2
        injection h1 with h1a h1b
        obtain ⟨v, ys, ee, tv, tt⟩ := h2.inv
        injection ee with e1 e2
        subst e1 e2
        obtain ⟨r1, r2⟩ := ih h1b tt
        by_cases z : e.1 = i
        · have a1 : ((kv :: kvs).map fun kv : Key × V => if kv.1 = Sum.inl i then (kv.1, u) else kv) = (kv.1, u) :: kvs.map fun kv : Key × V => if kv.1 = Sum.inl i then (kv.1, u) else kv := by
            rw [List.map_cons, if_pos (show kv.1 = Sum.inl i by rw [h1a, z])]
          have a2 : ((e :: es).map fun e : Int × Bx => if e.1 = i then (i, b) else e) = (i, b) :: es.map fun e : Int × Bx => if e.1 = i then (i, b) else e := by
            rw [List.map_cons, if_pos z]
          rw [a1, a2]
          exact ⟨by rw [List.map_cons, List.map_cons, r1, h1a, z], TDs.cons tu r2⟩
        · have a1 : ((kv :: kvs).map fun kv : Key × V => if kv.1 = Sum.inl i then (kv.1, u) else kv) = kv :: kvs.map fun kv : Key × V => if kv.1 = Sum.inl i then (kv.1, u) else kv := by
            rw [List.map_cons, if_neg (fun w => z (Sum.inl.inj (h1a.symm.trans w)))]
          have a2 : ((e :: es).map fun e : Int × Bx => if e.1 = i then (i, b) else e) = e :: es.map fun e : Int × Bx => if e.1 = i then (i, b) else e := by
            rw [List.map_cons, if_neg z]
          rw [a1, a2]
          exact ⟨by rw [List.map_cons, List.map_cons, r1, h1a], TDs.cons tv r2⟩
  · rw [if_neg q, if_neg (by rw [any, decide_eq_false q]; decide), List.map_append, List.map_append, List.map_append, List.map_append, h1]
    exact ⟨rfl, h2.app tu⟩
theorem putE_perm {es : List (Int × Bx)} {i : Int} {b : Bx} (nd : (es.map (·.1)).Nodup) (hi : i ∈ es.map (·.1)) : (putE es i b).Perm (without es i ++ [(i, b)]) := by
  unfold putE
  rw [if_pos hi]
  induction es with
  | nil => cases hi
  | cons e es ih =>
    rw [List.map_cons] at nd
    obtain ⟨n1, n2⟩ := List.nodup_cons.mp nd
    rw [List.map_cons]
    by_cases z : e.1 = i
    · have no : i ∉ es.map (·.1) := by rw [← z]; exact n1
      have m1 : (es.map fun e => if e.1 = i then (i, b) else e) = es := by
        have : ∀ l : List (Int × Bx), i ∉ l.map (·.1) → (l.map fun e => if e.1 = i then (i, b) else e) = l := fun l => by
          induction l with
          | nil => exact fun _ => rfl
          | cons x l ih2 =>
            intro hx
            rw [List.map_cons, if_neg (fun w => hx (by rw [List.map_cons, w]; exact List.mem_cons_self)), ih2 fun w => hx (List.mem_cons_of_mem _ w)]
        exact this es no
      have m2 : without (e :: es) i = es := by
        unfold without
        rw [List.filter_cons, if_neg (by rw [decide_eq_true z]; decide)]
        refine List.filter_eq_self.mpr fun x hx => ?_
        rw [decide_eq_false (fun w => no (List.mem_map.mpr ⟨x, hx, w⟩))]
        rfl
      rw [if_pos z, m1, m2]
      exact (List.perm_append_singleton _ _).symm
    · have m2 : without (e :: es) i = e :: without es i := by
        unfold without
        rw [List.filter_cons, if_pos (by rw [decide_eq_false z]; rfl)]
      have hi2 : i ∈ es.map (·.1) := by
        rcases List.mem_cons.mp hi with w | w
        · exact absurd w.symm z
        · exact w
      rw [if_neg z, m2, List.cons_append]
      exact List.Perm.cons e (ih n2 hi2)
theorem putE_new {es : List (Int × Bx)} {i : Int} {b : Bx} (hi : i ∉ es.map (·.1)) : putE es i b = es ++ [(i, b)] := by
  unfold putE
  rw [if_neg hi]
end Q
set_option Elab.async false
set_option linter.all false
set_option maxRecDepth 100000
set_option maxHeartbeats 4000000
/-! a tree held against what is known -/
namespace Q
open PySem L2 PySem.Spec PyProof.Rows PySem.Calls
open Evl PB
section
variable {K : PySem.W.Frag} {C a Kd : Addr} {σ : L2.St} {H : Hp} {te ta tb : TE} {es : List (Int × Bx)} {n : Nat} {f : Fm n} {ds fs : List PyData}
theorem ed_formP {i : Nat} (hi : σ[i]? = some (some (.ref a))) (x : TrA C H a n f) : EvD (tProp C (spFormP C) [] E0 (tVar i)) σ H (formD n f) := fun H1 e1 Q q => by
  obtain ⟨dx, u, D, qs, ha, tu, _⟩ := x
  exact ⟨_, hi, a, dx, _, rfl, e1 _ _ ha, a, dx, u, .ref D, rfl, e1 _ _ ha, q u H1 (Ex.refl _) (tu.mono e1)⟩
theorem ev_neLd (h1 : EvLd ta σ H ds) (h2 : EvLd tb σ H fs) (s1 : SeqAt.shaped (.list ds) = true) (s2 : SeqAt.shaped (.list fs) = true) : Ev (tOp (rNeD K) ta tb) σ H (.bl (!PyData.eqv (.list ds) (.list fs))) := fun H1 e Q q =>
  h1 H1 e _ fun l xs H2 e2 hl x => h2 H2 (e.trans e2) _ fun k ys H3 e3 hk y => ⟨.list ds, .list fs, .lst (SqL.of (e3 _ _ hl)) (x.mono e3).dp, .lst (SqL.of hk) y.dp, s1, s2, q H3 (e2.trans e3)⟩
theorem eds_lflG {m : Nat} {g : Gm m} (h : EvD te σ H (gD m g)) (ht : gT m g) (h4 : m ≤ 4) (hc : gC m g ≤ 2000) (he : (gEs m g).length ≤ 4000) : EvDs (tCall spLFl [] E0 (tCons te tNil)) σ H ((flaws m g).map PyData.str) := fun H1 e Q q =>
  h H1 e _ fun v H2 e2 x => ⟨m, g, v, rfl, x, ht, h4, hc, he, fun l H3 nl e3 hl => q l _ H3 (fresh_back e2 nl) (e2.trans e3) hl (TDs.strs _)⟩
theorem eds_lfl (h : EvD te σ H (formD n f)) (hz : sizes n f) (hl : least n f) (nd : ((ents n f).map (·.1)).Nodup) (h3 : n ≤ 3) (hc : (ents n f).length ≤ 300) : EvDs (tCall spLFl [] E0 (tCons te tNil)) σ H [] := by
  have ht := sizes_thin n f hz
  obtain ⟨b1, b2, _⟩ := bnds ht h3
  have z := eds_lflG (te := te) (σ := σ) (H := H) (m := n + 1) (g := up n f) (by rw [up_D]; exact h) (up_T n f ht h3) (by omega) b1 b2
  rw [flaws_up hl hz nd hc] at z
  exact z
theorem et_noflaws (h : EvD te σ H (formD n f)) (hz : sizes n f) (hl : least n f) (nd : ((ents n f).map (·.1)).Nodup) (h3 : n ≤ 3) (hc : (ents n f).length ≤ 300) : EvT (tTest (tOp (rNeD K) (tCall spLFl [] E0 (tCons te tNil)) (tLst tNil))) σ H false :=
  et_test (ev_neLd (ld_new (eds_lfl h hz hl nd h3 hc)) (ld_new (eds_lst da_nil (by decide))) rfl rfl)
theorem nd_inl : ∀ {es : List (Int × Bx)}, (es.map (·.1)).Nodup → (es.map fun e => (Sum.inl e.1 : Key)).Nodup
  | [], _ => .nil
  | e :: es, h => by
    rw [List.map_cons] at h ⊢
    obtain ⟨h1, h2⟩ := List.nodup_cons.mp h
    refine List.nodup_cons.mpr ⟨fun z => h1 ?_, nd_inl h2⟩
    obtain ⟨y, hy, ey⟩ := List.mem_map.mp z
    exact List.mem_map.mpr ⟨y, hy, Sum.inl.inj ey⟩
/-- the boxes are those known -/
theorem et_boxes {C : Addr} (h1 : σ[1]? = some (some (.ref Kd))) (h2 : σ[2]? = some (some (.ref a))) (hk : DicB H Kd es) (x : TrE C H a es) (nd : (es.map (·.1)).Nodup) : EvT (tTest (tOp (rNeDD K) (tProp C (spBoxesP C) [] E0 (tVar 2)) (tVar 1))) σ H false := fun H1 e1 Q q => by
  obtain ⟨n, f, ⟨dx, u, D, qs, ha, tu, ⟨kvs, hD, k1, k2⟩, pm, po⟩, pe, _⟩ := x.mono e1
  obtain ⟨kv2, hK, l1, l2⟩ := hk.mono e1
  refine ⟨_, h2, a, dx, _, rfl, ha, a, dx, D, u, kvs, rfl, ha, hD, fun p H2 np e2 hp => ⟨_, h1, p, Kd, kvs, kv2, rfl, rfl, hp, e2 _ _ hK, .inr ⟨?_, fun pr hpr => ?_, false, rfl, q H2 e2⟩⟩⟩
  · rw [DicB.len k1, DicB.len l1, pm.length_eq, pe.length_eq]
  · have pq : qs.Perm es := pm.trans pe
    obtain ⟨j, hj⟩ := List.mem_iff_getElem?.mp hpr
    have hk1 : (kvs.map (·.1))[j]? = some pr.1 := by rw [List.getElem?_map, hj]; rfl
    rw [k1, List.getElem?_map] at hk1
    obtain ⟨qe, hq, e8⟩ := Option.map_eq_some_iff.mp hk1
    have hk2 : (kvs.map (·.2))[j]? = some pr.2 := by rw [List.getElem?_map, hj]; rfl
    obtain ⟨d, hd, td⟩ := k2.to hk2
    rw [List.getElem?_map, hq] at hd
    cases hd
    have mem : qe ∈ es := pq.mem_iff.mp (List.mem_of_getElem? hq)
    obtain ⟨i, hi⟩ := List.mem_iff_getElem?.mp mem
    have hx : (es.map fun e => boxD e.2)[i]? = some (boxD qe.2) := by rw [List.getElem?_map, hi]; rfl
    obtain ⟨v, hv, tv⟩ := l2.at hx
    refine ⟨v, boxD qe.2, ?_, (td.mono e2).dp, (tv.mono e2).dp, shaped_box _⟩
    rw [List.getElem?_map] at hv
    obtain ⟨kv, hkv, e9⟩ := Option.map_eq_some_iff.mp hv
    have hkk : (kv2.map (·.1))[i]? = some kv.1 := by rw [List.getElem?_map, hkv]; rfl
    rw [l1, List.getElem?_map, hi] at hkk
    have e10 : kv.1 = Sum.inl qe.1 := (Option.some.inj hkk).symm
    rw [← e8, ← e9]
    have ndk : (kv2.map (·.1)).Nodup := by
      rw [l1]
      exact nd_inl nd
    have gen : ∀ {kvs : List (Key × V)} {i : Nat} {kv : Key × V}, (kvs.map (·.1)).Nodup → kvs[i]? = some kv → valV kvs kv.1 = some kv.2 := fun {kvs} => by
      induction kvs with
      | nil => intro i kv _ h; cases h
      | cons p r ih =>
        intro i kv hn h
        rw [List.map_cons] at hn
        obtain ⟨n1, n2⟩ := List.nodup_cons.mp hn
        cases i with
        | zero =>
          cases h
          exact valV_pos rfl
        | succ i =>
          have h' : r[i]? = some kv := by simpa using h
          rw [valV_neg (fun z => n1 (by rw [z]; exact List.mem_map.mpr ⟨kv, List.mem_of_getElem? h', rfl⟩))]
          exact ih n2 h'
    have z := gen ndk hkv
    rw [← e10]
    exact z
theorem sorted_uniq {xs ys : List Int} (p : xs.Perm ys) (hx : xs.Pairwise (· ≤ ·)) (hy : ys.Pairwise (· ≤ ·)) : xs = ys := List.Perm.eq_of_pairwise (fun a b _ _ h1 h2 => Int.le_antisymm h1 h2) hx hy p
theorem pw_map {qs : List (Int × Bx)} (h : qs.Pairwise fun a b => a.1 ≤ b.1) : (qs.map (·.1)).Pairwise (· ≤ ·) := List.pairwise_map.mpr h
/-- sorted(known) -/
theorem eds_sortK {qs : List (Int × Bx)} (h1 : σ[1]? = some (some (.ref Kd))) (hk : DicB H Kd es) (hq : ByNum es qs) (hl : es.length ≤ 60) : EvDs (tCB (fun xs H Q => ∃ (a : Addr) (kvs : List (Key × V)) (ks : List Int), xs = [.ref a] ∧ Rd H a (.dK kvs) ∧ kvs.map (·.1) = ks.map Sum.inl ∧ ks.length < 64 ∧ ∀ (ys : List Int) (p : Addr), ys.Perm ks → ys.Pairwise (· ≤ ·) → H p = none → Q (.ref p) (upd H p (.lst (ys.map V.int)))) (tCons (tVar 1) tNil)) σ H ((qs.map (·.1)).map PyData.int) := fun H1 e1 Q q => by
  obtain ⟨kvs, hK, l1, l2⟩ := hk.mono e1
  refine ⟨_, h1, Kd, kvs, es.map (·.1), rfl, .inl hK, by rw [l1, List.map_map]; rfl, by rw [List.length_map]; omega, fun ys p py pw hp => q p _ _ hp (Ex.new hp) upd_same ?_⟩
  have e : ys = qs.map (·.1) := sorted_uniq (py.trans (hq.1.map (·.1)).symm) pw (pw_map hq.2)
  rw [e]
  exact TDs.ints _
/-- list(found) -/
theorem eds_listF {H0 : Hp} {qs : List (Int × Bx)} (h2 : σ[2]? = some (some (.ref a))) (hb0 : ∀ l, H l = none → H0 l = none) (x : TrB C H a qs) (hl : qs.length ≤ 1000) : EvDs (tCB (rListOwnD H0 C (spIterT C) (spLenT C)) (tCons (tVar 2) tNil)) σ H ((qs.map (·.1)).map PyData.int) := fun H1 e1 Q q => by
  obtain ⟨dx, u, D, ha, kvs, hD, k1, k2⟩ := x.mono e1
  have kl := DicB.len k1
  refine ⟨_, h2, a, D, kvs, rfl, ⟨dx, _, ha⟩, hD, by omega, fun od H2 kp hDf => ?_, fun p H' np e hp => q p _ H' np e hp ?_⟩
  · have nAD : a ≠ D := fun z => by
      rw [z, hD] at ha
      cases ha
    have ha2 := kp a _ nAD ha
    refine ⟨a, dx, D, u, od, kvs, rfl, ha2, hDf, fun it H3 nit e3 hit => ⟨it, rfl, hb0 it (fresh_back e1 ?_), nit, e3, hit, a, rfl, ⟨dx, _, e3 _ _ ha2⟩, a, dx, D, u, kvs, rfl, e3 _ _ ha2, .inr ⟨od, e3 _ _ hDf⟩, fun H4 e4 => ⟨kvs.length, rfl, by omega, rfl, e4⟩⟩⟩
    cases z : H1 it with
    | none => rfl
    | some o =>
      by_cases w : it = D
      · rw [w, hDf] at nit
        cases nit
      · rw [kp it o w z] at nit
        cases nit
  · have e2 : (kvs.map fun kv => kV kv.1) = (qs.map (·.1)).map V.int := by
      have z := congrArg (List.map kV) k1
      rw [List.map_map, List.map_map] at z
      rw [List.map_map]
      exact z
    rw [e2]
    exact TDs.ints _
/-- list(found.boxes) -/
theorem eds_listB {qs : List (Int × Bx)} (h2 : σ[2]? = some (some (.ref a))) (x : TrB C H a qs) : EvDs (tCB (fun xs H Q => ∃ (a : Addr) (kvs : List (Key × V)), xs = [.ref a] ∧ Rd H a (.dK kvs) ∧ ∀ p, H p = none → Q (.ref p) (upd H p (.lst (kvs.map fun kv => kV kv.1)))) (tCons (tProp C (spBoxesP C) [] E0 (tVar 2)) tNil)) σ H ((qs.map (·.1)).map PyData.int) := fun H1 e1 Q q => by
  obtain ⟨dx, u, D, ha, kvs, hD, k1, k2⟩ := x.mono e1
  refine ⟨_, h2, a, dx, _, rfl, ha, a, dx, D, u, kvs, rfl, ha, hD, fun p H2 np e2 hp => ⟨p, kvs, rfl, .inl hp, fun r nr => q r _ _ (fresh_back e2 nr) (e2.trans (Ex.new nr)) upd_same ?_⟩⟩
  have e2 : (kvs.map fun kv => kV kv.1) = (qs.map (·.1)).map V.int := by
    have z := congrArg (List.map kV) k1
    rw [List.map_map, List.map_map] at z
    rw [List.map_map]
    exact z
  rw [e2]
  exact TDs.ints _
theorem shp_ints (ns : List Int) : SeqAt.shaped (.list (ns.map PyData.int)) = true := shp_list fun d hd => by
  obtain ⟨i, _, rfl⟩ := List.mem_map.mp hd
  exact ⟨rfl, by show 0 ≤ 60; decide⟩
theorem et_neI {ns : List Int} (h1 : EvLd ta σ H (ns.map PyData.int)) (h2 : EvLd tb σ H (ns.map PyData.int)) : EvT (tTest (tOp (rNeD K) ta tb)) σ H false := et_is (et_test (ev_neLd h1 h2 (shp_ints _) (shp_ints _))) (by
  rw [SeqAt.eqv_refl _ (SeqAt.canLay_of_shaped (shp_ints ns))]
  rfl)
/-- len(found) != len(known) -/
theorem et_lens {qs : List (Int × Bx)} (h1 : σ[1]? = some (some (.ref Kd))) (h2 : σ[2]? = some (some (.ref a))) (hk : DicB H Kd es) (x : TrB C H a qs) (hl : qs.length = es.length) (hs : es.length ≤ 1000) : EvT (tTest (tOp rNe (tCB (rLenOwn C (spLenT C)) (tCons (tVar 2) tNil)) (tCB (fun xs H Q => ∃ a kvs, xs = [V.ref a] ∧ Rd H a (.dK kvs) ∧ Q (.int kvs.length) H) (tCons (tVar 1) tNil)))) σ H false := by
  have z : Ev (tCB (rLenOwn C (spLenT C)) (tCons (tVar 2) tNil)) σ H (.int (es.length : Int)) := fun H1 e1 Q q => by
    obtain ⟨dx, u, D, ha, kvs, hD, k1, k2⟩ := x.mono e1
    have kl := DicB.len k1
    have e : kvs.length = es.length := by omega
    exact ⟨_, h2, a, rfl, ⟨dx, _, ha⟩, a, dx, D, u, kvs, rfl, ha, .inl hD, fun H2 e2 => ⟨kvs.length, rfl, by omega, by rw [e]; exact q H2 e2⟩⟩
  obtain ⟨kvs, hK, l1, _⟩ := id hk
  have kl := DicB.len l1
  refine et_is (et_test (ev_op z (ev_lenDR (ev_var h1) hK) (rv_ne rfl))) ?_
  rw [kl, decide_eq_true rfl]
  rfl
/-- found.box != the joint box of those known -/
theorem et_boxes2 {qs : List (Int × Bx)} (h1 : σ[1]? = some (some (.ref Kd))) (h2 : σ[2]? = some (some (.ref a))) (hk : DicB H Kd es) (x : TrB C H a qs) (hp : qs.Perm es) (hs : es.length ≤ 1000) :
    EvT (tTest (tOp (rNeD K) (tProp C (spBoxP C) [] E0 (tVar 2)) (tIf (tTest (tOp (rNeDD K) (tVar 1) tDNewK)) (tCall spJointG [] E0 (tCons (tListVals (tVar 1)) tNil)) (tC .non)))) σ H false := by
  have z1 : EvD (tProp C (spBoxP C) [] E0 (tVar 2)) σ H (jbD (es.map (·.2))) := fun H1 e1 Q q => by
    obtain ⟨dx, u, D, ha, _⟩ := id (x.mono e1)
    refine ⟨_, h2, a, dx, _, rfl, ha, a, qs, rfl, x.mono e1, by rw [hp.length_eq]; exact hs, fun v H2 e2 t => q v H2 e2 ?_⟩
    rw [← jbD_perm (hp.map (·.2))]
    exact t
  have z2 : EvD (tIf (tTest (tOp (rNeDD K) (tVar 1) tDNewK)) (tCall spJointG [] E0 (tCons (tListVals (tVar 1)) tNil)) (tC .non)) σ H (jbD (es.map (·.2))) := fun H1 e1 Q q => by
    obtain ⟨kvs, hK, l1, l2⟩ := hk.mono e1
    have kl := DicB.len l1
    refine ⟨_, h1, fun p np => ⟨Kd, p, kvs, [], rfl, rfl, Ex.new np _ _ hK, upd_same, ?_⟩⟩
    have eN := Ex.new (o := .dK []) np
    cases es with
    | nil =>
      have : kvs = [] := List.map_eq_nil_iff.mp l1
      subst this
      refine .inr ⟨rfl, (fun p hp => absurd hp List.not_mem_nil), false, rfl, ?_⟩
      show (if false = true then _ else _)
      rw [if_neg (by decide)]
      exact q .non _ eN (.non .nil)
    | cons e es =>
      refine .inl ⟨by rw [kl]; simp, true, rfl, ?_⟩
      show (if true = true then _ else _)
      rw [if_pos rfl]
      refine ⟨_, h1, Kd, kvs, rfl, eN _ _ hK, fun r nr => ⟨r, _, (e :: es).map (·.2), rfl, upd_same, ?_, by rw [List.length_map]; omega, fun v H2 e2 t => q v H2 ((eN.trans (Ex.new nr)).trans e2) t⟩⟩
      rw [List.map_map]
      exact (l2.mono eN).mono (Ex.new nr)
  have sh : SeqAt.shaped (jbD (es.map (·.2))) = true := by
    unfold jbD
    cases es.map (·.2) with
    | nil => rfl
    | cons b r =>
      rw [if_neg (by simp)]
      exact shaped_box _
  refine et_is (et_test (ev_neD z1 z2 sh sh)) ?_
  rw [SeqAt.eqv_refl _ (SeqAt.canLay_of_shaped sh)]
  rfl
def rngL : List Int := (List.range 52).map fun (i : Nat) => -12 + (i : Int)
theorem ei_rng2 : EvI (iRng2 (tCons (tUn (rU fun i => .int (-i)) (tC (.int 12))) (tCons (tC (.int 40)) tNil))) σ H (rngL.map PyData.int) := fun H1 e1 R q => by
  refine ⟨12, rfl, -12, 40, rfl, by decide, ?_⟩
  refine q _ H1 (Ex.refl _) ⟨fun _ => True, YFn fun i => .int (-12 + (i : Int)), ?_, fun _ _ => trivial, fun i x H2 H3 hi e y => ?_⟩
  · have l : (rngL.map PyData.int).length = 52 := rfl
    rw [l]
    exact walk_range (lo := -12) (n := 52)
  · obtain ⟨rfl, rfl⟩ := y
    have hi : i < 52 := hi
    refine ⟨Ex.refl _, .int (-12 + (i : Int)), ?_, TDs.int _ .nil⟩
    unfold rngL
    rw [List.map_map, List.getElem?_map, List.getElem?_range hi]
    rfl
/-- the numbers that the tree and the dict tell apart: none -/
theorem et_alike {qs : List (Int × Bx)} {vs : List Nat} {h1 : σ[1]? = some (some (.ref Kd))} (hs : σ = [σ.getD 0 none, some (.ref Kd), some (.ref a), σ.getD 3 none, σ.getD 4 none, σ.getD 5 none, σ.getD 6 none, none, none]) (hk : DicB H Kd es) (x : TrB C H a qs) (hp : qs.Perm es) : EvT (tTest (tOp (rNeD K) (tLc (iRng2 (tCons (tUn (rU fun i => .int (-i)) (tC (.int 12))) (tCons (tC (.int 40)) tNil))) (gName 5) (tTest (tOp rNe (tOp (rInOwn C (spCont C) false) (tVar 5) (tVar 2)) (tDIn (tVar 5) (tVar 1)))) (tVar 5) [5]) (tLst tNil))) σ H false := by
  rw [hs]
  have z := eds_it (te := tVar 5) (g := gName 5) (tt := tTest (tOp rNe (tOp (rInOwn C (spCont C) false) (tVar 5) (tVar 2)) (tDIn (tVar 5) (tVar 1)))) (vs := [5]) (wi := iRng2 (tCons (tUn (rU fun i => .int (-i)) (tC (.int 12))) (tCons (tC (.int 40)) tNil))) (σ := [σ.getD 0 none, some (.ref Kd), some (.ref a), σ.getD 3 none, σ.getD 4 none, σ.getD 5 none, σ.getD 6 none, none, none]) (H := H) (es := rngL) (enc := PyData.int) (fun _ => false) PyData.int ei_rng2 (by decide) (fun i hi => turn_nm (fun _ => rfl) (fun v H1 e1 t => by
    cases t.int
    intro H2 e2 Q q
    obtain ⟨dx, u, D, ha, hD⟩ := id (x.mono (e1.trans e2))
    refine ⟨_, rfl, _, rfl, a, rfl, ⟨dx, _, ha⟩, a, i, qs, rfl, x.mono (e1.trans e2), fun H3 e3 => ⟨_, rfl, ?_⟩⟩
    obtain ⟨kvs, hK, l1, l2⟩ := hk.mono ((e1.trans e2).trans e3)
    refine ⟨_, rfl, _, rfl, Kd, valV kvs (.inl i), rfl, .inl ⟨kvs, .inl i, .inl hK, rfl, rfl⟩, rfl, false, ?_, q H3 e3⟩
    rw [mem_keys l1]
    have e : decide (i ∈ qs.map (·.1)) = decide (i ∈ es.map (·.1)) := decide_eq_decide.mpr (hp.map (·.1)).mem_iff
    rw [e]
    show V.bl (!decide (V.bl (decide (i ∈ es.map (·.1))) = V.bl (decide (i ∈ es.map (·.1))))) = V.bl false
    rw [decide_eq_true rfl]
    rfl) fun v H1 e1 t h => nomatch h)
  have e0 : (rngL.filter fun _ => false).map PyData.int = [] := by
    rw [List.filter_eq_nil_iff.mpr fun _ _ => by decide]
    rfl
  rw [e0] at z
  exact et_test (ev_neLd (ld_new z) (ld_new (eds_lst da_nil (by decide))) rfl rfl)
end
end Q
set_option Elab.async false
set_option linter.all false
set_option maxRecDepth 100000
set_option maxHeartbeats 4000000
/-! draws beside what is known -/
namespace Q
open PySem L2 PySem.Spec PyProof.Rows PySem.Calls
open Evl PB
section
variable {K : PySem.W.Frag} {C a Kd p : Addr} {σ : L2.St} {H : Hp} {te ta tb : TE} {es : List (Int × Bx)} {N : Nat}
theorem t_kd (h0 : σ[0]? = some (some (.ref p))) (h1 : σ[1]? = some (some (.ref Kd))) (hb : BagIn p H) (hk : DicB H Kd es) (hN : 0 < N) (hN2 : N ≤ 1000) {Q : Bool → Hp → Prop} (q : ∀ b H', Bgd p H H' → (b = true → es ≠ []) → Q b H') :
    tAnd (tTest (tOp (rNeDD K) (tVar 1) tDNewK)) (tTest (tOp rEq (tCall spDraw [] E0 (tCons (tVar 0) (tCons (tC (.int (N : Int))) tNil))) (tC (.int 0)))) σ H Q := by
  obtain ⟨kvs, hK, l1, l2⟩ := id hk
  have kl := DicB.len l1
  refine ⟨_, h1, fun r nr => ⟨Kd, r, kvs, [], rfl, rfl, Ex.new nr _ _ hK, upd_same, ?_⟩⟩
  have eN := Ex.new (o := .dK []) nr
  have g1 := bag_ex eN hb
  cases es with
  | nil =>
    have : kvs = [] := List.map_eq_nil_iff.mp l1
    subst this
    exact .inr ⟨rfl, (fun p hp => absurd hp List.not_mem_nil), false, rfl, q false _ g1 fun z => nomatch z⟩
  | cons e es =>
    refine .inl ⟨by rw [kl]; simp, true, rfl, ?_⟩
    show tTest (tOp rEq (tCall spDraw [] E0 (tCons (tVar 0) (tCons (tC (.int (N : Int))) tNil))) (tC (.int 0))) σ _ Q
    exact go_drawN h0 g1.bag ev_c hN hN2 fun r H2 _ g2 => ⟨rfl, _, rfl, q _ H2 (g1.trans g2) fun _ => by simp⟩
theorem go_one {qs : List (Int × Bx)} (h0 : σ[0]? = some (some (.ref p))) (h1 : σ[1]? = some (some (.ref Kd))) (hb : BagIn p H) (hk : DicB H Kd es) (hq : ByNum es qs) (hl : es.length ≤ 60) (hn : es ≠ []) {Q : VK} (q : ∀ (i : Int) H', i ∈ es.map (·.1) → Bgd p H H' → Q (.int i) H') :
    tCall spOne [] E0 (tCons (tVar 0) (tCons (tCB (fun xs H Q => ∃ (a : Addr) (kvs : List (Key × V)) (ks : List Int), xs = [.ref a] ∧ Rd H a (.dK kvs) ∧ kvs.map (·.1) = ks.map Sum.inl ∧ ks.length < 64 ∧ ∀ (ys : List Int) (p : Addr), ys.Perm ks → ys.Pairwise (· ≤ ·) → H p = none → Q (.ref p) (upd H p (.lst (ys.map V.int)))) (tCons (tVar 1) tNil)) tNil)) σ H Q :=
  ⟨_, h0, eds_sortK h1 hk hq hl H (Ex.refl _) _ fun l xs H1 nl e1 hx t => by
    have g1 := bag_ex e1 hb
    obtain ⟨x, y, z, hp⟩ := g1.bag
    have tl := t.len
    rw [List.length_map, List.length_map, hq.1.length_eq] at tl
    have l0 : 0 < es.length := List.length_pos_iff.mpr hn
    refine ⟨p, l, x, y, z, xs, rfl, hp, ne_bag hb nl, hx, by omega, by omega, fun i v H2 hv g2 => ?_⟩
    obtain ⟨d, hd, td⟩ := t.to hv
    rw [List.getElem?_map] at hd
    obtain ⟨n, hn1, rfl⟩ := Option.map_eq_some_iff.mp hd
    cases td.int
    exact q n H2 ((hq.1.map (·.1)).mem_iff.mp (List.mem_of_getElem? hn1)) (g1.trans g2)⟩
end
/-- a dict changed beside the bag -/
theorem DicB.bgd {p Kd : Addr} {H H' : Hp} {es : List (Int × Bx)} (g : Bgd p H H') (hb : BagIn p H) (h : DicB H Kd es) : DicB H' Kd es := by
  obtain ⟨kvs, h1, h2, h3⟩ := h
  obtain ⟨x, y, z, hp⟩ := id hb
  exact ⟨kvs, g.keep _ _ (fun e => by rw [e, hp] at h1; cases h1) h1, h2, h3.by (g.tk hb)⟩
theorem Bgd.kp {p : Addr} {S : List Addr} {H H' : Hp} (g : Bgd p H H') (h : p ∈ S) : Kp S H H' := fun l o n e => g.keep l o (fun z => n (by rw [z]; exact h)) e
theorem Kp.trans {S : List Addr} {H H1 H2 : Hp} (a : Kp S H H1) (b : Kp S H1 H2) : Kp S H H2 := fun l o n h => b l o n (a l o n h)
theorem q_for4D {g : TG} {tb tz : TS} {D : Ends} {σ : L2.St} {H : Hp} {ta : TA} (R : Hp → Prop) (Pv : Nat → Nat → L2.St → Hp → Prop) (hd : ∀ Q : VK, (∀ (r : Nat) H1, r < 11 → R H1 → Q (.int (r : Int)) H1) → tCall spDraw [] E0 ta σ H Q)
    (h0 : ∀ r H1, r < 11 → R H1 → Pv (4 + r) 0 σ H1) (hs : ∀ n i σ' H', i < n → Pv n i σ' H' → g (.int (0 + (i : Int))) σ' H' fun σ2 H2 => tb { D with nx := Pv n (i + 1), ct := Pv n (i + 1), bk := tz D } σ2 H2) (hz : ∀ n σ' H', Pv n n σ' H' → tz D σ' H') :
    tSeq (tFor (iRng1 (tCons (tOp (rI0 fun i j => .int (i + j)) (tC (.int 4)) (tCall spDraw [] E0 ta)) tNil)) g tb) tz D σ H := hd _ fun r H1 hr hR => by
  refine ⟨4, (r : Int), rfl, rfl, 4 + (r : Int), rfl, by omega, by omega, ?_⟩
  have e : (4 + (r : Int)).toNat = 4 + r := by omega
  rw [e]
  exact for_range (D := { D with nx := tz D }) (Pv (4 + r)) (h0 r H1 hr hR) (fun i σ' H' hi h => hs (4 + r) i σ' H' hi h) fun σ' H' h => hz (4 + r) σ' H' h
theorem q_loc {t tz : TS} {D : Ends} {σ : L2.St} {H : Hp} (h : t { D with nx := tz D } σ H) : tSeq t tz D σ H := h
theorem s_ifG {t : TT} {tu tw : TS} {D : Ends} {σ : L2.St} {H : Hp} (h : t σ H fun b H1 => if b = true then tu D σ H1 else tw D σ H1) : tIfS t tu tw D σ H := h
theorem s_asgQ {te : TE} {i : Nat} {D : Ends} {σ : L2.St} {H : Hp} (h : te σ H fun v H1 => D.nx (σ.set i (some v)) H1) : tAsg te (gName i) D σ H := h
theorem q_dropQ {te : TE} {tz : TS} {D : Ends} {σ : L2.St} {H : Hp} (h : te σ H fun _ H1 => tz D σ H1) : tSeq (tDrop te) tz D σ H := h
theorem q_parG2 {ta tb : TE} {i j : Nat} {tz : TS} {D : Ends} {σ : L2.St} {H : Hp} (h : ta σ H fun x H1 => tb σ H1 fun y H2 => ∃ v w, [x, y] = [v, w] ∧ tz D ((σ.set i (some v)).set j (some w)) H2) : tSeq (tPar i j (tCons ta (tCons tb tNil))) tz D σ H := h
theorem q_dput {te tv : TE} {F : Addr} {kvs : List (Key × V)} {k : Key} {u : V} {i : Nat} {tz : TS} {D : Ends} {σ : L2.St} {H : Hp} (hF : H F = some (.dK kvs)) (hi : σ[i]? = some (some (.ref F))) (hl : kvs.length < 90000) (hk : Ev te σ H (kV k)) (hv : Ev tv σ H u) (q : ∀ H1, Ex H H1 → tz D σ (upd H1 F (.dK (putK kvs k u)))) : tSeq (sDPut (tVar i) te tv) tz D σ H :=
  hv H (Ex.refl _) _ fun H1 e1 => ⟨_, hi, hk H1 e1 _ fun H2 e2 => ⟨F, _, rfl, .inl ⟨kvs, k, (e1.trans e2) _ _ hF, rfl, sz_lt (by omega), rfl⟩, q H2 (e1.trans e2)⟩⟩
end Q
set_option Elab.async false
set_option linter.all false
set_option maxRecDepth 100000
set_option maxHeartbeats 4000000
/-! the turn's things together -/
namespace Q
open PySem L2 PySem.Spec PyProof.Rows PySem.Calls
open Evl PB
structure Bn (C p Kd El : Addr) (H0 H : Hp) (a : Addr) (ek et : List (Int × Bx)) (xs : List V) : Prop where
  pk : p ≠ Kd
  pe : p ≠ El
  ke : Kd ≠ El
  bg : BagIn p H
  kp : Kp [p, Kd, El] H0 H
  dk : DicB H Kd ek
  tr : TrS C [p, Kd, El] H a et
  el : H El = some (.lst xs)
  eld : ∀ x ∈ xs, EldO C H x
section
variable {C p Kd El : Addr} {H0 H H' : Hp} {a : Addr} {ek et es : List (Int × Bx)} {xs : List V}
theorem Bn.soft (b : Bn C p Kd El H0 H a ek et xs) : ∀ s ∈ [p, Kd, El], Soft H s := fun s hs => by
  rcases List.mem_cons.mp hs with rfl | hs
  · obtain ⟨a, b, c, h⟩ := b.bg
    exact .inl ⟨_, h⟩
  rcases List.mem_cons.mp hs with rfl | hs
  · obtain ⟨kvs, h, _⟩ := b.dk
    exact .inr ⟨_, h⟩
  · rw [List.mem_singleton.mp hs]
    exact .inl ⟨_, b.el⟩
theorem Bn.bgd (b : Bn C p Kd El H0 H a ek et xs) (g : Bgd p H H') : Bn C p Kd El H0 H' a ek et xs :=
  ⟨b.pk, b.pe, b.ke, g.bag, b.kp.trans (g.kp (by simp)), b.dk.bgd g b.bg, b.tr.kp (g.kp (by simp)) b.soft, g.keep _ _ b.pe.symm b.el, fun x hx => (b.eld x hx).kp (g.kp (by simp)) b.soft⟩
theorem Bn.ex (b : Bn C p Kd El H0 H a ek et xs) (e : Ex H H') : Bn C p Kd El H0 H' a ek et xs := b.bgd (bag_ex e b.bg)
theorem Bn.put (b : Bn C p Kd El H0 H a ek et xs) {kvs : List (Key × V)} (h1 : kvs.map (·.1) = (es.map fun e => Sum.inl e.1)) (h2 : TDs H (kvs.map (·.2)) (es.map fun e => boxD e.2)) : Bn C p Kd El H0 (upd H Kd (.dK kvs)) a es et xs := by
  have k : Kp [p, Kd, El] H (upd H Kd (.dK kvs)) := (Kp.refl _ _).upd (by simp)
  obtain ⟨kv0, hK, _⟩ := b.dk
  obtain ⟨x, y, z, hp⟩ := b.bg
  exact ⟨b.pk, b.pe, b.ke, ⟨x, y, z, by rw [upd_ne b.pk]; exact hp⟩, b.kp.upd (by simp), ⟨kvs, upd_same, h1, h2.by (upd_tupD hK)⟩, b.tr.kp k b.soft, by rw [upd_ne b.ke.symm]; exact b.el, fun x hx => (b.eld x hx).kp k b.soft⟩
theorem Bn.tree (b : Bn C p Kd El H0 H a ek et xs) (e : Ex H H') {c : Addr} (t : TrE C H' c es) (d : TrD C H H' c) : Bn C p Kd El H0 H' c ek es xs := by
  have z := b.ex e
  refine ⟨z.pk, z.pe, z.ke, z.bg, z.kp, z.dk, TrS.of t d fun s hs w => ?_, z.el, z.eld⟩
  rcases b.soft s hs with ⟨ys, h⟩ | ⟨ys, h⟩
  · rw [h] at w
    cases w
  · rw [h] at w
    cases w
theorem Bn.perm (b : Bn C p Kd El H0 H a ek et xs) (q : et.Perm es) : Bn C p Kd El H0 H a ek es xs := ⟨b.pk, b.pe, b.ke, b.bg, b.kp, b.dk, b.tr.perm q, b.el, b.eld⟩
theorem Bn.app (b : Bn C p Kd El H0 H a ek et xs) {v : V} (h : EldO C H v) : Bn C p Kd El H0 (upd H El (.lst (xs ++ [v]))) a ek et (xs ++ [v]) := by
  have k : Kp [p, Kd, El] H (upd H El (.lst (xs ++ [v]))) := (Kp.refl _ _).upd (by simp)
  obtain ⟨kv0, hK, k1, k2⟩ := b.dk
  obtain ⟨x, y, z, hp⟩ := b.bg
  refine ⟨b.pk, b.pe, b.ke, ⟨x, y, z, by rw [upd_ne b.pe]; exact hp⟩, b.kp.upd (by simp), ⟨kv0, by rw [upd_ne b.ke]; exact hK, k1, k2.by (upd_tup b.el)⟩, b.tr.kp k b.soft, upd_same, fun x hx => ?_⟩
  rcases List.mem_append.mp hx with hx | hx
  · exact (b.eld x hx).kp k b.soft
  · rw [List.mem_singleton.mp hx]
    exact h.kp k b.soft
end
theorem valK_in {kvs : List (Key × V)} {es : List (Int × Bx)} {i : Int} (h1 : kvs.map (·.1) = (es.map fun e => Sum.inl e.1)) (hi : i ∈ es.map (·.1)) : ∃ v, valV kvs (.inl i) = some v := by
  have z := mem_keys h1 i
  rw [decide_eq_true hi] at z
  exact Option.isSome_iff_exists.mp z
end Q
set_option Elab.async false
set_option linter.all false
set_option maxRecDepth 100000
set_option maxHeartbeats 4000000
/-! the elders; the turn's last row -/
namespace Q
open PySem L2 PySem.Spec PyProof.Rows PySem.Calls
open Evl PB
section
variable {K : PySem.W.Frag} {C El Kd a : Addr} {H : Hp} {xs : List V} {s0 s1 s2 s4 s5 s6 : Option V} {es : List (Int × Bx)}
theorem eds_elders (hE : H El = some (.lst xs)) (he : ∀ x ∈ xs, EldO C H x) (hz : xs.length ≤ 40000) : EvDs (tLc (iList K (tVar 3)) (gTup K 2 (gCons (gName 7) (gCons (gName 8) gNil))) (tTest (tOp (rNeD K) (tProp C (spFormP C) [] E0 (tVar 7)) (tVar 8))) (tVar 7) [7, 8]) [s0, s1, s2, some (.ref El), s4, s5, s6, none, none] H [] := fun H0 e0 Q q =>
  ⟨_, rfl, El, rfl, ⟨xs, sq_of (e0 _ _ hE)⟩, fun Dl hD => lc_list (xs := xs) (fun i H' => H0 Dl = none ∧ Ex H0 H' ∧ H' Dl = some (.lst [])) ⟨hD, Ex.new hD, upd_same⟩ (fun i H' _ p => sq_of (p.2.1 _ _ (e0 _ _ hE))) (fun i x H' hi p => by
    obtain ⟨p1, p2, p3⟩ := p
    obtain ⟨tp, b, dx, u1, d1, u2, n, f, rfl, h2, h3, h4, h5, h6⟩ := he x (List.mem_of_getElem? hi)
    have e := e0.trans p2
    refine ⟨tp, _, rfl, SqT.of (e _ _ h2), rfl, _, _, rfl, _, _, rfl, rfl, ?_⟩
    refine ⟨rfl, ?_⟩
    have z : EvT (tTest (tOp (rNeD K) (tProp C (spFormP C) [] E0 (tVar 7)) (tVar 8))) [s0, s1, s2, some (.ref El), s4, s5, s6, some (.ref b), some u2] H' false := et_is (et_test (ev_neD (d1 := formD n f) (d2 := formD n f) (fun H1 e1 Q q => ⟨_, rfl, b, dx, _, rfl, e1 _ _ (e _ _ h3), b, dx, u1, d1, rfl, e1 _ _ (e _ _ h3), q u1 H1 (Ex.refl _) (h4.mono (e.trans e1))⟩) (ed_var rfl (h5.mono e)) (shp_form f h6) (shp_form f h6))) (by
      rw [SeqAt.eqv_refl _ (SeqAt.canLay_of_shaped (shp_form f h6))]
      rfl)
    refine z H' (Ex.refl _) _ fun H3 e3 => ?_
    show H0 Dl = none ∧ Ex H0 H3 ∧ H3 Dl = some (.lst [])
    exact ⟨p1, p2.trans e3, e3 _ _ p3⟩) (fun H' p => q Dl [] H' p.1 p.2.1 p.2.2 .nil)⟩
theorem ev_elders (hE : H El = some (.lst xs)) (he : ∀ x ∈ xs, EldO C H x) (hz : xs.length ≤ 40000) : Ev (tOp (rEqD K) (tLc (iList K (tVar 3)) (gTup K 2 (gCons (gName 7) (gCons (gName 8) gNil))) (tTest (tOp (rNeD K) (tProp C (spFormP C) [] E0 (tVar 7)) (tVar 8))) (tVar 7) [7, 8]) (tLst tNil)) [s0, s1, s2, some (.ref El), s4, s5, s6, none, none] H (.bl true) := fun H1 e Q q =>
  eds_elders hE he hz H1 e _ fun l ys H2 n2 e2 hl x => eds_lst (ds := []) da_nil (by decide) H2 (e.trans e2) _ fun k zs H3 n3 e3 hk y => ⟨.list [], .list [], .lst (SqL.of (e3 _ _ hl)) (x.mono e3).dp, .lst (SqL.of hk) y.dp, rfl, rfl, q H3 (e2.trans e3)⟩
theorem ev_last (hk : DicB H Kd es) (x : TrE C H a es) (hs : es.length ≤ 1000) : Ev (tOp rEq (tCB (rStrOwn C (spStrT C)) (tCons (tVar 2) tNil))
        (tOp (fun x y H Q => ∃ i j, x = V.str i ∧ y = V.str j ∧ i.length + j.length ≤ sizeLine ∧ Q (V.str (i ++ j)) H)
          (tOp (fun x y H Q => ∃ i j, x = V.str i ∧ y = V.str j ∧ i.length + j.length ≤ sizeLine ∧ Q (V.str (i ++ j)) H)
            (tOp (fun x y H Q => ∃ i j, x = V.str i ∧ y = V.str j ∧ i.length + j.length ≤ sizeLine ∧ Q (V.str (i ++ j)) H)
              (tOp (fun x y H Q => ∃ i j, x = V.str i ∧ y = V.str j ∧ i.length + j.length ≤ sizeLine ∧ Q (V.str (i ++ j)) H)
                (tC (V.str (Str.ofString "tree of ")))
                (tCB (fun xs H Q => ∃ i, xs = [V.int i] ∧ i.natAbs.log2 < 1920 ∧ Q (V.str (Str.ofString (toString i))) H)
                  (tCons (tCB (fun xs H Q => ∃ a kvs, xs = [V.ref a] ∧ Rd H a (HO.dK kvs) ∧ Q (V.int ↑kvs.length) H) (tCons (tVar 1) tNil)) tNil)))
              (tC (V.str (Str.ofString " boxes, "))))
            (tCB (fun xs H Q => ∃ i, xs = [V.int i] ∧ i.natAbs.log2 < 1920 ∧ Q (V.str (Str.ofString (toString i))) H)
              (tCons (tProp C (spHeight C) [] E0 (tVar 2)) tNil)))
          (tC (V.str (Str.ofString " high"))))) [s0, some (.ref Kd), some (.ref a), some (.ref El), s4, s5, s6, none, none] H (.bl true) := fun H1 e1 Q q => by
  obtain ⟨n, f, t, pm, sz, le, n1⟩ := x.mono e1
  obtain ⟨kvs, hK, l1, _⟩ := hk.mono e1
  have kl := DicB.len l1
  have pl := pm.length_eq
  obtain ⟨dx, u, D, qs, ha, t2⟩ := id t
  refine ⟨_, rfl, a, rfl, ⟨dx, _, ha⟩, a, n, f, rfl, t, sz, by omega, fun H2 e2 => ⟨_, rfl, ?_⟩⟩
  obtain ⟨s1, s2⟩ := small_num (n := kvs.length) (by omega)
  obtain ⟨s3, s4⟩ := small_num (n := n + 1) (by omega)
  have big : 1000 ≤ sizeLine := by rw [sizeLine_eq]; decide
  have l1 : ("tree of " : Str).length = 8 := by decide +kernel
  have l2 : (" boxes, " : Str).length = 8 := by decide +kernel
  have l3 : (" high" : Str).length = 5 := by decide +kernel
  refine ⟨_, rfl, Kd, kvs, rfl, .inl (e2 _ _ hK), (kvs.length : Int), rfl, s1, _, _, rfl, rfl, by omega, _, _, rfl, rfl, by rw [slen]; omega, ?_⟩
  refine ⟨_, rfl, a, dx, _, rfl, e2 _ _ ha, a, n, f, rfl, t.mono e2, sz, by omega, fun H3 e3 => ⟨((n + 1 : Nat) : Int), rfl, s3, _, _, rfl, rfl, by rw [slen, slen]; omega, _, _, rfl, rfl, by rw [slen, slen, slen]; omega, rfl, ?_⟩⟩
  have ee : V.str (treeStr (ents n f).length (n + 1)) = V.str (((("tree of " ++ (toString (kvs.length : Int) : Str)) ++ " boxes, ") ++ (toString ((n + 1 : Nat) : Int) : Str)) ++ " high") := by
    rw [kl, ← pl]
    rfl
  have z := q H3 (e2.trans e3)
  rw [ee, decide_eq_true rfl]
  exact z
end
end Q
set_option Elab.async false
set_option linter.all false
set_option maxRecDepth 100000
set_option maxHeartbeats 8000000
/-! the law's one turn -/
namespace Q
open PySem L2 PySem.Spec PyProof.Rows PySem.Calls
open Evl PB
abbrev sRight : Stmt := top 56
def spRight : Sp := fun vs H Q _ => ∃ p : Addr, vs = [.ref p] ∧ BagIn p H ∧ ∀ H', Bgd p H H' → Q (.bl true) H'
section
variable {P : Program} {w : World} {K : PySem.W.Frag} {mg : Str → Option Value} {base : Heap}
abbrev nmRight : List Str := ["bag", "known", "found", "elder", "turn", "number", "box", "one", "form"]
theorem scRight : FnScope nmRight ["bag"] (defScope sRight) := ⟨rfl, rfl, rfl, by decide +kernel, rfl, by decide +kernel, by decide +kernel⟩
theorem ok_right {C dE f : Addr} {fd : FuncData} (F : Fun K "_law_right" "_law_right" sRight f fd) (T : TB mg) (So : TSo mg) (TX : TXt mg) (TC : TrC K mg C) (em : EmE K dE) (CD : Cl P w K mg base 1 "_law_draw" spDraw) (CO : Cl P w K mg base 2 "_law_one_of" spOne) (CS : Cl P w K mg base 3 "_law_small_box" spSmall) (CF : Cl P w K mg base 3 "_law_flaws" spLFl) (CJ : Cl P w K mg base 1 "_law_joint_box" spJointG)
    (M0 : Mq P w K mg base 6 C (spInit K C) [.ref dE]) (MW : Mt P w K mg base 8 C "without" (spWout C)) (MP : Mt P w K mg base 8 C "put" (spPut C)) (MM : Mt P w K mg base 9 C "moved" (spMoved C)) (MI : Mt P w K mg base 1 C "__iter__" (spIterT C)) (ML : Mt P w K mg base 1 C "__len__" (spLenT C)) (MC : Mt P w K mg base 2 C "__contains__" (spCont C)) (MS : Mt P w K mg base 7 C "__str__" (spStrT C))
    (PF : Pq P w K mg base 1 C "form" (spFormP C)) (PX : Pq P w K mg base 1 C "boxes" (spBoxesP C)) (PBx : Pq P w K mg base 2 C "box" (spBoxP C)) (PH : Pq P w K mg base 5 C "height" (spHeight C)) : FnOk P w K mg base CX0 11 f fd ["bag"] spRight := by
  refine F.ok scRight (fun vs H Q E h => ?_) (fun cdv A' outer s H vs Q E hr h => ?_)
  · obtain ⟨p, rfl, _⟩ := h
    rfl
  · obtain ⟨p, rfl, hb, k⟩ := h
    have hu4 := hr.units
    have hun : (A'.deeper (envOfC (Str.ofString "_law_right") (defScope sRight) s.heap.objs.size f cdv)).units + 65 < cLine := by
      have := hr.un
      omega
    have hu2 : (A'.deeper (envOfC (Str.ofString "_law_right") (defScope sRight) s.heap.objs.size f cdv)).in1.in1.units < cLine := by
      show (A'.deeper (envOfC (Str.ofString "_law_right") (defScope sRight) s.heap.objs.size f cdv)).units + 1 + 1 < cLine
      omega
    refine ⟨_, (pss_cons (ps_asg (pe_tup (pa_cons (pe_dnewK) (pa_cons (pe_mq0 M0 hr (by decide) (by rfl) TC.mgT) (pa_cons (pe_lst pa_nil) pa_nil)))) (pg_tup (by rfl) (pgs_cons (pg_name (i := 1) scRight.nd rfl (.inr rfl)) (pgs_cons (pg_name (i := 2) scRight.nd rfl (.inr rfl)) (pgs_cons (pg_name (i := 3) scRight.nd rfl (Or.inl rfl)) pgs_nil)))))
      (pss_cons (ps_for PassesOwn.never rfl (pi_range1 (by rfl) T.range (pa_cons (pe_op op_add pe_int (pe_cl CD hr (by decide) (by rfl) (pa_cons (pv 0) (pa_cons (pe_int) pa_nil)))) pa_nil)) (pg_name (i := 4) scRight.nd rfl (Or.inl rfl))
        (pss_cons (ps_if (pw_and (pt_cmpR (op_ne_dictDD hun) (pv 1) pe_dnewK (nomark _)) (pw_and1 (pt_cmpR op_eq (pe_cl CD hr (by decide) (by rfl) (pa_cons (pv 0) (pa_cons (pe_int) pa_nil))) pe_int (nomark _)))).pt (pss_cons (ps_set (i := 5) scRight.nd rfl (Or.inl rfl) (pe_cl CO hr (by decide) (by rfl) (pa_cons (pv 0) (pa_cons (pe_callB (call_sortedDI rfl) (by rfl) So.sorted (by decide +kernel) (pa_cons (pv 1) pa_nil)) pa_nil))))
          (pss_cons (ps_expr (pe_dpop1 (pv 1) (pv 5) ⟨by rfl, by rfl, by rfl, by rfl⟩))
          (pss_one (ps_set (i := 2) scRight.nd rfl (Or.inr rfl) (pe_mtQ MW hr (by decide) (pv 2) (pa_cons (pv 5) pa_nil)))))) (pss_one (ps_if (pw_and (pt_cmpR (op_ne_dictDD hun) (pv 1) pe_dnewK (nomark _)) (pw_and1 (pt_cmpR op_eq (pe_cl CD hr (by decide) (by rfl) (pa_cons (pv 0) (pa_cons (pe_int) pa_nil))) pe_int (nomark _)))).pt (pss_cons (ps_par (i := 5) (j := 6) (by rfl) scRight.nd rfl rfl (by decide) rfl rfl (pa_cons (pe_cl CO hr (by decide) (by rfl) (pa_cons (pv 0) (pa_cons (pe_callB (call_sortedDI rfl) (by rfl) So.sorted (by decide +kernel) (pa_cons (pv 1) pa_nil)) pa_nil))) (pa_cons (pe_cl CS hr (by decide) (by rfl) (pa_cons (pv 0) pa_nil)) pa_nil)) (by rfl))
            (pss_cons (ps_dput (hu_of hr) (pv 1) (pv 5) (pv 6) (by rfl))
            (pss_one (ps_set (i := 2) scRight.nd rfl (Or.inr rfl) (pe_mtQ MM hr (by decide) (pv 2) (pa_cons (pv 5) (pa_cons (pv 6) pa_nil))))))) (pss_cons (ps_par (i := 5) (j := 6) (by rfl) scRight.nd rfl rfl (by decide) rfl rfl (pa_cons (pe_op op_sub (pe_op op_mul (pv 4) pe_int) pe_int) (pa_cons (pe_cl CS hr (by decide) (by rfl) (pa_cons (pv 0) pa_nil)) pa_nil)) (by rfl))
            (pss_cons (ps_dput (hu_of hr) (pv 1) (pv 5) (pv 6) (by rfl))
            (pss_one (ps_set (i := 2) scRight.nd rfl (Or.inr rfl) (pe_mtQ MP hr (by decide) (pv 2) (pa_cons (pv 5) (pa_cons (pv 6) pa_nil))))))))))
        (pss_cons (ps_expr (pe_bm PySem.F.plainAttrs_list PySem.F.slot_list_append PySem.F.type_list_append mt_append (pv 3) (pa_cons (pe_tup (pa_cons (pv 2) (pa_cons (pe_pq PF hr (by decide) (pv 2)) pa_nil))) pa_nil)))
        (pss_cons (ps_if (pw_or (pt_cmpR (op_neD hu4) (pe_cl CF hr (by decide) (by rfl) (pa_cons (pe_pq PF hr (by decide) (pv 2)) pa_nil)) (pe_lst pa_nil) (nomark _)) (pw_or (pt_cmpR (op_ne_dictDD hun) (pe_pq PX hr (by decide) (pv 2)) (pv 1) (nomark _)) (pw_or (pt_cmpR (op_neD hu4) (pe_callTy (cr_listOwnD MI ML rfl hr (by decide) (by decide)) (by rfl) T.list (by decide +kernel) (pa_cons (pv 2) pa_nil)) (pe_callB (call_sortedDI rfl) (by rfl) So.sorted (by decide +kernel) (pa_cons (pv 1) pa_nil)) (nomark _)) (pw_or1 (pt_cmpR op_ne (pe_callB (cr_lenOwn ML hr (by decide)) (by rfl) T.len PySem.boot_len (pa_cons (pv 2) pa_nil)) (pe_callB d_lenR (by rfl) T.len PySem.boot_len (pa_cons (pv 1) pa_nil)) (nomark _)))))).pt (pss_one (ps_ret pe_bl)) pss_nil)
        (pss_cons (ps_if (pw_or (pt_cmpR (op_neD hu4) (pe_callTy (call_listD rfl) (by rfl) T.list (by decide +kernel) (pa_cons (pe_pq PX hr (by decide) (pv 2)) pa_nil)) (pe_callB (call_sortedDI rfl) (by rfl) So.sorted (by decide +kernel) (pa_cons (pv 1) pa_nil)) (nomark _)) (pw_or1 (pt_cmpR (op_neD hu4) (pe_lc (own := [("number", 5)]) (g := gName 5) (by rfl) scRight.nd (pi_range2 (by rfl) T.range (pa_cons (pe_un un_neg pe_int) (pa_cons (pe_int) pa_nil)))
        (blkOk_by (own := [("number", 5)]) (N := nmRight) (sc := defScope sRight) (by decide +kernel))
        (fun _ _ _ _ _ => by exact (pg_name (i := 5) scRight.nd rfl (Or.inl rfl))) (tt := (tTest (tOp rNe (tOp (rInOwn C (spCont C) false) (tVar 5) (tVar 2)) (tDIn (tVar 5) (tVar 1))))) (fun _ _ _ _ _ => by exact (pts_one (pt_cmpR op_ne (pe_cmpR (op_inOwn MC hr (by decide)) (pv 5) (pv 2) (by rfl)) (pe_cmp (pc_din (hu_of hr) (pv 5) (pv 1))) (nomark _))))
        (te := (tVar 5)) (fun _ _ _ _ _ => by exact (pv 5))) (pe_lst pa_nil) (nomark _)))).pt (pss_one (ps_ret pe_bl)) pss_nil)
        (pss_one (ps_if (pt_cmpR (op_neD hu4) (pe_pq PBx hr (by decide) (pv 2)) (pe_ifExp (pt_cmpR (op_ne_dictDD hun) (pv 1) pe_dnewK (nomark _)) (pe_cl CJ hr (by decide) (by rfl) (pa_cons (pe_listVals rfl (pv 1) (by rfl) T.list (by rfl)) pa_nil)) pe_non) (nomark _)) (pss_one (ps_ret pe_bl)) pss_nil)))))))
      (pss_one (ps_ret (pe_and (pe_cmpR (op_eqD hu4) (pe_lc (own := [("one", 7), ("form", 8)]) (g := gTup K 2 (gCons (gName 7) (gCons (gName 8) gNil))) (by rfl) scRight.nd (pi_list (pv 3))
        (blkOk_by (own := [("one", 7), ("form", 8)]) (N := nmRight) (sc := defScope sRight) (by decide +kernel))
        (fun _ _ _ _ _ => by exact (pg_tup (by rfl) (pgs_cons (pg_name (i := 7) scRight.nd rfl (Or.inl rfl)) (pgs_cons (pg_name (i := 8) scRight.nd rfl (Or.inl rfl)) pgs_nil)))) (tt := (tTest (tOp (rNeD K) (tProp C (spFormP C) [] E0 (tVar 7)) (tVar 8)))) (fun _ _ _ _ _ => by exact (pts_one (pt_cmpR (op_neD hu4) (pe_pq PF hr (by decide) (pv 7)) (pv 8) (nomark _))))
        (te := (tVar 7)) (fun _ _ _ _ _ => by exact (pv 7))) (pe_lst pa_nil) (nomark _)) (pe_one (pe_cmpR op_eq (pe_callTy (cr_strOwn MS hr (by decide) hu2) (by rfl) TX.str (by decide +kernel) (pa_cons (pv 2) pa_nil)) (pe_op op_add_str (pe_op op_add_str (pe_op op_add_str (pe_op op_add_str pe_str (pe_callTy call_str_int (by rfl) TX.str (by decide +kernel) (pa_cons (pe_callB d_lenR (by rfl) T.len PySem.boot_len (pa_cons (pv 1) pa_nil)) pa_nil))) pe_str) (pe_callTy call_str_int (by rfl) TX.str (by decide +kernel) (pa_cons (pe_pq PH hr (by decide) (pv 2)) pa_nil))) pe_str) (nomark _)))))))), ?_⟩
    -- known, found, elder
    refine q_asgG fun Kd nK => ?_
    intro x dx nx ndx nxd
    refine ⟨x, dx, .ref dE, [], rfl, upd_same, em.seq _, by decide, .nil, (fun e he => absurd he List.not_mem_nil), fun n0 f0 u0 D0 qs0 H1 nD0 mx hx1 tu0 hD0 hq0 pm0 th0 le0 n1 => ⟨rfl, ?_⟩⟩
    refine ⟨by decide, fun El nE => ?_⟩
    refine ⟨sz_of (by show 3 ≤ 100000; decide), fun tp nT => ?_⟩
    have eK := Ex.new (o := .dK []) nK
    have eX := mk_ex nx ndx mx
    have hK1 : H1 Kd = some (.dK []) := eX _ _ upd_same
    have qKE : Kd ≠ El := fun z => by rw [← z, hK1] at nE; cases nE
    have nT1 : H1 tp = none := by
      by_cases w : tp = El
      · rw [w, upd_same] at nT
        cases nT
      · rw [upd_ne w] at nT
        exact nT
    have qET : El ≠ tp := fun z => by rw [← z, upd_same] at nT; cases nT
    have eE := Ex.new (o := .lst []) nE
    have eT := Ex.new (o := .tup [.ref Kd, .ref x, .ref El]) nT
    have e03 := ((eK.trans eX).trans eE).trans eT
    refine ⟨tp, _, rfl, SqT.of upd_same, rfl, _, _, rfl, _, _, rfl, _, _, rfl, rfl, ?_⟩
    have hE2 : upd (upd H1 El (.lst [])) tp (.tup [.ref Kd, .ref x, .ref El]) El = some (.lst []) := by rw [upd_ne qET, upd_same]
    have hK2 := eT _ _ (eE _ _ hK1)
    have e13 := eE.trans eT
    have n0K := nK
    have n0E : H El = none := fresh_back (eK.trans eX) nE
    have n0K1 : upd H Kd (.dK []) Kd ≠ none := by rw [upd_same]; exact fun z => by cases z
    have nKx : Kd ≠ x := fun w => by
      rw [← w] at nx
      exact n0K1 nx
    have nKdx : Kd ≠ dx := fun w => by
      rw [← w] at ndx
      exact n0K1 ndx
    have nDK : D0 ≠ Kd := fun z => by
      rw [z, upd_ne nKx, upd_ne nKdx, upd_same] at nD0
      cases nD0
    obtain ⟨ba, bb, bc, hbag⟩ := id hb
    have pK : p ≠ Kd := fun z => by rw [z, nK] at hbag; cases hbag
    have pE : p ≠ El := fun z => by rw [z, n0E] at hbag; cases hbag
    have tr0 : TrS C [p, Kd, El] (upd (upd H1 El (.lst [])) tp (.tup [.ref Kd, .ref x, .ref El])) x [] := by
      refine ⟨n0, f0, dx, u0, D0, qs0, e13 _ _ hx1, tu0.mono e13, hD0.mono e13, hq0, pm0, th0, le0, n1, fun z => ?_⟩
      obtain ⟨kvs, hD, _⟩ := hD0
      rcases List.mem_cons.mp z with z | z
      · rw [z, eX _ _ (eK _ _ hbag)] at hD
        cases hD
      rcases List.mem_cons.mp z with z | z
      · exact nDK z
      · rw [List.mem_singleton.mp z, nE] at hD
        cases hD
    have kp0 : Kp [p, Kd, El] H (upd (upd H1 El (.lst [])) tp (.tup [.ref Kd, .ref x, .ref El])) := fun l o _ h => e03 _ _ h
    have bg0 : BagIn p (upd (upd H1 El (.lst [])) tp (.tup [.ref Kd, .ref x, .ref El])) := ⟨ba, bb, bc, e03 _ _ hbag⟩
    generalize upd (upd H1 El (.lst [])) tp (.tup [.ref Kd, .ref x, .ref El]) = H3 at hE2 hK2 tr0 kp0 bg0 ⊢
    -- the turns
    have bn0 : Bn C p Kd El H H3 x [] [] [] := ⟨pK, pE, qKE, bg0, kp0, ⟨[], hK2, rfl, .nil⟩, tr0, hE2, fun x hx => absurd hx List.not_mem_nil⟩
    refine q_for4D (R := fun H4 => Bgd p H3 H4) (fun n i σ' H' => n ≤ 14 ∧ i ≤ n ∧ ∃ (a : Addr) (es : List (Int × Bx)) (xs : List V) (r4 r5 r6 : Option V), σ' = [some (.ref p), some (.ref Kd), some (.ref a), some (.ref El), r4, r5, r6, none, none] ∧ Bn C p Kd El H H' a es es xs ∧ EsOk es ∧ es.length ≤ i ∧ (∀ e ∈ es, ∃ j : Nat, j < i ∧ e.1 = (j : Int) * 3 - 10) ∧ xs.length = i)
      (fun Q q => go_drawN (N := 11) (p := p) rfl bg0 ev_c (by decide) (by decide) fun r H1 hr g => q r H1 hr g) (fun r H1 hr g => ⟨by omega, Nat.zero_le _, x, [], [], none, none, none, rfl, bn0.bgd g, ⟨List.nodup_nil, (fun e he => absurd he List.not_mem_nil), by decide⟩, Nat.le_refl _, (fun e he => absurd he List.not_mem_nil), rfl⟩) (fun n i σ' H' hi hP => ?_) (fun n σ' H' hP => ?_)
    · obtain ⟨n14, hin, a, es, xs, r4, r5, r6, rfl, bn, eo, eln, enu, xl⟩ := hP
      obtain ⟨qs, _, hqs⟩ := bn.tr.trE.trB
      rw [Int.zero_add]
      -- what is changed
      refine q_gate (fun σ2 H2 => ∃ (a : Addr) (es : List (Int × Bx)) (r5 r6 : Option V), σ2 = [some (.ref p), some (.ref Kd), some (.ref a), some (.ref El), some (.int (i : Int)), r5, r6, none, none] ∧ Bn C p Kd El H H2 a es es xs ∧ EsOk es ∧ es.length ≤ i + 1 ∧ ∀ e ∈ es, ∃ j : Nat, j < i + 1 ∧ e.1 = (j : Int) * 3 - 10) (fun N hN => ?_) (fun σ2 H2 hF => ?_)
      · refine s_ifG (t_kd (N := 4) rfl rfl bn.bg bn.dk (by decide) (by decide) fun b H4 g4 hbt => ?_)
        have bn4 := bn.bgd g4
        cases b with
        | true =>
          rw [if_pos rfl]
          refine q_asgQ (go_one (es := es) rfl rfl bn4.bg bn4.dk hqs (by have := eo.2.2; omega) (hbt rfl) fun k1 H5 hk1 g5 => ?_)
          have bn5 := bn4.bgd g5
          obtain ⟨kvs, hK5, l1, l2⟩ := bn5.dk
          obtain ⟨v, hv⟩ := valK_in l1 hk1
          obtain ⟨d1, d2⟩ := dicB_drop (i := k1) l1 l2
          have bn6 := bn5.put d1 d2
          refine q_dropQ ⟨_, rfl, Kd, rfl, .inl ⟨kvs, .inl hK5⟩, _, rfl, kvs, .inl k1, v, hK5, rfl, hv, ?_⟩
          obtain ⟨n1, f1, dx1, u1, D1, qs1, ha1, _⟩ := id bn6.tr
          refine s_asgQ ⟨_, rfl, a, dx1, _, rfl, ha1, by rfl, _, rfl, a, k1, es, rfl, bn6.tr.trE, eo, hk1, fun c H7 e7 tc td => ?_⟩
          exact hN _ _ ⟨c, without es k1, _, _, rfl, bn6.tree e7 tc td, eo.filter k1, Nat.le_trans (List.length_filter_le _ _) (by omega), fun e he => by
            obtain ⟨j, hj, ej⟩ := enu e (List.mem_filter.mp he).1
            exact ⟨j, by omega, ej⟩⟩
        | false =>
          rw [if_neg (by decide)]
          refine s_ifG (t_kd (N := 8) rfl rfl bn4.bg bn4.dk (by decide) (by decide) fun b H5 g5 hbt => ?_)
          have bn5 := bn4.bgd g5
          cases b with
          | true =>
            rw [if_pos rfl]
            refine q_parG2 (go_one (es := es) rfl rfl bn5.bg bn5.dk hqs (by have := eo.2.2; omega) (hbt rfl) fun k1 H6 hk1 g6 => ?_)
            have bn6 := bn5.bgd g6
            refine ⟨_, rfl, p, rfl, bn6.bg, fun v bx H7 bo g7 tv => ⟨_, _, rfl, ?_⟩⟩
            have bn7 := bn6.bgd g7
            obtain ⟨kvs, hK7, l1, l2⟩ := bn7.dk
            have kl := DicB.len l1
            refine q_dput (k := .inl k1) hK7 rfl (by have := eo.2.2; omega) (ev_var rfl) (ev_var rfl) fun H8 e8 => ?_
            have bn8 := bn7.ex e8
            obtain ⟨d1, d2⟩ := dicB_put (i := k1) (b := bx) l1 (l2.mono e8) (tv.mono e8)
            have bn9 := bn8.put d1 d2
            have tv9 : TD1 (upd H8 Kd (.dK (putK kvs (.inl k1) v))) v (boxD bx) := (tv.mono e8).by (upd_tupD (e8 _ _ hK7))
            obtain ⟨n1, f1, dx1, u1, D1, qs1, ha1, _⟩ := id bn9.tr
            refine s_asgQ ⟨_, rfl, a, dx1, _, rfl, ha1, by rfl, _, rfl, _, rfl, a, k1, v, bx, es, rfl, bn9.tr.trE, eo, tv9, bo, hk1, fun c H10 e10 tc td => ?_⟩
            have pp := putE_perm (b := bx) eo.1 hk1
            have bnA := (bn9.tree e10 tc td).perm pp.symm
            have eoA : EsOk (putE es k1 bx) := by
              refine EsOk.perm ⟨nd_snocE (eo.filter k1).1 not_without, fun e he => ?_, ?_⟩ pp
              · rcases List.mem_append.mp he with he | he
                · exact (eo.filter k1).2.1 e he
                · rw [List.mem_singleton.mp he]
                  exact bo
              · have l3 : (putE es k1 bx).length = es.length := by
                  unfold putE
                  rw [if_pos hk1, List.length_map]
                rw [← pp.length_eq, l3]
                exact eo.2.2
            have l3 : (putE es k1 bx).length = es.length := by
              unfold putE
              rw [if_pos hk1, List.length_map]
            exact hN _ _ ⟨c, putE es k1 bx, _, _, rfl, bnA, eoA, by rw [l3]; omega, fun e he => by
              rcases List.mem_append.mp (pp.mem_iff.mp he) with he | he
              · obtain ⟨j, hj, ej⟩ := enu e (List.mem_filter.mp he).1
                exact ⟨j, by omega, ej⟩
              · rw [List.mem_singleton.mp he]
                obtain ⟨e1, he1, ee⟩ := List.mem_map.mp hk1
                obtain ⟨j, hj, ej⟩ := enu e1 he1
                exact ⟨j, by omega, by rw [← ej, ← ee]⟩⟩
          | false =>
            rw [if_neg (by decide)]
            refine q_parG2 (ev_op (ev_op (ev_var rfl) ev_c (rv_I (.inr ⟨by decide, by decide⟩))) ev_c rv_I0 H5 (Ex.refl _) _ fun H6 e6 => ?_)
            have bn6 := bn5.ex e6
            refine ⟨_, rfl, p, rfl, bn6.bg, fun v bx H7 bo g7 tv => ⟨_, _, rfl, ?_⟩⟩
            have bn7 := bn6.bgd g7
            obtain ⟨kvs, hK7, l1, l2⟩ := bn7.dk
            have kl := DicB.len l1
            have hk1 : ((i : Int) * 3 - 10) ∉ es.map (·.1) := fun w => by
              obtain ⟨e1, he1, ee⟩ := List.mem_map.mp w
              obtain ⟨j, hj, ej⟩ := enu e1 he1
              omega
            refine q_dput (k := .inl ((i : Int) * 3 - 10)) hK7 rfl (by have := eo.2.2; omega) (ev_var rfl) (ev_var rfl) fun H8 e8 => ?_
            have bn8 := bn7.ex e8
            obtain ⟨d1, d2⟩ := dicB_put (i := (i : Int) * 3 - 10) (b := bx) l1 (l2.mono e8) (tv.mono e8)
            have bn9 := bn8.put d1 d2
            have tv9 : TD1 (upd H8 Kd (.dK (putK kvs (.inl ((i : Int) * 3 - 10)) v))) v (boxD bx) := (tv.mono e8).by (upd_tupD (e8 _ _ hK7))
            obtain ⟨n1, f1, dx1, u1, D1, qs1, ha1, _⟩ := id bn9.tr
            refine s_asgQ ⟨_, rfl, a, dx1, _, rfl, ha1, by rfl, _, rfl, _, rfl, a, (i : Int) * 3 - 10, v, bx, es, rfl, bn9.tr.trE, eo, tv9, bo, hk1, fun c H10 e10 tc td => ?_⟩
            have pp := putE_new (b := bx) hk1
            have bnA := bn9.tree e10 tc td
            rw [pp] at bnA
            exact hN _ _ ⟨c, es ++ [((i : Int) * 3 - 10, bx)], _, _, rfl, bnA, ⟨nd_snocE eo.1 hk1, fun e he => by
              rcases List.mem_append.mp he with he | he
              · exact eo.2.1 e he
              · rw [List.mem_singleton.mp he]
                exact bo, by rw [List.length_append, List.length_singleton]; omega⟩, by rw [List.length_append, List.length_singleton]; omega, fun e he => by
              rcases List.mem_append.mp he with he | he
              · obtain ⟨j, hj, ej⟩ := enu e he
                exact ⟨j, by omega, ej⟩
              · rw [List.mem_singleton.mp he]
                exact ⟨i, by omega, rfl⟩⟩
      · obtain ⟨a, es, r5, r6, rfl, bn, eo, eln, enu⟩ := hF
        obtain ⟨nn, ff, tra, pee, szz, lee, n11⟩ := id bn.tr.trE
        obtain ⟨dx1, u1, D1, qs1, ha1, tu1, hD1, by1⟩ := id tra
        have eo14 := eo.2.2
        refine ⟨_, rfl, .inl ⟨rfl, _, SqL.of bn.el⟩, ?_⟩
        refine ⟨_, rfl, _, rfl, a, dx1, _, rfl, ha1, a, dx1, u1, _, rfl, ha1, sz_of (by show 2 ≤ 100000; decide), fun tq nq => ?_⟩
        have eq := Ex.new (o := .tup [.ref a, u1]) nq
        have bnq := bn.ex eq
        refine ⟨El, xs, .ref tq, rfl, rfl, bnq.el, sz_lt (by omega), ?_⟩
        have bn5 := bnq.app (v := .ref tq) ⟨tq, a, dx1, u1, .ref D1, u1, nn, ff, rfl, upd_same, eq _ _ ha1, tu1.mono eq, tu1.mono eq, by omega⟩
        generalize upd (upd H2 tq (.tup [.ref a, u1])) El (.lst (xs ++ [.ref tq])) = H5 at bn5 ⊢
        have trE5 := bn5.tr.trE
        obtain ⟨qs5, xb5, hq5⟩ := trE5.trB
        have ndd := eo.1
        have lp := hq5.1.length_eq
        obtain ⟨n5, f5, tr5, pe5, sz5, le5, n51⟩ := id trE5
        have back5 : ∀ l, H5 l = none → H l = none := fun l hl => by
          cases hh : H l with
          | none => rfl
          | some o =>
            by_cases m : l ∈ [p, Kd, El]
            · rcases bn5.soft l m with ⟨ys, h⟩ | ⟨ys, h⟩
              · rw [h] at hl
                cases hl
              · rw [h] at hl
                cases hl
            · rw [bn5.kp l o m hh] at hl
              cases hl
        have nd5 : ((ents n5 f5).map (·.1)).Nodup := (pe5.map (·.1)).nodup_iff.mpr ndd
        have l5 := pe5.length_eq
        dsimp only
        refine q_not (et_or (a := false) (b := false) (et_noflaws (ed_formP (i := 2) rfl tr5) sz5 le5 nd5 (by omega) (by omega)) fun _ => et_or (a := false) (b := false) (et_boxes rfl rfl bn5.dk trE5 ndd) fun _ => et_or (a := false) (b := false) (et_neI (ld_new (eds_listF rfl back5 xb5 (by omega))) (ld_new (eds_sortK rfl bn5.dk hq5 (by omega)))) fun _ => et_lens rfl rfl bn5.dk xb5 lp (by omega)) fun H6 e6 => ?_
        have bn6 := bn5.ex e6
        have xb6 := xb5.mono e6
        refine q_not (et_or (a := false) (b := false) (et_neI (ld_new (eds_listB rfl xb6)) (ld_new (eds_sortK rfl bn6.dk hq5 (by omega)))) fun _ => et_alike (h1 := rfl) (vs := []) rfl bn6.dk xb6 hq5.1) fun H7 e7 => ?_
        have bn7 := bn6.ex e7
        have xb7 := xb6.mono e7
        refine s_when (b := false) (et_boxes2 rfl rfl bn7.dk xb7 hq5.1 (by omega)) (fun z => nomatch z) fun _ H8 e8 => ?_
        exact ⟨n14, hi, a, es, _, _, _, _, rfl, bn7.ex e8, eo, eln, enu, by rw [List.length_append, List.length_singleton, xl]⟩
    · obtain ⟨n14, _, a, es, xs, r4, r5, r6, rfl, bn, eo, eln, enu, xl⟩ := hP
      have eo14 := eo.2.2
      refine s_ret (v := .bl true) (ev_andV (a := true) (b := true) (ev_elders bn.el bn.eld (by omega)) fun _ => ev_last bn.dk bn.tr.trE (by omega)) fun H1 e1 => k H1 ⟨(bn.ex e1).bg, fun l o n h => ?_⟩
      refine e1 _ _ (bn.kp l o (fun m => ?_) h)
      rcases List.mem_cons.mp m with m | m
      · exact n m
      rcases List.mem_cons.mp m with m | m
      · rw [m, nK] at h
        cases h
      · rw [List.mem_singleton.mp m, n0E] at h
        cases h
end
end Q
set_option Elab.async false
set_option linter.all false
set_option maxRecDepth 100000
set_option maxHeartbeats 4000000
/-! pure data; dicts of pairs; trees told -/
namespace PB
open PySem
inductive Pu : PyData → Prop
  | int (i : Int) : Pu (.int i)
  | str (s : Str) : Pu (.str s)
  | tup (ds : List PyData) (h : ∀ d ∈ ds, Pu d) : Pu (.tuple ds)
theorem Pu.all : ∀ {xs ys : List PyData}, (∀ x ∈ xs, ∀ y, Pu y → PyData.eqv x y = true → x = y) → (∀ y ∈ ys, Pu y) → PyData.eqvAll xs ys = true → xs = ys
  | [], [], _, _, _ => rfl
  | [], _ :: _, _, _, h => by simp [PyData.eqvAll] at h
  | _ :: _, [], _, _, h => by simp [PyData.eqvAll] at h
  | x :: xs, y :: ys, hx, hy, h => by
    simp only [PyData.eqvAll, Bool.and_eq_true] at h
    rw [hx x List.mem_cons_self y (hy y List.mem_cons_self) h.1, Pu.all (fun z hz => hx z (List.mem_cons_of_mem _ hz)) (fun z hz => hy z (List.mem_cons_of_mem _ hz)) h.2]
theorem Pu.eq {d : PyData} (h : Pu d) : ∀ e, Pu e → PyData.eqv d e = true → d = e := by
  induction h with
  | int i =>
    intro e he q
    cases he with
    | int j => simpa [PyData.eqv] using q
    | str s => simp [PyData.eqv] at q
    | tup ds h => simp [PyData.eqv] at q
  | str s =>
    intro e he q
    cases he with
    | int j => simp [PyData.eqv] at q
    | str t => simpa [PyData.eqv] using q
    | tup ds h => simp [PyData.eqv] at q
  | tup ds h ih =>
    intro e he q
    cases he with
    | int j => simp [PyData.eqv] at q
    | str t => simp [PyData.eqv] at q
    | tup es h2 =>
      rw [Pu.all ih h2 (by simpa [PyData.eqv] using q)]
theorem pu_box (b : Bx) : Pu (boxD b) := .tup _ fun d hd => by
  simp only [List.mem_cons, List.not_mem_nil, or_false] at hd
  rcases hd with rfl | rfl | rfl | rfl <;> exact .int _
theorem pu_two {a b : PyData} (ha : Pu a) (hb : Pu b) : Pu (.tuple [a, b]) := .tup _ fun d hd => by
  simp only [List.mem_cons, List.not_mem_nil, or_false] at hd
  rcases hd with rfl | rfl
  · exact ha
  · exact hb
theorem pu_ent (e : Int × Bx) : Pu (entD e) := pu_two (.int _) (pu_box _)
theorem pu_gD : ∀ (n : Nat) (g : Gm n), Pu (gD (n := n) g)
  | 0, g => nomatch (show Empty from g)
  | n + 1, g => by
    rcases gm_cases g with ⟨es, rfl⟩ | ⟨bs, rfl⟩
    · exact pu_two (.str _) (.tup _ fun d hd => by
        obtain ⟨e, _, rfl⟩ := List.mem_map.mp hd
        exact pu_ent e)
    · exact pu_two (.str _) (.tup _ fun d hd => by
        obtain ⟨p, _, rfl⟩ := List.mem_map.mp hd
        exact pu_two (pu_box _) (pu_gD n p.2))
theorem gD_eqv {n : Nat} {a b : Gm n} (h : PyData.eqv (gD n a) (gD n b) = true) : a = b := gD_inj n a b ((pu_gD n a).eq _ (pu_gD n b) h)
end PB
namespace Q
open PySem L2 PySem.Spec PyProof.Rows PySem.Calls
open Evl PB
abbrev rDictP (K : PySem.W.Frag) : List V → Hp → VK → Prop := fun xs H Q => ∃ (a : Addr) (ps : List Addr) (kvs : List (Key × V)), xs = [.ref a] ∧ SqL K H a (ps.map V.ref) ∧ Paired (fun p kv => SqT K H p [kV kv.1, kv.2]) ps kvs ∧ ∀ p, H p = none → Q (.ref p) (upd H p (.dK (mergeK [] kvs)))
theorem mergeK_nd : ∀ {kvs acc : List (Key × V)}, ((acc ++ kvs).map (·.1)).Nodup → mergeK acc kvs = acc ++ kvs
  | [], acc, _ => (List.append_nil acc).symm
  | kv :: kvs, acc, h => by
    have nk : kv.1 ∉ acc.map (·.1) := fun z => by
      rw [List.map_append, List.map_cons, List.nodup_append] at h
      exact h.2.2 _ z _ List.mem_cons_self rfl
    show mergeK (putK acc kv.1 kv.2) kvs = _
    rw [putK_new nk]
    have e : acc ++ kv :: kvs = (acc ++ [kv]) ++ kvs := by rw [List.append_assoc]; rfl
    rw [e] at h ⊢
    exact mergeK_nd h
theorem pairs_td {K : PySem.W.Frag} {H : Hp} : ∀ {ys : List V} {qs : List (Int × Bx)}, TDs H ys (qs.map entD) → ∃ (ps : List Addr) (kvs : List (Key × V)), ys = ps.map V.ref ∧ Paired (fun p kv => SqT K H p [kV kv.1, kv.2]) ps kvs ∧ kvs.map (·.1) = (qs.map fun e => Sum.inl e.1) ∧ TDs H (kvs.map (·.2)) (qs.map fun e => boxD e.2)
  | ys, [], t => by
    have t : TDs H ys [] := t
    cases t.inv0
    exact ⟨[], [], rfl, .nil, rfl, .nil⟩
  | ys, q :: qs, t => by
    rw [List.map_cons] at t
    obtain ⟨v, zs, rfl, hv, t⟩ := t.inv
    obtain ⟨ps, kvs, rfl, h2, h3, h4⟩ := pairs_td (K := K) t
    obtain ⟨a, us, rfl, ha, tu⟩ := hv.tup
    obtain ⟨u1, us, rfl, y1, tu⟩ := tu.inv
    obtain ⟨u2, us, rfl, y2, tu⟩ := tu.inv
    cases tu.inv0
    cases y1.int
    exact ⟨a :: ps, (Sum.inl q.1, u2) :: kvs, rfl, .cons (SqT.of ha) h2, by rw [List.map_cons, List.map_cons, h3], TDs.cons y2 h4⟩
section
variable {K : PySem.W.Frag} {C a p L : Addr} {σ : L2.St} {H : Hp} {te ta tb : TE} {es qs qs' : List (Int × Bx)} {n : Nat} {f : Fm n} {xs : List V} {E : XK} {i j : Nat}
/-- two dicts of the same boxes -/
theorem dd_same {D D' : Addr} (h1 : DicB H D qs) (h2 : DicB H D' qs') (pm : qs.Perm qs') (nd : (qs.map (·.1)).Nodup) {Q : VK} (q : Q (.bl false) H) : rNeDD K (.ref D) (.ref D') H Q := by
  obtain ⟨kvs, hD, k1, k2⟩ := h1
  obtain ⟨kv2, hK, l1, l2⟩ := h2
  refine ⟨D, D', kvs, kv2, rfl, rfl, hD, hK, .inr ⟨?_, fun pr hpr => ?_, q⟩⟩
  · rw [DicB.len k1, DicB.len l1, pm.length_eq]
  · obtain ⟨j, hj⟩ := List.mem_iff_getElem?.mp hpr
    have hk1 : (kvs.map (·.1))[j]? = some pr.1 := by rw [List.getElem?_map, hj]; rfl
    rw [k1, List.getElem?_map] at hk1
    obtain ⟨qe, hq, e8⟩ := Option.map_eq_some_iff.mp hk1
    have hk2 : (kvs.map (·.2))[j]? = some pr.2 := by rw [List.getElem?_map, hj]; rfl
    obtain ⟨d, hd, td⟩ := k2.to hk2
    rw [List.getElem?_map, hq] at hd
    cases hd
    have mem : qe ∈ qs' := pm.mem_iff.mp (List.mem_of_getElem? hq)
    obtain ⟨i, hi⟩ := List.mem_iff_getElem?.mp mem
    have hx : (qs'.map fun e => boxD e.2)[i]? = some (boxD qe.2) := by rw [List.getElem?_map, hi]; rfl
    obtain ⟨v, hv, tv⟩ := l2.at hx
    refine ⟨v, boxD qe.2, ?_, td.dp, tv.dp, shaped_box _⟩
    rw [List.getElem?_map] at hv
    obtain ⟨kv, hkv, e9⟩ := Option.map_eq_some_iff.mp hv
    have hkk : (kv2.map (·.1))[i]? = some kv.1 := by rw [List.getElem?_map, hkv]; rfl
    rw [l1, List.getElem?_map, hi] at hkk
    have e10 : kv.1 = Sum.inl qe.1 := (Option.some.inj hkk).symm
    rw [← e8, ← e9]
    have ndk : (kv2.map (·.1)).Nodup := by
      rw [l1]
      exact nd_inl ((pm.map (·.1)).nodup_iff.mp nd)
    have gen : ∀ {kvs : List (Key × V)} {i : Nat} {kv : Key × V}, (kvs.map (·.1)).Nodup → kvs[i]? = some kv → valV kvs kv.1 = some kv.2 := fun {kvs} => by
      induction kvs with
      | nil => intro i kv _ h; cases h
      | cons p r ih =>
        intro i kv hn h
        rw [List.map_cons] at hn
        obtain ⟨n1, n2⟩ := List.nodup_cons.mp hn
        cases i with
        | zero =>
          cases h
          exact valV_pos rfl
        | succ i =>
          have h' : r[i]? = some kv := by simpa using h
          rw [valV_neg (fun z => n1 (by rw [z]; exact List.mem_map.mpr ⟨kv, List.mem_of_getElem? h', rfl⟩))]
          exact ih n2 h'
    have z := gen ndk hkv
    rw [← e10]
    exact z
/-- t.boxes, a new dict -/
theorem sp_boxes {n : Nat} {f : Fm n} (x : TrA C H a n f) {Q : VK} (q : ∀ D qs H2, H D = none → Ex H H2 → DicB H2 D qs → qs.Perm (ents n f) → Q (.ref D) H2) : spBoxesP C [.ref a] H Q E := by
  obtain ⟨dx, u, D, qs, ha, tu, ⟨kvs, hD, k1, k2⟩, pm, po⟩ := x
  exact ⟨a, dx, D, u, kvs, rfl, ha, hD, fun p H2 np e2 hp => q p qs H2 np e2 ⟨kvs, hp, k1, k2.mono e2⟩ pm⟩
theorem TrA.ins (x : TrA C H a n f) : ∃ dx fs, H a = some (.ins C dx fs) := by
  obtain ⟨dx, u, D, qs, ha, _⟩ := x
  exact ⟨dx, _, ha⟩
/-- dict(sorted(entries)), a new dict -/
theorem go_dictS (h3 : σ[i]? = some (some (.ref L))) (hL : H L = some (.lst xs)) (tL : TDs H xs (es.map entD)) (nd : (es.map (·.1)).Nodup) {H1 : Hp} (e : Ex H H1) {Q : VK} (q : ∀ D qs H2, H1 D = none → Ex H1 H2 → DicB H2 D qs → qs.Perm es → Q (.ref D) H2) : tCB (rDictP K) (tCons (tCB (rSortF K) (tCons (tVar i) tNil)) tNil) σ H1 Q :=
  go_sortF (sq_list (ld_of (ev_var h3) hL tL)) nd e fun p ys qs H2 np e2 hp t pm _ => by
    obtain ⟨ps, kvs, rfl, h2, h3, h4⟩ := pairs_td (K := K) t
    refine ⟨p, ps, kvs, rfl, SqL.of hp, h2, fun D nD => ?_⟩
    have eD := Ex.new (o := .dK (mergeK [] kvs)) nD
    have em : mergeK [] kvs = kvs := mergeK_nd (by
      rw [List.nil_append, h3]
      exact nd_inl ((pm.map (·.1)).nodup_iff.mpr nd))
    exact q D qs _ (fresh_back e2 nD) (e2.trans eD) ⟨kvs, by rw [em]; exact upd_same, h3, h4.mono eD⟩ pm
theorem et_boxesS (h5 : σ[j]? = some (some (.ref a))) (h3 : σ[i]? = some (some (.ref L))) (x : TrA C H a n f) (hL : H L = some (.lst xs)) (tL : TDs H xs (es.map entD)) (pe : (ents n f).Perm es) (nd : (es.map (·.1)).Nodup) : EvT (tTest (tOp (rNeDD K) (tProp C (spBoxesP C) [] E0 (tVar j)) (tCB (rDictP K) (tCons (tCB (rSortF K) (tCons (tVar i) tNil)) tNil)))) σ H false := fun H1 e1 Q q => by
  obtain ⟨dx, fs, ha⟩ := (x.mono e1).ins
  refine ⟨_, h5, a, dx, fs, rfl, ha, sp_boxes (x.mono e1) fun D qs H2 nD e2 d2 pm => ?_⟩
  have e12 := e1.trans e2
  exact go_dictS h3 (e12 _ _ hL) (tL.mono e12) nd (Ex.refl _) fun D' qs' H3 nD' e3 d3 pm' => dd_same (d2.mono e3) d3 ((pm.trans pe).trans pm'.symm) (((pm.trans pe).map (·.1)).nodup_iff.mpr nd) ⟨false, rfl, q H3 (e2.trans e3)⟩
/-- Tree(tuple(entries)) -/
theorem go_mk (h3 : σ[i]? = some (some (.ref L))) (hL : H L = some (.lst xs)) (tL : TDs H xs (es.map entD)) (nd : (es.map (·.1)).Nodup) (hl : es.length ≤ 14) (ok : ∀ e ∈ es, e.2.ok) {H1 : Hp} (e : Ex H H1) {Q : VK} (q : ∀ c H2, Ex H1 H2 → TrE C H2 c es → Q (.ref c) H2) :
    tMake C (spInit K C) [] E0 (tCons (tCB (fun xs H Q => ∃ p ys, xs = [.ref p] ∧ ((SqL K H p ys ∧ ∀ l, H l = none → Q (.ref l) (upd H l (.tup ys))) ∨ (SqT K H p ys ∧ Q (.ref p) H))) (tCons (tVar i) tNil)) tNil) σ H1 Q :=
  go_make1 ((ed_tupV (K := K) (ev_var h3) hL tL) H1 e _ fun v H4 e4 x4 => by
    obtain ⟨A, ys, rfl, hA, t4⟩ := x4.tup
    intro x dx' nx ndx ne
    exact go_tree (K := K) (es := es) nx ndx ne hA t4 (by omega) nd ok (fun H' e' => SeqD.of (TD1.mk (e' _ _ hA) (t4.mono e'))) fun H' e' t td => q x H' (e4.trans e') t)
theorem go_told (h : EvD te σ H (formD n f)) (hb : boxesOk n f) (hl : least n f) (hz : sizes n f) (nd : ((ents n f).map (·.1)).Nodup) (h3 : n ≤ 3) {H1 : Hp} (e : Ex H H1) {Q : VK} (q : ∀ a H2, Ex H1 H2 → TrA C H2 a n f → Q (.ref a) H2) : ClX.tCMeth C (spTold C) E (tC (.ref C)) (tCons te tNil) σ H1 Q :=
  ⟨rfl, h H1 e _ fun v H2 e2 x => ⟨n, f, v, rfl, x, hb, hl, hz, nd, h3, fun a H3 e3 t => q a H3 (e2.trans e3) t⟩⟩
end
end Q
set_option Elab.async false
set_option linter.all false
set_option maxRecDepth 100000
set_option maxHeartbeats 4000000
/-! what the law asks of a form, and of a spoilt one -/
namespace Q
open PySem L2 PySem.Spec PyProof.Rows PySem.Calls
open Evl PB
theorem TrA.bgd {p a : Addr} {H H' : Hp} {C : Addr} {n : Nat} {f : Fm n} (g : Bgd p H H') (hb : BagIn p H) (h : TrA C H a n f) : TrA C H' a n f := by
  obtain ⟨dx, u, D, qs, h1, h2, h3, h4⟩ := h
  obtain ⟨x, y, z, hp⟩ := id hb
  exact ⟨dx, u, D, qs, g.keep _ _ (fun e => by rw [e, hp] at h1; cases h1) h1, h2.by (g.tk hb), h3.bgd g hb, h4⟩
section
variable {K : PySem.W.Frag} {C a p L : Addr} {σ : L2.St} {H : Hp} {te ta tb : TE} {es qs qs' : List (Int × Bx)} {n m : Nat} {f : Fm n} {g : Gm m} {xs : List V} {E : XK} {i j : Nat} {v w : V}
theorem go_dentN (hs : σ[j]? = some (some (.ref p))) (hb : BagIn p H) {Q : VK} (k : ∀ l xs (es : List (Int × Bx)) H', l ≠ p → H l = none → Bgd p H H' → H' l = some (.lst xs) → TDs H' xs (es.map entD) → es.length ≤ 14 → (es.map (·.1)).Nodup → (∀ e ∈ es, e.2.ok) → Q (.ref l) H') :
    tCall spDEnt [] E (tCons (tVar j) (tCons (tCall spDraw [] E0 (tCons (tVar j) (tCons (tC (.int 14)) tNil))) tNil)) σ H Q := ⟨_, hs, (eb_draw (N := 14) hs (eb_c ⟨by decide, by decide, by decide⟩)) H hb _ fun r H1 hr g1 => by
      obtain ⟨n, rfl⟩ := Int.eq_ofNat_of_zero_le hr.1
      exact ⟨p, n, rfl, g1.bag, by have := hr.2; omega, fun l xs es H2 hl0 g2 hl tl ln nd ok => k l xs es H2 (ne_bag g1.bag hl0) (g1.free hl0) (g1.trans g2) hl tl (by have := hr.2; omega) nd ok⟩⟩
theorem go_dformN (hs : σ[j]? = some (some (.ref p))) (hi : σ[i]? = some (some (.ref L))) (hb : BagIn p H) (nL : L ≠ p) (hL : H L = some (.lst xs)) (tL : TDs H xs (es.map entD)) (h10 : es.length ≤ 14) (ok : ∀ e ∈ es, e.2.ok) {Q : VK}
    (k : ∀ v (n : Nat) (f : Fm n) H', Bgd p H H' → TD1 H' v (formD n f) → ents n f = es → sizes n f → least n f → boxesOk n f → n ≤ 2 → Q v H') : tCall spDForm [] E (tCons (tVar j) (tCons (tVar i) tNil)) σ H Q := ⟨_, hs, _, hi, p, L, xs, es, rfl, hb, nL, hL, tL, h10, ok, k⟩
theorem ev_hP (h5 : σ[j]? = some (some (.ref a))) (x : TrA C H a n f) (hz : sizes n f) (h3 : n ≤ 3) : Ev (tProp C (spHeight C) [] E0 (tVar j)) σ H (.int ((n + 1 : Nat) : Int)) := fun H1 e1 Q q => by
  obtain ⟨dx, fs, ha⟩ := (x.mono e1).ins
  exact ⟨_, h5, a, dx, fs, rfl, ha, a, n, f, rfl, x.mono e1, hz, h3, fun H2 e2 => q H2 e2⟩
theorem ev_lht (h : EvD te σ H (formD n f)) (hz : sizes n f) (h3 : n ≤ 3) : Ev (tCall spLHt [] E0 (tCons te tNil)) σ H (.int ((n + 1 : Nat) : Int)) := fun H1 e1 Q q =>
  h H1 e1 _ fun v H2 e2 x => ⟨n, f, v, rfl, x, hz, h3, fun H3 e3 => q H3 (e2.trans e3)⟩
theorem et_neTold (h5 : σ[j]? = some (some (.ref a))) (x : TrA C H a n f) (h : EvD te σ H (formD n f)) (hb : boxesOk n f) (hl : least n f) (hz : sizes n f) (nd : ((ents n f).map (·.1)).Nodup) (h3 : n ≤ 3) : EvT (tTest (tOp (rEqOwn C (spEqT C) true) (tVar j) (ClX.tCMeth C (spTold C) E0 (tC (.ref C)) (tCons te tNil)))) σ H false := fun H1 e1 Q q =>
  ⟨_, h5, go_told h hb hl hz nd h3 e1 fun b H2 e2 t => by
    have x2 := x.mono (e1.trans e2)
    refine ⟨a, b, rfl, rfl, ?_, ?_, a, b, n, n, f, f, rfl, x2, t, h3, h3, fun H3 e3 => ⟨_, rfl, false, ?_, q H3 (e2.trans e3)⟩⟩
    · obtain ⟨dx, fs, ha⟩ := x2.ins
      exact ⟨dx, _, ha⟩
    · obtain ⟨dx, fs, ha⟩ := t.ins
      exact ⟨dx, _, ha⟩
    · rw [SeqAt.eqv_refl _ (SeqAt.canLay_of_shaped (shp_form f h3))]
      rfl⟩
theorem et_neForm (h1 : EvD ta σ H (formD n f)) (h2 : EvD tb σ H (formD n f)) (h3 : n ≤ 3) : EvT (tTest (tOp (rNeD K) ta tb)) σ H false := et_is (et_test (ev_neD h1 h2 (shp_form f h3) (shp_form f h3))) (by
  rw [SeqAt.eqv_refl _ (SeqAt.canLay_of_shaped (shp_form f h3))]
  rfl)
theorem go_test {Q : Bool → Hp → Prop} (h : te σ H fun x H' => ∃ k, x = .bl k ∧ Q k H') : tTest te σ H Q := h
theorem go_op {r : R2} {Q : VK} (h : ta σ H fun x H1 => tb σ H1 fun y H2 => r x y H2 Q) : tOp r ta tb σ H Q := h
theorem go_prop {sp : Sp} {E : XK} {Q : VK} (h : te σ H fun x H1 => ∃ a dx fs, x = .ref a ∧ H1 a = some (.ins C dx fs) ∧ sp (.ref a :: []) H1 Q E) : tProp C sp [] E te σ H Q := h
theorem go_callA {sp : Sp} {E : XK} {Q : VK} (h : te σ H fun x H1 => sp [x] H1 Q E) : tCall sp [] E (tCons te tNil) σ H Q := h
abbrev tMk (K : PySem.W.Frag) (C : Addr) (i : Nat) : TE := tMake C (spInit K C) [] E0 (tCons (tCB (fun xs H Q => ∃ p ys, xs = [.ref p] ∧ ((SqL K H p ys ∧ ∀ l, H l = none → Q (.ref l) (upd H l (.tup ys))) ∨ (SqT K H p ys ∧ Q (.ref p) H))) (tCons (tVar i) tNil)) tNil)
theorem et_boxesM (h5 : σ[j]? = some (some (.ref a))) (h3 : σ[i]? = some (some (.ref L))) (x : TrA C H a n f) (hL : H L = some (.lst xs)) (tL : TDs H xs (es.map entD)) (pe : (ents n f).Perm es) (nd : (es.map (·.1)).Nodup) (hl : es.length ≤ 14) (ok : ∀ e ∈ es, e.2.ok) :
    EvT (tTest (tOp (rNeDD K) (tProp C (spBoxesP C) [] E0 (tMk K C i)) (tProp C (spBoxesP C) [] E0 (tVar j)))) σ H false := fun H1 e1 Q q => by
  refine go_test (go_op (go_prop (go_mk h3 hL tL nd hl ok e1 fun c H2 e2 tc => ?_)))
  · obtain ⟨n2, f2, t2, pm2, _⟩ := tc
    obtain ⟨dx2, fs2, ha2⟩ := t2.ins
    refine ⟨c, dx2, fs2, rfl, ha2, sp_boxes t2 fun D qs H3 nD e3 d3 pm3 => ?_⟩
    have x3 := x.mono ((e1.trans e2).trans e3)
    obtain ⟨dx, fs, ha⟩ := x3.ins
    exact ⟨_, h5, a, dx, fs, rfl, ha, sp_boxes x3 fun D' qs' H4 nD' e4 d4 pm4 => dd_same (d3.mono e4) d4 ((pm3.trans pm2).trans (pm4.trans pe).symm) (((pm3.trans pm2).map (·.1)).nodup_iff.mpr nd) ⟨false, rfl, q H4 ((e2.trans e3).trans e4)⟩⟩
theorem et_flawsM (h3 : σ[i]? = some (some (.ref L))) (hL : H L = some (.lst xs)) (tL : TDs H xs (es.map entD)) (nd : (es.map (·.1)).Nodup) (hl : es.length ≤ 14) (ok : ∀ e ∈ es, e.2.ok) :
    EvT (tTest (tOp (rNeD K) (tCall spLFl [] E0 (tCons (tProp C (spFormP C) [] E0 (tMk K C i)) tNil)) (tLst tNil))) σ H false := fun H1 e1 Q q => by
  refine go_test (go_op (go_callA (go_prop (go_mk h3 hL tL nd hl ok e1 fun c H2 e2 tc => ?_))))
  · obtain ⟨n2, f2, t2, pm2, sz2, le2, n12⟩ := tc
    obtain ⟨dx, u, D, qs, ha, tu, hD, _⟩ := id t2
    have z : EvT (tTest (tOp (rNeD K) (tCall spLFl [] E0 (tCons (tC u) tNil)) (tLst tNil))) σ H2 false := et_noflaws (ed_of ev_c tu) sz2 le2 ((pm2.map (·.1)).nodup_iff.mpr nd) (by omega) (by rw [pm2.length_eq]; omega)
    exact ⟨c, dx, _, rfl, ha, c, dx, u, .ref D, rfl, ha, z H2 (Ex.refl _) _ fun H3 e3 => q H3 (e2.trans e3)⟩
theorem ev_isRF (h : EvD te σ H (gD m g)) (h4 : m ≤ 4) (ht : gT m g) (ho : gO m g) (le : (gEs m g).length ≤ 4000) (lp : (gP m g).length ≤ 4000) : Ev (tCall (spIsRF 4) [] E0 (tCons te tNil)) σ H (.bl (flaws m g).isEmpty) := fun H1 e1 Q q =>
  h H1 e1 _ fun v H2 e2 x => ⟨m, g, v, h4, rfl, x, ht, ho, le, lp, fun H3 e3 => q H3 (e2.trans e3)⟩
theorem et_isRFform (h : EvD te σ H (formD n f)) (hb : boxesOk n f) (hl : least n f) (hz : sizes n f) (nd : ((ents n f).map (·.1)).Nodup) (h3 : n ≤ 3) (hc : (ents n f).length ≤ 300) :
    EvT (tTest (tOp (fun x y H Q => ∃ a b, x = V.bl a ∧ y = V.bl b ∧ Q (V.bl !decide (a = b)) H) (tCall (spIsRF 4) [] E0 (tCons te tNil)) (tC (.bl true)))) σ H false := fun H1 e1 Q q => by
  have ht := sizes_thin n f hz
  obtain ⟨_, b2, b3⟩ := bnds ht h3
  have z := ev_isRF (g := up n f) (by rw [up_D]; exact h) (by omega) (up_T n f ht h3) (up_O n f hb) b2 b3
  rw [flaws_up hl hz nd hc] at z
  exact z H1 e1 _ fun H2 e2 => ⟨true, true, rfl, rfl, false, rfl, q H2 e2⟩
theorem ed_ffl (h : EvD te σ H (gD m g)) (h4 : m ≤ 4) (ht : gT m g) (ho : gO m g) (le : (gEs m g).length ≤ 4000) (lp : (gP m g).length ≤ 4000) : EvD (tCall (spFlawsG 4) [] E0 (tCons te tNil)) σ H (.tuple ((flaws m g).map PyData.str)) := fun H1 e1 Q q =>
  h H1 e1 _ fun v H2 e2 x => ⟨m, g, v, h4, rfl, x, ht, ho, le, lp, fun t H3 e3 h3 => q _ H3 (e2.trans e3) (TD1.mk h3 (TDs.strs _))⟩
theorem shp_flL (m : Nat) (g : Gm m) : SeqAt.shaped (.list ((flaws m g).map PyData.str)) = true := shp_list fun d hd => by
  obtain ⟨x, hx, rfl⟩ := List.mem_map.mp hd
  exact ⟨flaws_lay x hx, by show 0 ≤ 60; decide⟩
theorem eqv_nilL (ds : List PyData) : PyData.eqv (.list ds) (.list []) = ds.isEmpty := by
  cases ds with
  | nil => rfl
  | cons d ds => simp [PyData.eqv, PyData.eqvAll]
theorem ev_eqLd {ds fs : List PyData} (h1 : EvLd ta σ H ds) (h2 : EvLd tb σ H fs) (s1 : SeqAt.shaped (.list ds) = true) (s2 : SeqAt.shaped (.list fs) = true) : Ev (tOp (rEqD K) ta tb) σ H (.bl (PyData.eqv (.list ds) (.list fs))) := fun H1 e Q q =>
  h1 H1 e _ fun l xs H2 e2 hl x => h2 H2 (e.trans e2) _ fun k ys H3 e3 hk y => ⟨.list ds, .list fs, .lst (SqL.of (e3 _ _ hl)) (x.mono e3).dp, .lst (SqL.of hk) y.dp, s1, s2, q H3 (e2.trans e3)⟩
theorem ev_noFl (h : EvD te σ H (gD m g)) (ht : gT m g) (h4 : m ≤ 4) (hc : gC m g ≤ 2000) (he : (gEs m g).length ≤ 4000) : Ev (tOp (rEqD K) (tCall spLFl [] E0 (tCons te tNil)) (tLst tNil)) σ H (.bl (flaws m g).isEmpty) :=
  ev_is (ev_eqLd (ld_new (eds_lflG h ht h4 hc he)) (ld_new (eds_lst da_nil (by decide))) (shp_flL m g) rfl) (by
    rw [eqv_nilL]
    cases flaws m g <;> rfl)
end
end Q
set_option Elab.async false
set_option linter.all false
set_option maxRecDepth 100000
set_option maxHeartbeats 4000000
/-! no flaws: a form of equal depth -/
namespace Q
open PySem L2 PySem.Spec PyProof.Rows PySem.Calls
open Evl PB
def ddp (ns : List Int) : List Int := ns.foldl step_dedup []
theorem ddp_eq (ns : List Int) : PyProof.Rows.firstMet (fun i => ns.getD i 0) ns.length = ddp ns := by
  unfold PyProof.Rows.firstMet ddp
  congr 1
  apply List.ext_getElem?
  intro i
  rw [List.getElem?_map]
  by_cases h : i < ns.length
  · rw [List.getElem?_range h]
    simp [h]
  · rw [List.getElem?_eq_none (by simp; omega), List.getElem?_eq_none (by omega)]
    rfl
theorem ddp_snoc (ns : List Int) (x : Int) : ddp (ns ++ [x]) = step_dedup (ddp ns) x := by
  unfold ddp
  rw [List.foldl_append]
  rfl
theorem ddp_facts (ns : List Int) : (∀ x, x ∈ ddp ns ↔ x ∈ ns) ∧ (ddp ns).length ≤ ns.length ∧ ((ddp ns).length = ns.length → ns.Nodup) := by
  have rev : ∀ l : List Int, (∀ x, x ∈ ddp l.reverse ↔ x ∈ l.reverse) ∧ (ddp l.reverse).length ≤ l.reverse.length ∧ ((ddp l.reverse).length = l.reverse.length → l.reverse.Nodup) := fun l => by
    induction l with
    | nil => exact ⟨fun x => Iff.rfl, Nat.le_refl _, fun _ => .nil⟩
    | cons y l ih =>
      rw [List.reverse_cons, ddp_snoc]
      obtain ⟨i1, i2, i3⟩ := ih
      unfold step_dedup
      by_cases h : y ∈ ddp l.reverse
      · rw [if_pos (by simpa using h)]
        refine ⟨fun x => ?_, ?_, fun e => ?_⟩
        · rw [i1 x, List.mem_append, List.mem_singleton]
          refine ⟨.inl, fun z => z.elim id fun z => ?_⟩
          rw [z]
          exact (i1 y).mp h
        · rw [List.length_append]
          omega
        · rw [List.length_append, List.length_singleton] at e
          omega
      · rw [if_neg (by simpa using h)]
        refine ⟨fun x => ?_, ?_, fun e => ?_⟩
        · rw [List.mem_append, List.mem_append, i1 x]
        · rw [List.length_append, List.length_append]
          omega
        · rw [List.length_append, List.length_append, List.length_singleton] at e
          rw [List.nodup_append]
          refine ⟨i3 (by omega), by simp, fun a ha b hb z => ?_⟩
          rw [List.mem_singleton.mp hb] at z
          rw [z] at ha
          exact h ((i1 y).mpr ha)
  have := rev ns.reverse
  rw [List.reverse_reverse] at this
  exact this
theorem diff_one {ns : List Int} (h : ¬ 1 < diffN ns) : ∀ x ∈ ns, ∀ y ∈ ns, x = y := fun x hx y hy => by
  unfold diffN at h
  rw [ddp_eq] at h
  obtain ⟨f1, _, _⟩ := ddp_facts ns
  have hx' := (f1 x).mpr hx
  have hy' := (f1 y).mpr hy
  match e : ddp ns, hx', hy', h with
  | [z], hx', hy', _ => rw [List.mem_singleton.mp hx', List.mem_singleton.mp hy']
  | a :: b :: r, _, _, h => exact absurd (by simp) h
theorem nodup_diff {ns : List Int} (h : ¬ diffN ns < ns.length) : ns.Nodup := by
  unfold diffN at h
  rw [ddp_eq] at h
  obtain ⟨_, f2, f3⟩ := ddp_facts ns
  exact f3 (by omega)
theorem gP_nn : ∀ (n : Nat) (g : Gm n), ∀ x ∈ gP n g, 0 ≤ x ∧ x < n
  | 0, g => nomatch (show Empty from g)
  | n + 1, g => by
    intro x hx
    rcases gm_cases g with ⟨es, rfl⟩ | ⟨bs, rfl⟩
    · rw [List.mem_singleton.mp (show x ∈ [(0 : Int)] from hx)]
      omega
    · obtain ⟨p, hp, hx⟩ := List.mem_flatMap.mp (show x ∈ (bs.flatMap fun p => (gP n p.2).map (· + 1)) from hx)
      obtain ⟨y, hy, rfl⟩ := List.mem_map.mp hx
      have := gP_nn n p.2 y hy
      omega
/-- a form without flaws -/
theorem flaws_right {n : Nat} {g : Gm (n + 1)} (h : flaws (n + 1) g = []) (ho : gO (n + 1) g) : ∃ (d : Nat) (f : Fm d), d ≤ n ∧ gD (n + 1) g = formD d f ∧ sizes d f ∧ least d f ∧ boxesOk d f ∧ ((ents d f).map (·.1)).Nodup := by
  obtain ⟨h1, h2, h3, h4, h5⟩ := flaws_none h
  obtain ⟨x0, hx0⟩ : ∃ x, x ∈ gP (n + 1) g := by
    cases q : gP (n + 1) g with
    | nil => exact absurd q (gP_ne n g h4)
    | cons x r => exact ⟨x, List.mem_cons_self⟩
  obtain ⟨p1, p2⟩ := gP_nn _ _ _ hx0
  obtain ⟨d, rfl⟩ := Int.eq_ofNat_of_zero_le p1
  obtain ⟨f, f1, f2, f3, f4, f5, f6⟩ := down (n + 1) g d h4 (fun x hx => diff_one h2 x hx _ hx0) (by omega)
  refine ⟨d, f, by omega, f1, f4, f5 h1, f6 ho, ?_⟩
  rw [← f2]
  exact nodup_diff (by rw [List.length_map]; exact h5)
end Q
set_option Elab.async false
set_option linter.all false
set_option maxRecDepth 100000
set_option maxHeartbeats 4000000
/-! the law's last question -/
namespace Q
open PySem L2 PySem.Spec PyProof.Rows PySem.Calls
open Evl PB
section
variable {K : PySem.W.Frag} {C a : Addr} {σ : L2.St} {H : Hp} {n : Nat} {f : Fm n} {g : Gm (n + 1)} {v w : V}
theorem shp_gD {m : Nat} (g : Gm m) (h : m ≤ 3) : SeqAt.shaped (gD m g) = true := by
  unfold SeqAt.shaped
  have z := small_formG m g
  rw [z.1, decide_eq_true (show (gD m g).depth ≤ 64 by have := z.2; omega)]
  rfl
theorem et_last (h5 : σ[5]? = some (some (.ref a))) (x : TrA C H a n f) (h4 : σ[4]? = some (some v)) (h6 : σ[6]? = some (some w)) (tv : TD1 H v (formD n f)) (tw : TD1 H w (gD (n + 1) g)) (n2 : n ≤ 2) (ht : gT (n + 1) g) (ho : gO (n + 1) g) (hc : gC (n + 1) g ≤ 2000) (he : (gEs (n + 1) g).length ≤ 4000)
    (hl : least n f) (hz : sizes n f) (nd : ((ents n f).map (·.1)).Nodup) (h14 : (ents n f).length ≤ 300) :
    EvT (tTest (tOp rNe (tIf (tTest (tOp (rEqD K) (tCall spLFl [] E0 (tCons (tVar 6) tNil)) (tLst tNil))) (tOp (rEqOwn C (spEqT C) false) (tVar 5) (ClX.tCMeth C (spTold C) E0 (tC (.ref C)) (tCons (tVar 6) tNil))) (tC (.bl false))) (tOp (rEqD K) (tVar 6) (tVar 4)))) σ H false := by
  have one : Ev (tOp (rEqD K) (tVar 6) (tVar 4)) σ H (.bl (PyData.eqv (gD (n + 1) g) (formD n f))) := ev_eqD (ed_var h6 tw) (ed_var h4 tv) (shp_gD g (by omega)) (shp_form f (by omega))
  have two : Ev (tIf (tTest (tOp (rEqD K) (tCall spLFl [] E0 (tCons (tVar 6) tNil)) (tLst tNil))) (tOp (rEqOwn C (spEqT C) false) (tVar 5) (ClX.tCMeth C (spTold C) E0 (tC (.ref C)) (tCons (tVar 6) tNil))) (tC (.bl false))) σ H (.bl (PyData.eqv (gD (n + 1) g) (formD n f))) := by
    refine ev_if (et_test (ev_noFl (ed_var h6 tw) ht (by omega) hc he)) (fun hb => fun H1 e1 Q q => ?_) (fun hb => ?_)
    · have fl : flaws (n + 1) g = [] := List.isEmpty_iff.mp hb
      obtain ⟨d, f', dn, ed, z1, z2, z3, z4⟩ := flaws_right fl ho
      refine ⟨_, h5, go_told (by rw [← ed]; exact ed_var h6 tw) z3 z2 z1 z4 (by omega) e1 fun b H2 e2 t => ?_⟩
      have x2 := x.mono (e1.trans e2)
      refine ⟨a, b, rfl, rfl, ?_, ?_, a, b, n, d, f, f', rfl, x2, t, by omega, by omega, fun H3 e3 => ⟨_, rfl, ?_⟩⟩
      · obtain ⟨dx, fs, ha⟩ := x2.ins
        exact ⟨dx, _, ha⟩
      · obtain ⟨dx, fs, ha⟩ := t.ins
        exact ⟨dx, _, ha⟩
      · have e : PyData.eqv (formD n f) (formD d f') = PyData.eqv (gD (n + 1) g) (formD n f) := by rw [← ed, PySem.W.eqv_comm]
        rw [e]
        exact q H3 (e2.trans e3)
    · have e : PyData.eqv (gD (n + 1) g) (formD n f) = false := by
        cases q : PyData.eqv (gD (n + 1) g) (formD n f) with
        | false => rfl
        | true =>
          rw [← up_D n f] at q
          rw [gD_eqv q, flaws_up hl hz nd h14] at hb
          cases hb
      rw [e]
      exact ev_c
  exact et_is (et_test (ev_op two one (rv_ne rfl))) (by rw [decide_eq_true rfl]; rfl)
end
end Q
set_option Elab.async false
set_option linter.all false
set_option maxRecDepth 100000
set_option maxHeartbeats 8000000
/-! the law -/
namespace Q
open PySem L2 PySem.Spec PyProof.Rows PySem.Calls
open Evl PB
abbrev sLaw : Stmt := top 57
def spLaw (K : PySem.W.Frag) : Sp := fun vs H Q _ => ∃ (a : Addr) (ns : List Int), vs = [.ref a] ∧ SqL K H a (ns.map V.int) ∧ ns.length ≤ 63 ∧ ∀ H', Q (.bl true) H'
section
variable {P : Program} {w : World} {K : PySem.W.Frag} {mg : Str → Option Value} {base : Heap}
abbrev nmL : List Str := ["script", "at", "bag", "entries", "form", "told", "spoilt"]
theorem scL : FnScope nmL ["script"] (defScope sLaw) := ⟨rfl, rfl, rfl, by decide +kernel, rfl, by decide +kernel, by decide +kernel⟩
theorem ok_law {C f : Addr} {fd : FuncData} (F : Fun K "law" "law" sLaw f fd) (T : TB mg) (TM : TMm mg) (So : TSo mg) (St : TSt mg) (TD : TDi mg) (TC : TrC K mg C) (CB : Cl P w K mg base 1 "_law_bag" (spBag K)) (CR : Cl P w K mg base 11 "_law_right" spRight) (CD : Cl P w K mg base 1 "_law_draw" spDraw) (CE : Cl P w K mg base 4 "_law_drawn_entries" spDEnt) (CF : Cl P w K mg base 3 "_law_drawn_form" spDForm)
    (CL : Cl P w K mg base 3 "_law_flaws" spLFl) (CH : Cl P w K mg base 1 "_law_height" spLHt) (CS : Cl P w K mg base 4 "_law_spoilt" (spSpo 3)) (CG : Cl P w K mg base 13 "form_flaws" (spFlawsG 4)) (CI : Cl P w K mg base 14 "is_right_form" (spIsRF 4)) (CT : Cm P w K mg base 14 C "told" (spTold C)) (MQ : Mq P w K mg base 6 C (spInit K C) [])
    (PF : Pq P w K mg base 1 C "form" (spFormP C)) (PX : Pq P w K mg base 1 C "boxes" (spBoxesP C)) (PH : Pq P w K mg base 5 C "height" (spHeight C)) (ME : Mt P w K mg base 1 C "__eq__" (spEqT C)) (hne : PySem.W.findIn K (.ref C) "__ne__" = some (some (.builtin "object.__ne__"))) (hmr : PySem.W.mroIn K C (.type "object") = some true) :
    FnOk P w K mg base CX0 16 f fd ["script"] (spLaw K) := by
  refine F.ok scL (fun vs H Q E h => ?_) (fun cdv A outer s H0 vs Q E hr h => ?_)
  · obtain ⟨a, ns, rfl, _⟩ := h
    rfl
  · obtain ⟨sa, ns, rfl, hS, hlen, k⟩ := h
    have hu4 := hr.units
    have hun : (A.deeper (envOfC (Str.ofString "law") (defScope sLaw) s.heap.objs.size f cdv)).units + 65 < cLine := by
      have := hr.un
      omega
    have hu1 : (A.deeper (envOfC (Str.ofString "law") (defScope sLaw) s.heap.objs.size f cdv)).in1.units < cLine := by
      show (A.deeper (envOfC (Str.ofString "law") (defScope sLaw) s.heap.objs.size f cdv)).units + 1 < cLine
      omega
    refine ⟨_, (pss_cons (ps_for PassesOwn.never rfl (pi_range1 rfl T.range (pa_cons (pe_callB (call_max2 rfl) (by rfl) T.max (by decide +kernel) (pa_cons (pe_int) (pa_cons (pe_callB (call_min2 rfl) (by rfl) TM.min (by decide +kernel) (pa_cons (pe_int) (pa_cons (pe_callB call_len_seq (by rfl) T.len PySem.boot_len (pa_cons (pv 0) pa_nil)) pa_nil))) pa_nil))) pa_nil)) (pg_name (i := 1) scL.nd rfl (Or.inl rfl))
        (pss_cons (ps_set (i := 2) scL.nd rfl (Or.inl rfl) (pe_cl CB hr (by decide) (by rfl) (pa_cons (pv 0) (pa_cons (pv 1) pa_nil))))
        (pss_cons (ps_if (pt_not (pt_val (pe_cl CR hr (by decide) (by rfl) (pa_cons (pv 2) pa_nil)))) (pss_one (ps_ret pe_bl)) pss_nil)
        (pss_cons (ps_set (i := 3) scL.nd rfl (Or.inl rfl) (pe_cl CE hr (by decide) (by rfl) (pa_cons (pv 2) (pa_cons (pe_cl CD hr (by decide) (by rfl) (pa_cons (pv 2) (pa_cons (pe_int) pa_nil))) pa_nil))))
        (pss_cons (ps_set (i := 4) scL.nd rfl (Or.inl rfl) (pe_cl CF hr (by decide) (by rfl) (pa_cons (pv 2) (pa_cons (pv 3) pa_nil))))
        (pss_cons (ps_set (i := 5) scL.nd rfl (Or.inl rfl) (pe_cm CT hr (by decide) (pe_glob (v := .ref C) (by rfl) TC.mgT rfl) (pa_cons (pv 4) pa_nil)))
        (pss_cons (ps_if (pw_or (pt_cmpR (op_neD hu4) (pe_cl CL hr (by decide) (by rfl) (pa_cons (pv 4) pa_nil)) (pe_lst pa_nil) (nomark _)) (pw_or (pt_cmpR (op_neD hu4) (pe_pq PF hr (by decide) (pv 5)) (pv 4) (nomark _)) (pw_or (pt_cmpR (op_ne_dictDD hun) (pe_pq PX hr (by decide) (pv 5)) (pe_callTy (call_dictP rfl) (by rfl) TD.dict (by decide +kernel) (pa_cons (pe_callB cr_sortF (by rfl) So.sorted (by decide +kernel) (pa_cons (pv 3) pa_nil)) pa_nil)) (nomark _)) (pw_or (pt_cmpR op_ne (pe_pq PH hr (by decide) (pv 5)) (pe_cl CH hr (by decide) (by rfl) (pa_cons (pv 4) pa_nil)) (nomark _)) (pw_or1 (pt_cmpR (op_neOwn ME hne hmr hr (by decide) hu1) (pv 5) (pe_cm CT hr (by decide) (pe_glob (v := .ref C) (by rfl) TC.mgT rfl) (pa_cons (pv 4) pa_nil)) (nomark _))))))).pt (pss_one (ps_ret pe_bl)) pss_nil)
        (pss_cons (ps_if (pw_or (pt_cmpR (op_ne_dictDD hun) (pe_pq PX hr (by decide) (pe_mq MQ hr (by decide) (by rfl) TC.mgT (pa_cons (pe_callTy call_tuple_of (by rfl) St.tuple (by decide +kernel) (pa_cons (pv 3) pa_nil)) pa_nil))) (pe_pq PX hr (by decide) (pv 5)) (nomark _)) (pw_or (pt_cmpR (op_neD hu4) (pe_cl CL hr (by decide) (by rfl) (pa_cons (pe_pq PF hr (by decide) (pe_mq MQ hr (by decide) (by rfl) TC.mgT (pa_cons (pe_callTy call_tuple_of (by rfl) St.tuple (by decide +kernel) (pa_cons (pv 3) pa_nil)) pa_nil))) pa_nil)) (pe_lst pa_nil) (nomark _)) (pw_or1 (pt_cmpR op_isnot_bl (pe_cl CI hr (by decide) (by rfl) (pa_cons (pv 4) pa_nil)) pe_bl (nomark _))))).pt (pss_one (ps_ret pe_bl)) pss_nil)
        (pss_cons (ps_set (i := 6) scL.nd rfl (Or.inl rfl) (pe_cl CS hr (by decide) (by rfl) (pa_cons (pv 2) (pa_cons (pv 4) pa_nil))))
        (pss_cons (ps_if (pw_or (pt_cmpR (op_neD hu4) (pe_callTy call_list_of (by rfl) T.list (by decide +kernel) (pa_cons (pe_cl CG hr (by decide) (by rfl) (pa_cons (pv 6) pa_nil)) pa_nil)) (pe_cl CL hr (by decide) (by rfl) (pa_cons (pv 6) pa_nil)) (nomark _)) (pw_or1 (pt_cmpR op_ne (pe_cl CI hr (by decide) (by rfl) (pa_cons (pv 6) pa_nil)) (pe_cmpR (op_eqD hu4) (pe_cl CL hr (by decide) (by rfl) (pa_cons (pv 6) pa_nil)) (pe_lst pa_nil) (nomark _)) (nomark _)))).pt (pss_one (ps_ret pe_bl)) pss_nil)
        (pss_one (ps_if (pt_cmpR op_ne (pe_ifExp (pt_cmpR (op_eqD hu4) (pe_cl CL hr (by decide) (by rfl) (pa_cons (pv 6) pa_nil)) (pe_lst pa_nil) (nomark _)) (pe_cmpR (op_eqOwn ME hr (by decide)) (pv 5) (pe_cm CT hr (by decide) (pe_glob (v := .ref C) (by rfl) TC.mgT rfl) (pa_cons (pv 6) pa_nil)) (nomark _)) pe_bl) (pe_cmpR (op_eqD hu4) (pv 6) (pv 4) (nomark _)) (nomark _)) (pss_one (ps_ret pe_bl)) pss_nil))))))))))))
      (pss_one (ps_ret pe_bl))), ?_⟩
    refine ⟨_, rfl, sa, _, rfl, .inl hS, _, _, rfl, _, _, rfl, _, rfl, ?b1, ?b2, for_range (lo := 0) (n := _) (fun i σ H' => Same H0 H' ∧ ∃ r1 r2 r3 r4 r5 r6 : Option V, σ = [some (.ref sa), r1, r2, r3, r4, r5, r6]) ?h0 ?hs ?hd⟩
    case b1 => split <;> split <;> omega
    case b2 => split <;> split <;> omega
    case h0 => exact ⟨Same.refl H0, _, _, _, _, _, _, rfl⟩
    case hd =>
      rintro σ H' ⟨_, r1, r2, r3, r4, r5, r6, rfl⟩
      exact k _
    case hs =>
      rintro i σ H1 hi ⟨s1, r1, r2, r3, r4, r5, r6, rfl⟩
      have hi2 : i < 1000 := by
        have hn : ∀ x : Int, (if (if x < 2 then x else 2) > 1 then (if x < 2 then x else 2) else 1).toNat ≤ 2 := fun x => by split <;> split <;> omega
        exact Nat.lt_of_lt_of_le hi (Nat.le_trans (hn _) (by decide))
      rw [show (0 : Int) + (i : Int) = (i : Int) from Int.zero_add _]
      refine ⟨_, rfl, _, rfl, sa, ns, i, rfl, s1.seq hS, hi2, fun p H2 hp sm hb => ?_⟩
      dsimp only
      refine q_whenG ⟨_, rfl, p, rfl, hb, fun H3 g3 => ⟨true, rfl, ?_⟩⟩
      refine ite2 (fun z => absurd z (by decide)) fun _ => ?_
      have g03 := g3
      refine q_asgQ (go_dentN (j := 2) (p := p) rfl g3.bag fun L xs es H4 nL nL0 g4 hL tL l14 nd ok => ?_)
      have g04 := g03.trans g4
      refine q_asgQ (go_dformN (j := 2) (i := 3) (p := p) (L := L) rfl rfl g04.bag nL hL tL l14 ok fun v n fm H5 g5 x5 ee sz le bo n2 => ?_)
      have g05 := g04.trans g5
      have hL5 := g5.keep _ _ nL hL
      have tL5 := tL.by (g5.tk g04.bag)
      have nde : ((ents n fm).map (·.1)).Nodup := by rw [ee]; exact nd
      have l14e : (ents n fm).length ≤ 300 := by rw [ee]; omega
      have n3 : n ≤ 3 := by omega
      refine q_asgQ (go_told (ed_var rfl x5) bo le sz nde n3 (Ex.refl _) fun a H6 e6 t6 => ?_)
      have g06 := g05.trans (bag_ex e6 g05.bag)
      have x6 := x5.mono e6
      have tL6 := tL5.mono e6
      have pe : (ents n fm).Perm es := by rw [ee]
      refine q_not (et_or (a := false) (b := false) (et_noflaws (ed_var rfl x6) sz le nde n3 l14e) fun _ => et_or (a := false) (b := false) (et_neForm (ed_formP rfl t6) (ed_var rfl x6) n3) fun _ => et_or (a := false) (b := false) (et_boxesS rfl rfl t6 (e6 _ _ hL5) tL6 pe nd) fun _ => et_or (a := false) (b := false) (et_is (et_test (ev_op (ev_hP rfl t6 sz n3) (ev_lht (ed_var rfl x6) sz n3) (rv_ne rfl))) (by rw [decide_eq_true rfl]; rfl)) fun _ => et_neTold rfl t6 (ed_var rfl x6) bo le sz nde n3) fun H7 e7 => ?_
      have e67 := e6.trans e7
      have t7 := t6.mono e7
      have x7 := x6.mono e7
      have tL7 := tL6.mono e7
      refine q_not (et_or (a := false) (b := false) (et_boxesM rfl rfl t7 (e67 _ _ hL5) tL7 pe nd l14 ok) fun _ => et_or (a := false) (b := false) (et_flawsM rfl (e67 _ _ hL5) tL7 nd l14 ok) fun _ => et_isRFform (ed_var rfl x7) bo le sz nde n3 l14e) fun H8 e8 => ?_
      have g08 := g06.trans (bag_ex (e7.trans e8) g06.bag)
      refine q_asgQ ⟨_, rfl, _, rfl, p, n, fm, v, by omega, rfl, g08.bag, x7.mono e8, sizes_thin n fm sz, bo, n2, fun w g H9 g9 tw gk go => ?_⟩
      have t9 := (t7.mono e8).bgd g9 g08.bag
      have x9 := (x7.mono e8).by (g9.tk g08.bag)
      have gt := gK_T (n + 1) g (by omega) gk
      have b8 : 8 ^ (n + 1) ≤ 512 := by
        match n, n2 with
        | 0, _ => decide
        | 1, _ => decide
        | 2, _ => decide
      have b9 : 9 ^ (n + 1) ≤ 729 := by
        match n, n2 with
        | 0, _ => decide
        | 1, _ => decide
        | 2, _ => decide
      have gE := Nat.le_trans (gK_E (n + 1) g gk) b8
      have gPp := Nat.le_trans (gK_P (n + 1) g gk) b8
      have gC := Nat.le_trans (gK_C (n + 1) g gk) b9
      refine q_not (et_or (a := false) (b := false) (et_is (et_test (ev_neLd (ld_new (eds_listT (ed_ffl (ed_var rfl tw) (by omega) gt go (by omega) (by omega)))) (ld_new (eds_lflG (ed_var rfl tw) gt (by omega) (by omega) (by omega))) (shp_flL _ _) (shp_flL _ _))) (by
        rw [SeqAt.eqv_refl _ (SeqAt.canLay_of_shaped (shp_flL _ _))]
        rfl)) fun _ => et_is (et_test (ev_op (ev_isRF (ed_var rfl tw) (by omega) gt go (by omega) (by omega)) (ev_noFl (ed_var rfl tw) gt (by omega) (by omega) (by omega)) (rv_ne rfl))) (by rw [decide_eq_true rfl]; rfl)) fun H10 e10 => ?_
      refine s_when (b := false) (et_last rfl (t9.mono e10) rfl rfl (x9.mono e10) (tw.mono e10) n2 gt go (by omega) (by omega) le sz nde l14e) (fun z => nomatch z) fun _ H11 e11 => ?_
      have gL := (g08.trans g9).trans (bag_ex (e10.trans e11) (g08.trans g9).bag)
      exact ⟨gL.same (s1.trans sm) (s1.free hp), _, _, _, _, _, _, rfl⟩
end
end Q
set_option Elab.async false
set_option linter.all false
set_option maxRecDepth 100000
set_option maxHeartbeats 8000000
namespace Q
open PySem L2 PySem.Spec PyProof.Rows PySem.Calls
theorem fn_none {P : Program} {w : World} {K : PySem.W.Frag} {mg : Str → Option Value} {base : Heap} {f : Addr} {fd : FuncData} {ps : List Str} {sp : Sp} (k : Nat) (no : ∀ vs H Q E, ¬ sp vs H Q E) : FnOk P w K mg base CX0 k f fd ps sp :=
  ⟨fun vs H Q E h => absurd h (no vs H Q E), fun A outer s H args us vs Q E _ _ _ _ h => absurd h (no vs H Q E)⟩
theorem all_mk {l : PySem.W.OpenLaw} {w : World} {K : PySem.W.Frag} {h : Heap} {mg : Str → Option Value} {fa : Addr} (XX : K.In h) (GG : h.Ns mainGlobals mg) (hfa : mg "law" = some (.ref fa))
    {C tD dE : Addr} {ocD : Value} {odD odE : Option Addr} {slD slE : Array (Option Value)} {nD nE : Nat} {tk2 tk4 tk300 : Nat} {pT : Addr} {rT : List Value} {g10 : Addr} {oc10 kV10 dc10 pm10 cd10 ct10 : Value} {od10 an10 : Option Addr} {sl10 : Array (Option Value)} {g12 : Addr} {oc12 kV12 dc12 pm12 cd12 ct12 : Value} {od12 an12 : Option Addr} {sl12 : Array (Option Value)} {g13 : Addr} {oc13 kV13 dc13 pm13 cd13 ct13 : Value} {od13 an13 : Option Addr} {sl13 : Array (Option Value)} {g15 : Addr} {oc15 kV15 dc15 pm15 cd15 ct15 : Value} {od15 an15 : Option Addr} {sl15 : Array (Option Value)} {g19 : Addr} {oc19 kV19 dc19 pm19 cd19 ct19 : Value} {od19 an19 : Option Addr} {sl19 : Array (Option Value)} {g20 : Addr} {oc20 kV20 dc20 pm20 cd20 ct20 : Value} {od20 an20 : Option Addr} {sl20 : Array (Option Value)} {g21 : Addr} {oc21 kV21 dc21 pm21 cd21 ct21 : Value} {od21 an21 : Option Addr} {sl21 : Array (Option Value)} {g22 : Addr} {oc22 kV22 dc22 pm22 cd22 ct22 : Value} {od22 an22 : Option Addr} {sl22 : Array (Option Value)} {g23 : Addr} {oc23 kV23 dc23 pm23 cd23 ct23 : Value} {od23 an23 : Option Addr} {sl23 : Array (Option Value)} {g24 : Addr} {oc24 kV24 dc24 pm24 cd24 ct24 : Value} {od24 an24 : Option Addr} {sl24 : Array (Option Value)} {g25 : Addr} {oc25 kV25 dc25 pm25 cd25 ct25 : Value} {od25 an25 : Option Addr} {sl25 : Array (Option Value)} {g26 : Addr} {oc26 kV26 dc26 pm26 cd26 ct26 : Value} {od26 an26 : Option Addr} {sl26 : Array (Option Value)} {g27 : Addr} {oc27 kV27 dc27 pm27 cd27 ct27 : Value} {od27 an27 : Option Addr} {sl27 : Array (Option Value)} {g28 : Addr} {oc28 kV28 dc28 pm28 cd28 ct28 : Value} {od28 an28 : Option Addr} {sl28 : Array (Option Value)} {g29 : Addr} {oc29 kV29 dc29 pm29 cd29 ct29 : Value} {od29 an29 : Option Addr} {sl29 : Array (Option Value)} {g30 : Addr} {oc30 kV30 dc30 pm30 cd30 ct30 : Value} {od30 an30 : Option Addr} {sl30 : Array (Option Value)} {g38 : Addr} {oc38 kV38 dc38 pm38 cd38 ct38 : Value} {od38 an38 : Option Addr} {sl38 : Array (Option Value)} {g39 : Addr} {oc39 kV39 dc39 pm39 cd39 ct39 : Value} {od39 an39 : Option Addr} {sl39 : Array (Option Value)} {g42 : Addr} {oc42 kV42 dc42 pm42 cd42 ct42 : Value} {od42 an42 : Option Addr} {sl42 : Array (Option Value)} {g43 : Addr} {oc43 kV43 dc43 pm43 cd43 ct43 : Value} {od43 an43 : Option Addr} {sl43 : Array (Option Value)} {g44 : Addr} {oc44 kV44 dc44 pm44 cd44 ct44 : Value} {od44 an44 : Option Addr} {sl44 : Array (Option Value)} {g45 : Addr} {oc45 kV45 dc45 pm45 cd45 ct45 : Value} {od45 an45 : Option Addr} {sl45 : Array (Option Value)} {g46 : Addr} {oc46 kV46 dc46 pm46 cd46 ct46 : Value} {od46 an46 : Option Addr} {sl46 : Array (Option Value)} {g47 : Addr} {oc47 kV47 dc47 pm47 cd47 ct47 : Value} {od47 an47 : Option Addr} {sl47 : Array (Option Value)} {g48 : Addr} {oc48 kV48 dc48 pm48 cd48 ct48 : Value} {od48 an48 : Option Addr} {sl48 : Array (Option Value)} {g49 : Addr} {oc49 kV49 dc49 pm49 cd49 ct49 : Value} {od49 an49 : Option Addr} {sl49 : Array (Option Value)} {g50 : Addr} {oc50 kV50 dc50 pm50 cd50 ct50 : Value} {od50 an50 : Option Addr} {sl50 : Array (Option Value)} {g51 : Addr} {oc51 kV51 dc51 pm51 cd51 ct51 : Value} {od51 an51 : Option Addr} {sl51 : Array (Option Value)} {g52 : Addr} {oc52 kV52 dc52 pm52 cd52 ct52 : Value} {od52 an52 : Option Addr} {sl52 : Array (Option Value)} {g53 : Addr} {oc53 kV53 dc53 pm53 cd53 ct53 : Value} {od53 an53 : Option Addr} {sl53 : Array (Option Value)} {g54 : Addr} {oc54 kV54 dc54 pm54 cd54 ct54 : Value} {od54 an54 : Option Addr} {sl54 : Array (Option Value)} {g55 : Addr} {oc55 kV55 dc55 pm55 cd55 ct55 : Value} {od55 an55 : Option Addr} {sl55 : Array (Option Value)} {g56 : Addr} {oc56 kV56 dc56 pm56 cd56 ct56 : Value} {od56 an56 : Option Addr} {sl56 : Array (Option Value)} {g57 : Addr} {oc57 kV57 dc57 pm57 cd57 ct57 : Value} {od57 an57 : Option Addr} {sl57 : Array (Option Value)} {gMInit : Addr} {ocMInit kVMInit dcMInit pmMInit cdMInit ctMInit : Value} {odMInit anMInit : Option Addr} {slMInit : Array (Option Value)} {gMTake : Addr} {ocMTake kVMTake dcMTake pmMTake cdMTake ctMTake : Value} {odMTake anMTake : Option Addr} {slMTake : Array (Option Value)} {gMTold : Addr} {ocMTold kVMTold dcMTold pmMTold cdMTold ctMTold : Value} {odMTold anMTold : Option Addr} {slMTold : Array (Option Value)} {gMFormP : Addr} {ocMFormP kVMFormP dcMFormP pmMFormP cdMFormP ctMFormP : Value} {odMFormP anMFormP : Option Addr} {slMFormP : Array (Option Value)} {pMFormP : Addr} {rMFormP : List Value} {gMHeight : Addr} {ocMHeight kVMHeight dcMHeight pmMHeight cdMHeight ctMHeight : Value} {odMHeight anMHeight : Option Addr} {slMHeight : Array (Option Value)} {pMHeight : Addr} {rMHeight : List Value} {gMBoxes : Addr} {ocMBoxes kVMBoxes dcMBoxes pmMBoxes cdMBoxes ctMBoxes : Value} {odMBoxes anMBoxes : Option Addr} {slMBoxes : Array (Option Value)} {pMBoxes : Addr} {rMBoxes : List Value} {gMBoxP : Addr} {ocMBoxP kVMBoxP dcMBoxP pmMBoxP cdMBoxP ctMBoxP : Value} {odMBoxP anMBoxP : Option Addr} {slMBoxP : Array (Option Value)} {pMBoxP : Addr} {rMBoxP : List Value} {gMPut : Addr} {ocMPut kVMPut dcMPut pmMPut cdMPut ctMPut : Value} {odMPut anMPut : Option Addr} {slMPut : Array (Option Value)} {gMWout : Addr} {ocMWout kVMWout dcMWout pmMWout cdMWout ctMWout : Value} {odMWout anMWout : Option Addr} {slMWout : Array (Option Value)} {gMMoved : Addr} {ocMMoved kVMMoved dcMMoved pmMMoved cdMMoved ctMMoved : Value} {odMMoved anMMoved : Option Addr} {slMMoved : Array (Option Value)} {gMEntr : Addr} {ocMEntr kVMEntr dcMEntr pmMEntr cdMEntr ctMEntr : Value} {odMEntr anMEntr : Option Addr} {slMEntr : Array (Option Value)} {gMChkT : Addr} {ocMChkT kVMChkT dcMChkT pmMChkT cdMChkT ctMChkT : Value} {odMChkT anMChkT : Option Addr} {slMChkT : Array (Option Value)} {gMCont : Addr} {ocMCont kVMCont dcMCont pmMCont cdMCont ctMCont : Value} {odMCont anMCont : Option Addr} {slMCont : Array (Option Value)} {gMLenT : Addr} {ocMLenT kVMLenT dcMLenT pmMLenT cdMLenT ctMLenT : Value} {odMLenT anMLenT : Option Addr} {slMLenT : Array (Option Value)} {gMIterT : Addr} {ocMIterT kVMIterT dcMIterT pmMIterT cdMIterT ctMIterT : Value} {odMIterT anMIterT : Option Addr} {slMIterT : Array (Option Value)} {gMEqT : Addr} {ocMEqT kVMEqT dcMEqT pmMEqT cdMEqT ctMEqT : Value} {odMEqT anMEqT : Option Addr} {slMEqT : Array (Option Value)} {gMStrT : Addr} {ocMStrT kVMStrT dcMStrT pmMStrT cdMStrT ctMStrT : Value} {odMStrT anMStrT : Option Addr} {slMStrT : Array (Option Value)}
    (aC : PySem.W.nsIn K mainGlobals "Tree" = some (some (.ref C)))
    (pg : PySem.W.plainGet K C Str.empty = true)
    (hd : PySem.W.hasDictIn K C = true)
    (po : PySem.W.plainOver K C = true)
    (sa : PySem.W.findIn K (.ref C) "__setattr__" = some (some (.builtin "object.__setattr__")))
    (nF : PySem.W.findIn K (.ref C) "_form" = some none)
    (nB : PySem.W.findIn K (.ref C) "_boxes" = some none)
    (kC : PySem.W.keepIn K (.ref C) = true)
    (iha : PySem.W.findIn K (.ref C) "__class__" = some (some (.builtin "object.__class__")))
    (ihn : PySem.W.specialIn K (.builtin "object.__class__") "__get__" = some (some (.builtin "getset_descriptor.__get__")))
    (ihtk : PySem.W.takesIn K (.builtin "object.__class__") = some true)
    (ihm : PySem.W.mroIn K C (.type "object") = some true)
    (ime : PySem.W.kitOne K (.ref C) (.ref C) = some true)
    (mk : PySem.W.makesIn K C = true)
    (isq : PySem.W.nsIn K mainGlobals "isqrt" = some (some (.builtin "math.isqrt")))
    (gm : PySem.W.nsIn K mainGlobals "_MOST" = some (some (.int 4 tk4)))
    (gl : PySem.W.nsIn K mainGlobals "_LEAST" = some (some (.int 2 tk2)))
    (gx : PySem.W.nsIn K mainGlobals "MAX_ENTRIES" = some (some (.int 300 tk300)))
    (a10 : PySem.W.nsIn K mainGlobals "is_integer" = some (some (.ref g10)))
    (l10 : K.lookup g10 = some ⟨oc10, od10, .func (PySem.W.fnOf "is_integer" "is_integer" (defArgs sIsInt) (defBody sIsInt) (defScope sIsInt) .none kV10 dc10 pm10 an10 cd10 ct10), sl10⟩)
    (c10d : PySem.W.codeIn K cd10 "is_integer" = true)
    (k10 : PySem.W.keepIn K (.ref g10) = true)
    (a12 : PySem.W.nsIn K mainGlobals "is_box" = some (some (.ref g12)))
    (l12 : K.lookup g12 = some ⟨oc12, od12, .func (PySem.W.fnOf "is_box" "is_box" (defArgs sIsBox) (defBody sIsBox) (defScope sIsBox) .none kV12 dc12 pm12 an12 cd12 ct12), sl12⟩)
    (c12d : PySem.W.codeIn K cd12 "is_box" = true)
    (k12 : PySem.W.keepIn K (.ref g12) = true)
    (a13 : PySem.W.nsIn K mainGlobals "check_boxes" = some (some (.ref g13)))
    (l13 : K.lookup g13 = some ⟨oc13, od13, .func (PySem.W.fnOf "check_boxes" "check_boxes" (defArgs sChkB) (defBody sChkB) (defScope sChkB) .none kV13 dc13 pm13 an13 cd13 ct13), sl13⟩)
    (c13d : PySem.W.codeIn K cd13 "check_boxes" = true)
    (k13 : PySem.W.keepIn K (.ref g13) = true)
    (a15 : PySem.W.nsIn K mainGlobals "box_around" = some (some (.ref g15)))
    (l15 : K.lookup g15 = some ⟨oc15, od15, .func (PySem.W.fnOf "box_around" "box_around" (defArgs sAround) (defBody sAround) (defScope sAround) .none kV15 dc15 pm15 an15 cd15 ct15), sl15⟩)
    (c15d : PySem.W.codeIn K cd15 "box_around" = true)
    (k15 : PySem.W.keepIn K (.ref g15) = true)
    (a19 : PySem.W.nsIn K mainGlobals "is_entry" = some (some (.ref g19)))
    (l19 : K.lookup g19 = some ⟨oc19, od19, .func (PySem.W.fnOf "is_entry" "is_entry" (defArgs sIsEnt) (defBody sIsEnt) (defScope sIsEnt) .none kV19 dc19 pm19 an19 cd19 ct19), sl19⟩)
    (c19d : PySem.W.codeIn K cd19 "is_entry" = true)
    (k19 : PySem.W.keepIn K (.ref g19) = true)
    (a20 : PySem.W.nsIn K mainGlobals "is_built" = some (some (.ref g20)))
    (l20 : K.lookup g20 = some ⟨oc20, od20, .func (PySem.W.fnOf "is_built" "is_built" (defArgs sBuilt) (defBody sBuilt) (defScope sBuilt) .none kV20 dc20 pm20 an20 cd20 ct20), sl20⟩)
    (c20d : PySem.W.codeIn K cd20 "is_built" = true)
    (k20 : PySem.W.keepIn K (.ref g20) = true)
    (a21 : PySem.W.nsIn K mainGlobals "packed" = some (some (.ref g21)))
    (l21 : K.lookup g21 = some ⟨oc21, od21, .func (PySem.W.fnOf "packed" "packed" (defArgs sPacked) (defBody sPacked) (defScope sPacked) .none kV21 dc21 pm21 an21 cd21 ct21), sl21⟩)
    (c21d : PySem.W.codeIn K cd21 "packed" = true)
    (k21 : PySem.W.keepIn K (.ref g21) = true)
    (a22 : PySem.W.nsIn K mainGlobals "entries_of" = some (some (.ref g22)))
    (l22 : K.lookup g22 = some ⟨oc22, od22, .func (PySem.W.fnOf "entries_of" "entries_of" (defArgs sEnts) (defBody sEnts) (defScope sEnts) .none kV22 dc22 pm22 an22 cd22 ct22), sl22⟩)
    (c22d : PySem.W.codeIn K cd22 "entries_of" = true)
    (k22 : PySem.W.keepIn K (.ref g22) = true)
    (a23 : PySem.W.nsIn K mainGlobals "leaf_depths" = some (some (.ref g23)))
    (l23 : K.lookup g23 = some ⟨oc23, od23, .func (PySem.W.fnOf "leaf_depths" "leaf_depths" (defArgs sLeafD) (defBody sLeafD) (defScope sLeafD) .none kV23 dc23 pm23 an23 cd23 ct23), sl23⟩)
    (c23d : PySem.W.codeIn K cd23 "leaf_depths" = true)
    (k23 : PySem.W.keepIn K (.ref g23) = true)
    (a24 : PySem.W.nsIn K mainGlobals "has_least_boxes" = some (some (.ref g24)))
    (l24 : K.lookup g24 = some ⟨oc24, od24, .func (PySem.W.fnOf "has_least_boxes" "has_least_boxes" (defArgs sLeast) (defBody sLeast) (defScope sLeast) .none kV24 dc24 pm24 an24 cd24 ct24), sl24⟩)
    (c24d : PySem.W.codeIn K cd24 "has_least_boxes" = true)
    (k24 : PySem.W.keepIn K (.ref g24) = true)
    (a25 : PySem.W.nsIn K mainGlobals "has_right_sizes" = some (some (.ref g25)))
    (l25 : K.lookup g25 = some ⟨oc25, od25, .func (PySem.W.fnOf "has_right_sizes" "has_right_sizes" (defArgs sSizes) (defBody sSizes) (defScope sSizes) .none kV25 dc25 pm25 an25 cd25 ct25), sl25⟩)
    (c25d : PySem.W.codeIn K cd25 "has_right_sizes" = true)
    (k25 : PySem.W.keepIn K (.ref g25) = true)
    (a26 : PySem.W.nsIn K mainGlobals "_is_branch" = some (some (.ref g26)))
    (l26 : K.lookup g26 = some ⟨oc26, od26, .func (PySem.W.fnOf "_is_branch" "_is_branch" (defArgs sBranch) (defBody sBranch) (defScope sBranch) .none kV26 dc26 pm26 an26 cd26 ct26), sl26⟩)
    (c26d : PySem.W.codeIn K cd26 "_is_branch" = true)
    (k26 : PySem.W.keepIn K (.ref g26) = true)
    (a27 : PySem.W.nsIn K mainGlobals "_is_around" = some (some (.ref g27)))
    (l27 : K.lookup g27 = some ⟨oc27, od27, .func (PySem.W.fnOf "_is_around" "_is_around" (defArgs sIsAr) (defBody sIsAr) (defScope sIsAr) .none kV27 dc27 pm27 an27 cd27 ct27), sl27⟩)
    (c27d : PySem.W.codeIn K cd27 "_is_around" = true)
    (k27 : PySem.W.keepIn K (.ref g27) = true)
    (a28 : PySem.W.nsIn K mainGlobals "_rows_of" = some (some (.ref g28)))
    (l28 : K.lookup g28 = some ⟨oc28, od28, .func (PySem.W.fnOf "_rows_of" "_rows_of" (defArgs sRowsOf) (defBody sRowsOf) (defScope sRowsOf) .none kV28 dc28 pm28 an28 cd28 ct28), sl28⟩)
    (c28d : PySem.W.codeIn K cd28 "_rows_of" = true)
    (k28 : PySem.W.keepIn K (.ref g28) = true)
    (a29 : PySem.W.nsIn K mainGlobals "_in_order" = some (some (.ref g29)))
    (l29 : K.lookup g29 = some ⟨oc29, od29, .func (PySem.W.fnOf "_in_order" "_in_order" (defArgs sInOrd) (defBody sInOrd) (defScope sInOrd) .none kV29 dc29 pm29 an29 cd29 ct29), sl29⟩)
    (c29d : PySem.W.codeIn K cd29 "_in_order" = true)
    (k29 : PySem.W.keepIn K (.ref g29) = true)
    (a30 : PySem.W.nsIn K mainGlobals "_parted" = some (some (.ref g30)))
    (l30 : K.lookup g30 = some ⟨oc30, od30, .func (PySem.W.fnOf "_parted" "_parted" (defArgs sParted) (defBody sParted) (defScope sParted) .none kV30 dc30 pm30 an30 cd30 ct30), sl30⟩)
    (c30d : PySem.W.codeIn K cd30 "_parted" = true)
    (k30 : PySem.W.keepIn K (.ref g30) = true)
    (a38 : PySem.W.nsIn K mainGlobals "is_right_form" = some (some (.ref g38)))
    (l38 : K.lookup g38 = some ⟨oc38, od38, .func (PySem.W.fnOf "is_right_form" "is_right_form" (defArgs sIsRF) (defBody sIsRF) (defScope sIsRF) .none kV38 dc38 pm38 an38 cd38 ct38), sl38⟩)
    (c38d : PySem.W.codeIn K cd38 "is_right_form" = true)
    (k38 : PySem.W.keepIn K (.ref g38) = true)
    (a39 : PySem.W.nsIn K mainGlobals "form_flaws" = some (some (.ref g39)))
    (l39 : K.lookup g39 = some ⟨oc39, od39, .func (PySem.W.fnOf "form_flaws" "form_flaws" (defArgs sFlaws) (defBody sFlaws) (defScope sFlaws) .none kV39 dc39 pm39 an39 cd39 ct39), sl39⟩)
    (c39d : PySem.W.codeIn K cd39 "form_flaws" = true)
    (k39 : PySem.W.keepIn K (.ref g39) = true)
    (a42 : PySem.W.nsIn K mainGlobals "_law_bag" = some (some (.ref g42)))
    (l42 : K.lookup g42 = some ⟨oc42, od42, .func (PySem.W.fnOf "_law_bag" "_law_bag" (defArgs sBag) (defBody sBag) (defScope sBag) .none kV42 dc42 pm42 an42 cd42 ct42), sl42⟩)
    (c42d : PySem.W.codeIn K cd42 "_law_bag" = true)
    (k42 : PySem.W.keepIn K (.ref g42) = true)
    (a43 : PySem.W.nsIn K mainGlobals "_law_draw" = some (some (.ref g43)))
    (l43 : K.lookup g43 = some ⟨oc43, od43, .func (PySem.W.fnOf "_law_draw" "_law_draw" (defArgs sDraw) (defBody sDraw) (defScope sDraw) .none kV43 dc43 pm43 an43 cd43 ct43), sl43⟩)
    (c43d : PySem.W.codeIn K cd43 "_law_draw" = true)
    (k43 : PySem.W.keepIn K (.ref g43) = true)
    (a44 : PySem.W.nsIn K mainGlobals "_law_one_of" = some (some (.ref g44)))
    (l44 : K.lookup g44 = some ⟨oc44, od44, .func (PySem.W.fnOf "_law_one_of" "_law_one_of" (defArgs sOne) (defBody sOne) (defScope sOne) .none kV44 dc44 pm44 an44 cd44 ct44), sl44⟩)
    (c44d : PySem.W.codeIn K cd44 "_law_one_of" = true)
    (k44 : PySem.W.keepIn K (.ref g44) = true)
    (a45 : PySem.W.nsIn K mainGlobals "_law_shuffled" = some (some (.ref g45)))
    (l45 : K.lookup g45 = some ⟨oc45, od45, .func (PySem.W.fnOf "_law_shuffled" "_law_shuffled" (defArgs sShuf) (defBody sShuf) (defScope sShuf) .none kV45 dc45 pm45 an45 cd45 ct45), sl45⟩)
    (c45d : PySem.W.codeIn K cd45 "_law_shuffled" = true)
    (k45 : PySem.W.keepIn K (.ref g45) = true)
    (a46 : PySem.W.nsIn K mainGlobals "_law_boxes_in" = some (some (.ref g46)))
    (l46 : K.lookup g46 = some ⟨oc46, od46, .func (PySem.W.fnOf "_law_boxes_in" "_law_boxes_in" (defArgs sLBoxes) (defBody sLBoxes) (defScope sLBoxes) .none kV46 dc46 pm46 an46 cd46 ct46), sl46⟩)
    (c46d : PySem.W.codeIn K cd46 "_law_boxes_in" = true)
    (k46 : PySem.W.keepIn K (.ref g46) = true)
    (a47 : PySem.W.nsIn K mainGlobals "_law_small_box" = some (some (.ref g47)))
    (l47 : K.lookup g47 = some ⟨oc47, od47, .func (PySem.W.fnOf "_law_small_box" "_law_small_box" (defArgs sSmall) (defBody sSmall) (defScope sSmall) .none kV47 dc47 pm47 an47 cd47 ct47), sl47⟩)
    (c47d : PySem.W.codeIn K cd47 "_law_small_box" = true)
    (k47 : PySem.W.keepIn K (.ref g47) = true)
    (a48 : PySem.W.nsIn K mainGlobals "_law_joint_box" = some (some (.ref g48)))
    (l48 : K.lookup g48 = some ⟨oc48, od48, .func (PySem.W.fnOf "_law_joint_box" "_law_joint_box" (defArgs sLJoint) (defBody sLJoint) (defScope sLJoint) .none kV48 dc48 pm48 an48 cd48 ct48), sl48⟩)
    (c48d : PySem.W.codeIn K cd48 "_law_joint_box" = true)
    (k48 : PySem.W.keepIn K (.ref g48) = true)
    (a49 : PySem.W.nsIn K mainGlobals "_law_entries_in" = some (some (.ref g49)))
    (l49 : K.lookup g49 = some ⟨oc49, od49, .func (PySem.W.fnOf "_law_entries_in" "_law_entries_in" (defArgs sLEnt) (defBody sLEnt) (defScope sLEnt) .none kV49 dc49 pm49 an49 cd49 ct49), sl49⟩)
    (c49d : PySem.W.codeIn K cd49 "_law_entries_in" = true)
    (k49 : PySem.W.keepIn K (.ref g49) = true)
    (a50 : PySem.W.nsIn K mainGlobals "_law_height" = some (some (.ref g50)))
    (l50 : K.lookup g50 = some ⟨oc50, od50, .func (PySem.W.fnOf "_law_height" "_law_height" (defArgs sLHt) (defBody sLHt) (defScope sLHt) .none kV50 dc50 pm50 an50 cd50 ct50), sl50⟩)
    (c50d : PySem.W.codeIn K cd50 "_law_height" = true)
    (k50 : PySem.W.keepIn K (.ref g50) = true)
    (a51 : PySem.W.nsIn K mainGlobals "_law_drawn_entries" = some (some (.ref g51)))
    (l51 : K.lookup g51 = some ⟨oc51, od51, .func (PySem.W.fnOf "_law_drawn_entries" "_law_drawn_entries" (defArgs sDEnt) (defBody sDEnt) (defScope sDEnt) .none kV51 dc51 pm51 an51 cd51 ct51), sl51⟩)
    (c51d : PySem.W.codeIn K cd51 "_law_drawn_entries" = true)
    (k51 : PySem.W.keepIn K (.ref g51) = true)
    (a52 : PySem.W.nsIn K mainGlobals "_law_lots_of" = some (some (.ref g52)))
    (l52 : K.lookup g52 = some ⟨oc52, od52, .func (PySem.W.fnOf "_law_lots_of" "_law_lots_of" (defArgs sLots) (defBody sLots) (defScope sLots) .none kV52 dc52 pm52 an52 cd52 ct52), sl52⟩)
    (c52d : PySem.W.codeIn K cd52 "_law_lots_of" = true)
    (k52 : PySem.W.keepIn K (.ref g52) = true)
    (a53 : PySem.W.nsIn K mainGlobals "_law_drawn_form" = some (some (.ref g53)))
    (l53 : K.lookup g53 = some ⟨oc53, od53, .func (PySem.W.fnOf "_law_drawn_form" "_law_drawn_form" (defArgs sDForm) (defBody sDForm) (defScope sDForm) .none kV53 dc53 pm53 an53 cd53 ct53), sl53⟩)
    (c53d : PySem.W.codeIn K cd53 "_law_drawn_form" = true)
    (k53 : PySem.W.keepIn K (.ref g53) = true)
    (a54 : PySem.W.nsIn K mainGlobals "_law_flaws" = some (some (.ref g54)))
    (l54 : K.lookup g54 = some ⟨oc54, od54, .func (PySem.W.fnOf "_law_flaws" "_law_flaws" (defArgs sLFl) (defBody sLFl) (defScope sLFl) .none kV54 dc54 pm54 an54 cd54 ct54), sl54⟩)
    (c54d : PySem.W.codeIn K cd54 "_law_flaws" = true)
    (k54 : PySem.W.keepIn K (.ref g54) = true)
    (a55 : PySem.W.nsIn K mainGlobals "_law_spoilt" = some (some (.ref g55)))
    (l55 : K.lookup g55 = some ⟨oc55, od55, .func (PySem.W.fnOf "_law_spoilt" "_law_spoilt" (defArgs sSpo) (defBody sSpo) (defScope sSpo) .none kV55 dc55 pm55 an55 cd55 ct55), sl55⟩)
    (c55d : PySem.W.codeIn K cd55 "_law_spoilt" = true)
    (k55 : PySem.W.keepIn K (.ref g55) = true)
    (a56 : PySem.W.nsIn K mainGlobals "_law_right" = some (some (.ref g56)))
    (l56 : K.lookup g56 = some ⟨oc56, od56, .func (PySem.W.fnOf "_law_right" "_law_right" (defArgs sRight) (defBody sRight) (defScope sRight) .none kV56 dc56 pm56 an56 cd56 ct56), sl56⟩)
    (c56d : PySem.W.codeIn K cd56 "_law_right" = true)
    (k56 : PySem.W.keepIn K (.ref g56) = true)
    (a57 : PySem.W.nsIn K mainGlobals "law" = some (some (.ref g57)))
    (l57 : K.lookup g57 = some ⟨oc57, od57, .func (PySem.W.fnOf "law" "law" (defArgs sLaw) (defBody sLaw) (defScope sLaw) .none kV57 dc57 pm57 an57 cd57 ct57), sl57⟩)
    (c57d : PySem.W.codeIn K cd57 "law" = true)
    (k57 : PySem.W.keepIn K (.ref g57) = true)
    (aMInit : PySem.W.findIn K (.ref C) "__init__" = some (some (.ref gMInit)))
    (iMInit : PySem.W.isFn K (.ref gMInit) = true)
    (lMInit : K.lookup gMInit = some ⟨ocMInit, odMInit, .func (PySem.W.fnOf "__init__" "Tree.__init__" (defArgs sInit) (defBody sInit) (defScope sInit) (.ref tD) kVMInit dcMInit pmMInit anMInit cdMInit ctMInit), slMInit⟩)
    (cMInitd : PySem.W.codeIn K cdMInit "Tree.__init__" = true)
    (kMInit : PySem.W.keepIn K (.ref gMInit) = true)
    (aMTake : PySem.W.findIn K (.ref C) "_take_form" = some (some (.ref gMTake)))
    (iMTake : PySem.W.isFn K (.ref gMTake) = true)
    (lMTake : K.lookup gMTake = some ⟨ocMTake, odMTake, .func (PySem.W.fnOf "_take_form" "Tree._take_form" (defArgs sTake) (defBody sTake) (defScope sTake) .none kVMTake dcMTake pmMTake anMTake cdMTake ctMTake), slMTake⟩)
    (cMTaked : PySem.W.codeIn K cdMTake "Tree._take_form" = true)
    (kMTake : PySem.W.keepIn K (.ref gMTake) = true)
    (rd : PySem.W.readsIn K C (.type "type") = true)
    (ga : PySem.W.specialIn K (.ref C) "__getattribute__" = some (some (.builtin "type.__getattribute__")))
    (at_ : PySem.W.findCls K (.ref C) (.type "type") "told" = some (.get (.builtin "classmethod.__get__") (.ref pT) .none (.ref C)))
    (rc : PySem.W.recIn K pT "classmethod" = some (.ref gMTold :: rT))
    (fi : PySem.W.fnIn K gMTold = true)
    (lMTold : K.lookup gMTold = some ⟨ocMTold, odMTold, .func (PySem.W.fnOf "told" "Tree.told" (defArgs sTold) (defBody sTold) (defScope sTold) .none kVMTold dcMTold pmMTold anMTold cdMTold ctMTold), slMTold⟩)
    (cMToldd : PySem.W.codeIn K cdMTold "Tree.told" = true)
    (kMTold : PySem.W.keepIn K (.ref gMTold) = true)
    (atMFormP : PySem.W.findIn K (.ref C) "form" = some (some (.ref pMFormP)))
    (geMFormP : PySem.W.specialIn K (.ref pMFormP) "__get__" = some (some (.builtin "property.__get__")))
    (tkMFormP : PySem.W.takesIn K (.ref pMFormP) = some true)
    (rcMFormP : PySem.W.recIn K pMFormP "property" = some (.ref gMFormP :: rMFormP))
    (lMFormP : K.lookup gMFormP = some ⟨ocMFormP, odMFormP, .func (PySem.W.fnOf "form" "Tree.form" (defArgs sFormP) (defBody sFormP) (defScope sFormP) .none kVMFormP dcMFormP pmMFormP anMFormP cdMFormP ctMFormP), slMFormP⟩)
    (cMFormPd : PySem.W.codeIn K cdMFormP "Tree.form" = true)
    (kMFormP : PySem.W.keepIn K (.ref gMFormP) = true)
    (atMHeight : PySem.W.findIn K (.ref C) "height" = some (some (.ref pMHeight)))
    (geMHeight : PySem.W.specialIn K (.ref pMHeight) "__get__" = some (some (.builtin "property.__get__")))
    (tkMHeight : PySem.W.takesIn K (.ref pMHeight) = some true)
    (rcMHeight : PySem.W.recIn K pMHeight "property" = some (.ref gMHeight :: rMHeight))
    (lMHeight : K.lookup gMHeight = some ⟨ocMHeight, odMHeight, .func (PySem.W.fnOf "height" "Tree.height" (defArgs sHeight) (defBody sHeight) (defScope sHeight) .none kVMHeight dcMHeight pmMHeight anMHeight cdMHeight ctMHeight), slMHeight⟩)
    (cMHeightd : PySem.W.codeIn K cdMHeight "Tree.height" = true)
    (kMHeight : PySem.W.keepIn K (.ref gMHeight) = true)
    (atMBoxes : PySem.W.findIn K (.ref C) "boxes" = some (some (.ref pMBoxes)))
    (geMBoxes : PySem.W.specialIn K (.ref pMBoxes) "__get__" = some (some (.builtin "property.__get__")))
    (tkMBoxes : PySem.W.takesIn K (.ref pMBoxes) = some true)
    (rcMBoxes : PySem.W.recIn K pMBoxes "property" = some (.ref gMBoxes :: rMBoxes))
    (lMBoxes : K.lookup gMBoxes = some ⟨ocMBoxes, odMBoxes, .func (PySem.W.fnOf "boxes" "Tree.boxes" (defArgs sBoxes) (defBody sBoxes) (defScope sBoxes) .none kVMBoxes dcMBoxes pmMBoxes anMBoxes cdMBoxes ctMBoxes), slMBoxes⟩)
    (cMBoxesd : PySem.W.codeIn K cdMBoxes "Tree.boxes" = true)
    (kMBoxes : PySem.W.keepIn K (.ref gMBoxes) = true)
    (atMBoxP : PySem.W.findIn K (.ref C) "box" = some (some (.ref pMBoxP)))
    (geMBoxP : PySem.W.specialIn K (.ref pMBoxP) "__get__" = some (some (.builtin "property.__get__")))
    (tkMBoxP : PySem.W.takesIn K (.ref pMBoxP) = some true)
    (rcMBoxP : PySem.W.recIn K pMBoxP "property" = some (.ref gMBoxP :: rMBoxP))
    (lMBoxP : K.lookup gMBoxP = some ⟨ocMBoxP, odMBoxP, .func (PySem.W.fnOf "box" "Tree.box" (defArgs sBoxP) (defBody sBoxP) (defScope sBoxP) .none kVMBoxP dcMBoxP pmMBoxP anMBoxP cdMBoxP ctMBoxP), slMBoxP⟩)
    (cMBoxPd : PySem.W.codeIn K cdMBoxP "Tree.box" = true)
    (kMBoxP : PySem.W.keepIn K (.ref gMBoxP) = true)
    (aMPut : PySem.W.findIn K (.ref C) "put" = some (some (.ref gMPut)))
    (iMPut : PySem.W.isFn K (.ref gMPut) = true)
    (lMPut : K.lookup gMPut = some ⟨ocMPut, odMPut, .func (PySem.W.fnOf "put" "Tree.put" (defArgs sPut) (defBody sPut) (defScope sPut) .none kVMPut dcMPut pmMPut anMPut cdMPut ctMPut), slMPut⟩)
    (cMPutd : PySem.W.codeIn K cdMPut "Tree.put" = true)
    (kMPut : PySem.W.keepIn K (.ref gMPut) = true)
    (aMWout : PySem.W.findIn K (.ref C) "without" = some (some (.ref gMWout)))
    (iMWout : PySem.W.isFn K (.ref gMWout) = true)
    (lMWout : K.lookup gMWout = some ⟨ocMWout, odMWout, .func (PySem.W.fnOf "without" "Tree.without" (defArgs sWout) (defBody sWout) (defScope sWout) .none kVMWout dcMWout pmMWout anMWout cdMWout ctMWout), slMWout⟩)
    (cMWoutd : PySem.W.codeIn K cdMWout "Tree.without" = true)
    (kMWout : PySem.W.keepIn K (.ref gMWout) = true)
    (aMMoved : PySem.W.findIn K (.ref C) "moved" = some (some (.ref gMMoved)))
    (iMMoved : PySem.W.isFn K (.ref gMMoved) = true)
    (lMMoved : K.lookup gMMoved = some ⟨ocMMoved, odMMoved, .func (PySem.W.fnOf "moved" "Tree.moved" (defArgs sMoved) (defBody sMoved) (defScope sMoved) .none kVMMoved dcMMoved pmMMoved anMMoved cdMMoved ctMMoved), slMMoved⟩)
    (cMMovedd : PySem.W.codeIn K cdMMoved "Tree.moved" = true)
    (kMMoved : PySem.W.keepIn K (.ref gMMoved) = true)
    (aMEntr : PySem.W.findIn K (.ref C) "_entries" = some (some (.ref gMEntr)))
    (iMEntr : PySem.W.isFn K (.ref gMEntr) = true)
    (lMEntr : K.lookup gMEntr = some ⟨ocMEntr, odMEntr, .func (PySem.W.fnOf "_entries" "Tree._entries" (defArgs sEntr) (defBody sEntr) (defScope sEntr) .none kVMEntr dcMEntr pmMEntr anMEntr cdMEntr ctMEntr), slMEntr⟩)
    (cMEntrd : PySem.W.codeIn K cdMEntr "Tree._entries" = true)
    (kMEntr : PySem.W.keepIn K (.ref gMEntr) = true)
    (aMChkT : PySem.W.findIn K (.ref C) "_check_there" = some (some (.ref gMChkT)))
    (iMChkT : PySem.W.isFn K (.ref gMChkT) = true)
    (lMChkT : K.lookup gMChkT = some ⟨ocMChkT, odMChkT, .func (PySem.W.fnOf "_check_there" "Tree._check_there" (defArgs sChkT) (defBody sChkT) (defScope sChkT) .none kVMChkT dcMChkT pmMChkT anMChkT cdMChkT ctMChkT), slMChkT⟩)
    (cMChkTd : PySem.W.codeIn K cdMChkT "Tree._check_there" = true)
    (kMChkT : PySem.W.keepIn K (.ref gMChkT) = true)
    (aMCont : PySem.W.findIn K (.ref C) "__contains__" = some (some (.ref gMCont)))
    (iMCont : PySem.W.isFn K (.ref gMCont) = true)
    (lMCont : K.lookup gMCont = some ⟨ocMCont, odMCont, .func (PySem.W.fnOf "__contains__" "Tree.__contains__" (defArgs sCont) (defBody sCont) (defScope sCont) .none kVMCont dcMCont pmMCont anMCont cdMCont ctMCont), slMCont⟩)
    (cMContd : PySem.W.codeIn K cdMCont "Tree.__contains__" = true)
    (kMCont : PySem.W.keepIn K (.ref gMCont) = true)
    (aMLenT : PySem.W.findIn K (.ref C) "__len__" = some (some (.ref gMLenT)))
    (iMLenT : PySem.W.isFn K (.ref gMLenT) = true)
    (lMLenT : K.lookup gMLenT = some ⟨ocMLenT, odMLenT, .func (PySem.W.fnOf "__len__" "Tree.__len__" (defArgs sLenT) (defBody sLenT) (defScope sLenT) .none kVMLenT dcMLenT pmMLenT anMLenT cdMLenT ctMLenT), slMLenT⟩)
    (cMLenTd : PySem.W.codeIn K cdMLenT "Tree.__len__" = true)
    (kMLenT : PySem.W.keepIn K (.ref gMLenT) = true)
    (aMIterT : PySem.W.findIn K (.ref C) "__iter__" = some (some (.ref gMIterT)))
    (iMIterT : PySem.W.isFn K (.ref gMIterT) = true)
    (lMIterT : K.lookup gMIterT = some ⟨ocMIterT, odMIterT, .func (PySem.W.fnOf "__iter__" "Tree.__iter__" (defArgs sIterT) (defBody sIterT) (defScope sIterT) .none kVMIterT dcMIterT pmMIterT anMIterT cdMIterT ctMIterT), slMIterT⟩)
    (cMIterTd : PySem.W.codeIn K cdMIterT "Tree.__iter__" = true)
    (kMIterT : PySem.W.keepIn K (.ref gMIterT) = true)
    (aMEqT : PySem.W.findIn K (.ref C) "__eq__" = some (some (.ref gMEqT)))
    (iMEqT : PySem.W.isFn K (.ref gMEqT) = true)
    (lMEqT : K.lookup gMEqT = some ⟨ocMEqT, odMEqT, .func (PySem.W.fnOf "__eq__" "Tree.__eq__" (defArgs sEqT) (defBody sEqT) (defScope sEqT) .none kVMEqT dcMEqT pmMEqT anMEqT cdMEqT ctMEqT), slMEqT⟩)
    (cMEqTd : PySem.W.codeIn K cdMEqT "Tree.__eq__" = true)
    (kMEqT : PySem.W.keepIn K (.ref gMEqT) = true)
    (aMStrT : PySem.W.findIn K (.ref C) "__str__" = some (some (.ref gMStrT)))
    (iMStrT : PySem.W.isFn K (.ref gMStrT) = true)
    (lMStrT : K.lookup gMStrT = some ⟨ocMStrT, odMStrT, .func (PySem.W.fnOf "__str__" "Tree.__str__" (defArgs sStrT) (defBody sStrT) (defScope sStrT) .none kVMStrT dcMStrT pmMStrT anMStrT cdMStrT ctMStrT), slMStrT⟩)
    (cMStrTd : PySem.W.codeIn K cdMStrT "Tree.__str__" = true)
    (kMStrT : PySem.W.keepIn K (.ref gMStrT) = true)
    (hne : PySem.W.findIn K (.ref C) "__ne__" = some (some (.builtin "object.__ne__")))
    (lD : K.lookup tD = some ⟨ocD, odD, .seq (#[.ref dE] : Array Value) nD, slD⟩)
    (lE : K.lookup dE = some ⟨.type "tuple", odE, .seq (#[] : Array Value) nE, slE⟩)
    (z_dict : PySem.W.nsIn K mainGlobals "dict" = some none)
    (z_len : PySem.W.nsIn K mainGlobals "len" = some none)
    (z_sum : PySem.W.nsIn K mainGlobals "sum" = some none)
    (z_int : PySem.W.nsIn K mainGlobals "int" = some none)
    (z_abs : PySem.W.nsIn K mainGlobals "abs" = some none)
    (z_max : PySem.W.nsIn K mainGlobals "max" = some none)
    (z_range : PySem.W.nsIn K mainGlobals "range" = some none)
    (z_list : PySem.W.nsIn K mainGlobals "list" = some none)
    (z_isinstance : PySem.W.nsIn K mainGlobals "isinstance" = some none)
    (z_bool : PySem.W.nsIn K mainGlobals "bool" = some none)
    (z_tuple : PySem.W.nsIn K mainGlobals "tuple" = some none)
    (z_all : PySem.W.nsIn K mainGlobals "all" = some none)
    (z_min : PySem.W.nsIn K mainGlobals "min" = some none)
    (z_set : PySem.W.nsIn K mainGlobals "set" = some none)
    (z_sorted : PySem.W.nsIn K mainGlobals "sorted" = some none)
    (z_enumerate : PySem.W.nsIn K mainGlobals "enumerate" = some none)
    (z_zip : PySem.W.nsIn K mainGlobals "zip" = some none)
    (z_iter : PySem.W.nsIn K mainGlobals "iter" = some none)
    (z_str : PySem.W.nsIn K mainGlobals "str" = some none)
    : ∃ fd : FuncData, (∀ (s : Shared) (v : Value), BindsTo s fd ⟨[v], []⟩ [("script", v)]) ∧ ∀ base : Heap, K.In base → base.Ns mainGlobals mg → FnOk l.prog w K mg base CX0 16 fa fd ["script"] (spLaw K) := by
  have e := hfa.symm.trans (PySem.W.mg_of XX GG a57)
  cases e
  have mgn : ∀ {x : Str}, PySem.W.nsIn K mainGlobals x = some none → mg x = none := fun e => PySem.W.mg_none_of XX GG e
  have TB1 : TB mg := ⟨mgn z_len, mgn z_sum, mgn z_int, mgn z_abs, mgn z_max, mgn z_range, mgn z_list⟩
  have TI1 : TI mg := ⟨mgn z_isinstance, mgn z_int, mgn z_bool, mgn z_tuple, mgn z_len⟩
  have TA1 : TAl mg := ⟨mgn z_all⟩
  have TM1 : TMm mg := ⟨mgn z_min, mgn z_max⟩
  have TG1 : TGl mg := ⟨⟨_, PySem.W.mg_of XX GG gm⟩, ⟨_, PySem.W.mg_of XX GG gl⟩, ⟨_, PySem.W.mg_of XX GG gx⟩⟩
  have TSt1 : TSt mg := ⟨mgn z_set, mgn z_len, mgn z_tuple⟩
  have TSo1 : TSo mg := ⟨mgn z_sorted, mgn z_enumerate, mgn z_zip⟩
  have TSq1 : TSq mg := ⟨PySem.W.mg_of XX GG isq⟩
  have CL1 : Cls K C := ⟨pg, hd, po, sa⟩
  have TC1 : TrC K mg C := ⟨CL1, nF, nB, PySem.W.mg_of XX GG aC, kC, ⟨CL1, iha, ihn, ihtk, ihm, ime⟩⟩
  have em : EmE K dE := ⟨fun H => .inr ⟨_, _, _, lE, rfl, rfl, by decide, .nil⟩, fun H => .kTuple lE rfl⟩
  have F10_ := fun_mk (st := sIsInt) l10 c10d k10
  have g10_ := PySem.W.mg_of XX GG a10
  have b10_ := F10_.binds (ps := ["value"]) fun _ _ _ _ _ _ us hl => match us, hl with | [_], _ => rfl
  have F12_ := fun_mk (st := sIsBox) l12 c12d k12
  have g12_ := PySem.W.mg_of XX GG a12
  have b12_ := F12_.binds (ps := ["value"]) fun _ _ _ _ _ _ us hl => match us, hl with | [_], _ => rfl
  have F13_ := fun_mk (st := sChkB) l13 c13d k13
  have g13_ := PySem.W.mg_of XX GG a13
  have F15_ := fun_mk (st := sAround) l15 c15d k15
  have g15_ := PySem.W.mg_of XX GG a15
  have b15_ := F15_.binds (ps := ["boxes"]) fun _ _ _ _ _ _ us hl => match us, hl with | [_], _ => rfl
  have F19_ := fun_mk (st := sIsEnt) l19 c19d k19
  have g19_ := PySem.W.mg_of XX GG a19
  have b19_ := F19_.binds (ps := ["value"]) fun _ _ _ _ _ _ us hl => match us, hl with | [_], _ => rfl
  have F20_ := fun_mk (st := sBuilt) l20 c20d k20
  have g20_ := PySem.W.mg_of XX GG a20
  have b20_ := F20_.binds (ps := ["value"]) fun _ _ _ _ _ _ us hl => match us, hl with | [_], _ => rfl
  have F21_ := fun_mk (st := sPacked) l21 c21d k21
  have g21_ := PySem.W.mg_of XX GG a21
  have b21_ := F21_.binds (ps := ["entries"]) fun _ _ _ _ _ _ us hl => match us, hl with | [_], _ => rfl
  have F22_ := fun_mk (st := sEnts) l22 c22d k22
  have g22_ := PySem.W.mg_of XX GG a22
  have b22_ := F22_.binds (ps := ["form"]) fun _ _ _ _ _ _ us hl => match us, hl with | [_], _ => rfl
  have F23_ := fun_mk (st := sLeafD) l23 c23d k23
  have g23_ := PySem.W.mg_of XX GG a23
  have b23_ := F23_.binds (ps := ["form"]) fun _ _ _ _ _ _ us hl => match us, hl with | [_], _ => rfl
  have F24_ := fun_mk (st := sLeast) l24 c24d k24
  have g24_ := PySem.W.mg_of XX GG a24
  have b24_ := F24_.binds (ps := ["form"]) fun _ _ _ _ _ _ us hl => match us, hl with | [_], _ => rfl
  have F25_ := fun_mk (st := sSizes) l25 c25d k25
  have g25_ := PySem.W.mg_of XX GG a25
  have b25_ := F25_.binds (ps := ["form"]) fun _ _ _ _ _ _ us hl => match us, hl with | [_], _ => rfl
  have F26_ := fun_mk (st := sBranch) l26 c26d k26
  have g26_ := PySem.W.mg_of XX GG a26
  have b26_ := F26_.binds (ps := ["value"]) fun _ _ _ _ _ _ us hl => match us, hl with | [_], _ => rfl
  have F27_ := fun_mk (st := sIsAr) l27 c27d k27
  have g27_ := PySem.W.mg_of XX GG a27
  have b27_ := F27_.binds (ps := ["box", "form"]) fun _ _ _ _ _ _ us hl => match us, hl with | [_, _], _ => rfl
  have F28_ := fun_mk (st := sRowsOf) l28 c28d k28
  have g28_ := PySem.W.mg_of XX GG a28
  have b28_ := F28_.binds (ps := ["pairs"]) fun _ _ _ _ _ _ us hl => match us, hl with | [_], _ => rfl
  have F29_ := fun_mk (st := sInOrd) l29 c29d k29
  have g29_ := PySem.W.mg_of XX GG a29
  have b29_ := F29_.binds (ps := ["pairs", "axis"]) fun _ _ _ _ _ _ us hl => match us, hl with | [_, _], _ => rfl
  have F30_ := fun_mk (st := sParted) l30 c30d k30
  have g30_ := PySem.W.mg_of XX GG a30
  have b30_ := F30_.binds (ps := ["pairs", "count"]) fun _ _ _ _ _ _ us hl => match us, hl with | [_, _], _ => rfl
  have F38_ := fun_mk (st := sIsRF) l38 c38d k38
  have g38_ := PySem.W.mg_of XX GG a38
  have b38_ := F38_.binds (ps := ["value"]) fun _ _ _ _ _ _ us hl => match us, hl with | [_], _ => rfl
  have F39_ := fun_mk (st := sFlaws) l39 c39d k39
  have g39_ := PySem.W.mg_of XX GG a39
  have b39_ := F39_.binds (ps := ["value"]) fun _ _ _ _ _ _ us hl => match us, hl with | [_], _ => rfl
  have F42_ := fun_mk (st := sBag) l42 c42d k42
  have g42_ := PySem.W.mg_of XX GG a42
  have b42_ := F42_.binds (ps := ["script", "at"]) fun _ _ _ _ _ _ us hl => match us, hl with | [_, _], _ => rfl
  have F43_ := fun_mk (st := sDraw) l43 c43d k43
  have g43_ := PySem.W.mg_of XX GG a43
  have b43_ := F43_.binds (ps := ["bag", "total"]) fun _ _ _ _ _ _ us hl => match us, hl with | [_, _], _ => rfl
  have F44_ := fun_mk (st := sOne) l44 c44d k44
  have g44_ := PySem.W.mg_of XX GG a44
  have b44_ := F44_.binds (ps := ["bag", "items"]) fun _ _ _ _ _ _ us hl => match us, hl with | [_, _], _ => rfl
  have F45_ := fun_mk (st := sShuf) l45 c45d k45
  have g45_ := PySem.W.mg_of XX GG a45
  have b45_ := F45_.binds (ps := ["bag", "items"]) fun _ _ _ _ _ _ us hl => match us, hl with | [_, _], _ => rfl
  have F46_ := fun_mk (st := sLBoxes) l46 c46d k46
  have g46_ := PySem.W.mg_of XX GG a46
  have b46_ := F46_.binds (ps := ["form"]) fun _ _ _ _ _ _ us hl => match us, hl with | [_], _ => rfl
  have F47_ := fun_mk (st := sSmall) l47 c47d k47
  have g47_ := PySem.W.mg_of XX GG a47
  have b47_ := F47_.binds (ps := ["bag"]) fun _ _ _ _ _ _ us hl => match us, hl with | [_], _ => rfl
  have F48_ := fun_mk (st := sLJoint) l48 c48d k48
  have g48_ := PySem.W.mg_of XX GG a48
  have b48_ := F48_.binds (ps := ["boxes"]) fun _ _ _ _ _ _ us hl => match us, hl with | [_], _ => rfl
  have F49_ := fun_mk (st := sLEnt) l49 c49d k49
  have g49_ := PySem.W.mg_of XX GG a49
  have b49_ := F49_.binds (ps := ["form"]) fun _ _ _ _ _ _ us hl => match us, hl with | [_], _ => rfl
  have F50_ := fun_mk (st := sLHt) l50 c50d k50
  have g50_ := PySem.W.mg_of XX GG a50
  have b50_ := F50_.binds (ps := ["form"]) fun _ _ _ _ _ _ us hl => match us, hl with | [_], _ => rfl
  have F51_ := fun_mk (st := sDEnt) l51 c51d k51
  have g51_ := PySem.W.mg_of XX GG a51
  have b51_ := F51_.binds (ps := ["bag", "size"]) fun _ _ _ _ _ _ us hl => match us, hl with | [_, _], _ => rfl
  have F52_ := fun_mk (st := sLots) l52 c52d k52
  have g52_ := PySem.W.mg_of XX GG a52
  have b52_ := F52_.binds (ps := ["bag", "items"]) fun _ _ _ _ _ _ us hl => match us, hl with | [_, _], _ => rfl
  have F53_ := fun_mk (st := sDForm) l53 c53d k53
  have g53_ := PySem.W.mg_of XX GG a53
  have b53_ := F53_.binds (ps := ["bag", "entries"]) fun _ _ _ _ _ _ us hl => match us, hl with | [_, _], _ => rfl
  have F54_ := fun_mk (st := sLFl) l54 c54d k54
  have g54_ := PySem.W.mg_of XX GG a54
  have b54_ := F54_.binds (ps := ["form"]) fun _ _ _ _ _ _ us hl => match us, hl with | [_], _ => rfl
  have F55_ := fun_mk (st := sSpo) l55 c55d k55
  have g55_ := PySem.W.mg_of XX GG a55
  have b55_ := F55_.binds (ps := ["bag", "form"]) fun _ _ _ _ _ _ us hl => match us, hl with | [_, _], _ => rfl
  have F56_ := fun_mk (st := sRight) l56 c56d k56
  have g56_ := PySem.W.mg_of XX GG a56
  have b56_ := F56_.binds (ps := ["bag"]) fun _ _ _ _ _ _ us hl => match us, hl with | [_], _ => rfl
  have F57_ := fun_mk (st := sLaw) l57 c57d k57
  have g57_ := PySem.W.mg_of XX GG a57
  have b57_ := F57_.binds (ps := ["script"]) fun _ _ _ _ _ _ us hl => match us, hl with | [_], _ => rfl
  have FInit_ : FunD K "__init__" "Tree.__init__" (defArgs sInit) (defBody sInit) (defScope sInit) [.ref dE] [] gMInit _ := ⟨⟨_, _, _, _, _, _, _, _, _, _, rfl, lMInit, cMInitd, .inr ⟨(fun z => nomatch z), tD, _, [.ref dE], nD, rfl, lD, rfl, .cons rfl .nil⟩, .inl rfl⟩, kMInit⟩
  obtain ⟨ds0, vd0, bI0⟩ := FInit_.binds1 (ps := ["self", "entries"]) 1 0 (fun z => nomatch z) (by rfl) fun _ _ _ _ _ _ _ us its hl hi => match us, its, hl, hi with | [_], [_], _, _ => ⟨_, rfl, rfl⟩
  obtain ⟨ds1, vd1, bI1⟩ := FInit_.binds1 (ps := ["self", "entries"]) 2 1 (fun z => nomatch z) (by rfl) fun _ _ _ _ _ _ _ us its hl hi => match us, its, hl, hi with | [_, _], [_], _, _ => ⟨_, rfl, rfl⟩
  have FMTake_ := fun_mk (st := sTake) lMTake cMTaked kMTake
  have bMTake_ := FMTake_.binds (ps := ["self", "form"]) fun _ _ _ _ _ _ us hl => match us, hl with | [_, _], _ => rfl
  have FMTold_ := fun_mk (st := sTold) lMTold cMToldd kMTold
  have bMTold_ := FMTold_.binds (ps := ["cls", "form"]) fun _ _ _ _ _ _ us hl => match us, hl with | [_, _], _ => rfl
  have FMFormP_ := fun_mk (st := sFormP) lMFormP cMFormPd kMFormP
  have bMFormP_ := FMFormP_.binds (ps := ["self"]) fun _ _ _ _ _ _ us hl => match us, hl with | [_], _ => rfl
  have FMHeight_ := fun_mk (st := sHeight) lMHeight cMHeightd kMHeight
  have bMHeight_ := FMHeight_.binds (ps := ["self"]) fun _ _ _ _ _ _ us hl => match us, hl with | [_], _ => rfl
  have FMBoxes_ := fun_mk (st := sBoxes) lMBoxes cMBoxesd kMBoxes
  have bMBoxes_ := FMBoxes_.binds (ps := ["self"]) fun _ _ _ _ _ _ us hl => match us, hl with | [_], _ => rfl
  have FMBoxP_ := fun_mk (st := sBoxP) lMBoxP cMBoxPd kMBoxP
  have bMBoxP_ := FMBoxP_.binds (ps := ["self"]) fun _ _ _ _ _ _ us hl => match us, hl with | [_], _ => rfl
  have FMPut_ := fun_mk (st := sPut) lMPut cMPutd kMPut
  have bMPut_ := FMPut_.binds (ps := ["self", "number", "box"]) fun _ _ _ _ _ _ us hl => match us, hl with | [_, _, _], _ => rfl
  have FMWout_ := fun_mk (st := sWout) lMWout cMWoutd kMWout
  have bMWout_ := FMWout_.binds (ps := ["self", "number"]) fun _ _ _ _ _ _ us hl => match us, hl with | [_, _], _ => rfl
  have FMMoved_ := fun_mk (st := sMoved) lMMoved cMMovedd kMMoved
  have bMMoved_ := FMMoved_.binds (ps := ["self", "number", "box"]) fun _ _ _ _ _ _ us hl => match us, hl with | [_, _, _], _ => rfl
  have FMEntr_ := fun_mk (st := sEntr) lMEntr cMEntrd kMEntr
  have bMEntr_ := FMEntr_.binds (ps := ["self"]) fun _ _ _ _ _ _ us hl => match us, hl with | [_], _ => rfl
  have FMChkT_ := fun_mk (st := sChkT) lMChkT cMChkTd kMChkT
  have bMChkT_ := FMChkT_.binds (ps := ["self", "number"]) fun _ _ _ _ _ _ us hl => match us, hl with | [_, _], _ => rfl
  have FMCont_ := fun_mk (st := sCont) lMCont cMContd kMCont
  have bMCont_ := FMCont_.binds (ps := ["self", "value"]) fun _ _ _ _ _ _ us hl => match us, hl with | [_, _], _ => rfl
  have FMLenT_ := fun_mk (st := sLenT) lMLenT cMLenTd kMLenT
  have bMLenT_ := FMLenT_.binds (ps := ["self"]) fun _ _ _ _ _ _ us hl => match us, hl with | [_], _ => rfl
  have FMIterT_ := fun_mk (st := sIterT) lMIterT cMIterTd kMIterT
  have bMIterT_ := FMIterT_.binds (ps := ["self"]) fun _ _ _ _ _ _ us hl => match us, hl with | [_], _ => rfl
  have FMEqT_ := fun_mk (st := sEqT) lMEqT cMEqTd kMEqT
  have bMEqT_ := FMEqT_.binds (ps := ["self", "other"]) fun _ _ _ _ _ _ us hl => match us, hl with | [_, _], _ => rfl
  have FMStrT_ := fun_mk (st := sStrT) lMStrT cMStrTd kMStrT
  have bMStrT_ := FMStrT_.binds (ps := ["self"]) fun _ _ _ _ _ _ us hl => match us, hl with | [_], _ => rfl
  refine ⟨PySem.W.fnOf "law" "law" (defArgs sLaw) (defBody sLaw) (defScope sLaw) .none kV57 dc57 pm57 an57 cd57 ct57, fun s v => .of_eq rfl, fun base _ _ => ?_⟩
  have K1 : Cl l.prog w K mg base 1 "is_integer" _ := ⟨⟨_, _, _, ok_isint F10_ TI1, g10_, k10, b10_⟩⟩
  have K2 : Cl l.prog w K mg base 2 "is_box" _ := ⟨⟨_, _, _, ok_isbox F12_ TI1 TA1 K1, g12_, k12, b12_⟩⟩
  have K3 : Cl l.prog w K mg base 3 "is_entry" _ := ⟨⟨_, _, _, ok_isent F19_ TI1 K1 K2, g19_, k19, b19_⟩⟩
  have K4 : Cl l.prog w K mg base 1 "box_around" _ := ⟨⟨_, _, _, ok_around F15_ TM1, g15_, k15, b15_⟩⟩
  have K5 : Cl l.prog w K mg base 0 "entries_of" (spEntsG 0) := ⟨⟨_, _, _, fn_none (f := g22) 0 (fun _ _ _ _ h => by obtain ⟨n, f, v, hn, _⟩ := h; have z := Nat.le_zero.mp hn; subst z; exact nomatch (show Empty from f)), g22_, k22, b22_⟩⟩
  have K6 : Cl l.prog w K mg base 1 "entries_of" (spEntsG 1) := ⟨⟨_, _, _, ok_entsG F22_ TB1 K5, g22_, k22, b22_⟩⟩
  have K7 : Cl l.prog w K mg base 2 "entries_of" (spEntsG 2) := ⟨⟨_, _, _, ok_entsG F22_ TB1 K6, g22_, k22, b22_⟩⟩
  have K8 : Cl l.prog w K mg base 3 "entries_of" (spEntsG 3) := ⟨⟨_, _, _, ok_entsG F22_ TB1 K7, g22_, k22, b22_⟩⟩
  have K9 : Cl l.prog w K mg base 4 "entries_of" (spEntsG 4) := ⟨⟨_, _, _, ok_entsG F22_ TB1 K8, g22_, k22, b22_⟩⟩
  have K10 : Cl l.prog w K mg base 4 "entries_of" (spEnts 4) := K9.imp ents_of_G
  have K11 : Cl l.prog w K mg base 0 "leaf_depths" (spLeafG 0) := ⟨⟨_, _, _, fn_none (f := g23) 0 (fun _ _ _ _ h => by obtain ⟨n, f, v, hn, _⟩ := h; have z := Nat.le_zero.mp hn; subst z; exact nomatch (show Empty from f)), g23_, k23, b23_⟩⟩
  have K12 : Cl l.prog w K mg base 1 "leaf_depths" (spLeafG 1) := ⟨⟨_, _, _, ok_leafG F23_ K11, g23_, k23, b23_⟩⟩
  have K13 : Cl l.prog w K mg base 2 "leaf_depths" (spLeafG 2) := ⟨⟨_, _, _, ok_leafG F23_ K12, g23_, k23, b23_⟩⟩
  have K14 : Cl l.prog w K mg base 3 "leaf_depths" (spLeafG 3) := ⟨⟨_, _, _, ok_leafG F23_ K13, g23_, k23, b23_⟩⟩
  have K15 : Cl l.prog w K mg base 4 "leaf_depths" (spLeafG 4) := ⟨⟨_, _, _, ok_leafG F23_ K14, g23_, k23, b23_⟩⟩
  have K16 : Cl l.prog w K mg base 4 "leaf_depths" (spLeafD 4) := K15.imp leaf_of_G
  have K17 : Cl l.prog w K mg base 4 "is_built" (spBuiltG 0) := ⟨⟨_, _, _, fn_none (f := g20) 4 (fun _ _ _ _ h => by obtain ⟨n, f, v, hn, _⟩ := h; have z := Nat.le_zero.mp hn; subst z; exact nomatch (show Empty from f)), g20_, k20, b20_⟩⟩
  have K18 : Cl l.prog w K mg base 5 "_is_branch" _ := ⟨⟨_, _, _, ok_branchG (m := 0) F26_ TI1 K2 K17, g26_, k26, b26_⟩⟩
  have K19 : Cl l.prog w K mg base 6 "is_built" _ := ⟨⟨_, _, _, ok_builtG (m := 0) F20_ TI1 TA1 K3 K18, g20_, k20, b20_⟩⟩
  have K20 : Cl l.prog w K mg base 7 "_is_branch" _ := ⟨⟨_, _, _, ok_branchG (m := 1) F26_ TI1 K2 K19, g26_, k26, b26_⟩⟩
  have K21 : Cl l.prog w K mg base 8 "is_built" _ := ⟨⟨_, _, _, ok_builtG (m := 1) F20_ TI1 TA1 K3 K20, g20_, k20, b20_⟩⟩
  have K22 : Cl l.prog w K mg base 9 "_is_branch" _ := ⟨⟨_, _, _, ok_branchG (m := 2) F26_ TI1 K2 K21, g26_, k26, b26_⟩⟩
  have K23 : Cl l.prog w K mg base 10 "is_built" _ := ⟨⟨_, _, _, ok_builtG (m := 2) F20_ TI1 TA1 K3 K22, g20_, k20, b20_⟩⟩
  have K24 : Cl l.prog w K mg base 11 "_is_branch" _ := ⟨⟨_, _, _, ok_branchG (m := 3) F26_ TI1 K2 K23, g26_, k26, b26_⟩⟩
  have K25 : Cl l.prog w K mg base 12 "is_built" _ := ⟨⟨_, _, _, ok_builtG (m := 3) F20_ TI1 TA1 K3 K24, g20_, k20, b20_⟩⟩
  have K26 : Cl l.prog w K mg base 3 "has_least_boxes" (spLeastG 0) := ⟨⟨_, _, _, fn_none (f := g24) 3 (fun _ _ _ _ h => by obtain ⟨n, f, v, hn, _⟩ := h; have z := Nat.le_zero.mp hn; subst z; exact nomatch (show Empty from f)), g24_, k24, b24_⟩⟩
  have K27 : Cl l.prog w K mg base 2 "_is_around" _ := ⟨⟨_, _, _, ok_isarG (m := 0) F27_ TI1 K5 K4, g27_, k27, b27_⟩⟩
  have K28 : Cl l.prog w K mg base 4 "has_least_boxes" _ := ⟨⟨_, _, _, ok_leastG (m := 0) F24_ TA1 K27 K26, g24_, k24, b24_⟩⟩
  have K29 : Cl l.prog w K mg base 3 "_is_around" _ := ⟨⟨_, _, _, ok_isarG (m := 1) F27_ TI1 K6 K4, g27_, k27, b27_⟩⟩
  have K30 : Cl l.prog w K mg base 5 "has_least_boxes" _ := ⟨⟨_, _, _, ok_leastG (m := 1) F24_ TA1 K29 K28, g24_, k24, b24_⟩⟩
  have K31 : Cl l.prog w K mg base 4 "_is_around" _ := ⟨⟨_, _, _, ok_isarG (m := 2) F27_ TI1 K7 K4, g27_, k27, b27_⟩⟩
  have K32 : Cl l.prog w K mg base 6 "has_least_boxes" _ := ⟨⟨_, _, _, ok_leastG (m := 2) F24_ TA1 K31 K30, g24_, k24, b24_⟩⟩
  have K33 : Cl l.prog w K mg base 5 "_is_around" _ := ⟨⟨_, _, _, ok_isarG (m := 3) F27_ TI1 K8 K4, g27_, k27, b27_⟩⟩
  have K34 : Cl l.prog w K mg base 7 "has_least_boxes" _ := ⟨⟨_, _, _, ok_leastG (m := 3) F24_ TA1 K33 K32, g24_, k24, b24_⟩⟩
  have K35 : Cl l.prog w K mg base 0 "has_right_sizes" (spSizesG 0) := ⟨⟨_, _, _, fn_none (f := g25) 0 (fun _ _ _ _ h => by obtain ⟨n, f, v, hn, _⟩ := h; have z := Nat.le_zero.mp hn; subst z; exact nomatch (show Empty from f)), g25_, k25, b25_⟩⟩
  have K36 : Cl l.prog w K mg base 1 "has_right_sizes" (spSizesG 1) := ⟨⟨_, _, _, ok_sizesG F25_ TI1 TA1 TG1 K35, g25_, k25, b25_⟩⟩
  have K37 : Cl l.prog w K mg base 2 "has_right_sizes" (spSizesG 2) := ⟨⟨_, _, _, ok_sizesG F25_ TI1 TA1 TG1 K36, g25_, k25, b25_⟩⟩
  have K38 : Cl l.prog w K mg base 3 "has_right_sizes" (spSizesG 3) := ⟨⟨_, _, _, ok_sizesG F25_ TI1 TA1 TG1 K37, g25_, k25, b25_⟩⟩
  have K39 : Cl l.prog w K mg base 4 "has_right_sizes" (spSizesG 4) := ⟨⟨_, _, _, ok_sizesG F25_ TI1 TA1 TG1 K38, g25_, k25, b25_⟩⟩
  have K40 : Cl l.prog w K mg base 13 "form_flaws" _ := ⟨⟨_, _, _, ok_flawsG F39_ TSt1 TG1 K25 K9 K15 K34 K39, g39_, k39, b39_⟩⟩
  have K41 : Cl l.prog w K mg base 13 "form_flaws" (spFlaws) := K40.imp flaws_of_G
  have K42 : Cl l.prog w K mg base 14 "is_right_form" _ := ⟨⟨_, _, _, ok_isrf F38_ K40, g38_, k38, b38_⟩⟩
  have K43 : Cl l.prog w K mg base 1 "_in_order" _ := ⟨⟨_, _, _, ok_inord F29_ TSo1, g29_, k29, b29_⟩⟩
  have K44 : Cl l.prog w K mg base 1 "_parted" _ := ⟨⟨_, _, _, ok_parted F30_ TB1, g30_, k30, b30_⟩⟩
  have K45 : Cl l.prog w K mg base 2 "_rows_of" _ := ⟨⟨_, _, _, ok_rowsof F28_ TB1 TG1 TSq1 K43 K44, g28_, k28, b28_⟩⟩
  have K46 : Cl l.prog w K mg base 3 "packed" _ := ⟨⟨_, _, _, ok_packed F21_ TB1 TSo1 TSt1 K45 K4, g21_, k21, b21_⟩⟩
  have TD1_ : TDi mg := ⟨mgn z_dict⟩
  have TX1 : TXt mg := ⟨mgn z_iter, mgn z_str⟩
  have CK : ClR l.prog w K mg base 3 "check_boxes" spChkB := ⟨⟨_, ok_chkB F13_ K2, g13_, k13⟩⟩
  have M_MTake : Mt l.prog w K mg base 5 C "_take_form" (spTake C) := ⟨⟨_, _, _, CL1, ⟨aMTake, iMTake, kMTake⟩, ok_take FMTake_ TC1 TSo1 K10, bMTake_⟩⟩
  have OI := ok_init (P := l.prog) (w := w) (base := base) FInit_ TI1 TA1 TC1 TG1 K3 K46 M_MTake
  have MK1 : Mk K C gMInit := ⟨mk, aMInit, iMInit, kC⟩
  have MQ : Mq l.prog w K mg base 6 C (spInit K C) [] := ⟨⟨_, _, _, _, MK1, OI, bI1, vd1⟩⟩
  have M0 : Mq l.prog w K mg base 6 C (spInit K C) [.ref dE] := ⟨⟨_, _, _, _, MK1, OI, bI0, vd0⟩⟩
  have PMHeight : Pq l.prog w K mg base 5 C "height" (spHeight C) := ⟨⟨_, _, _, _, CL1, ⟨atMHeight, geMHeight, tkMHeight, ⟨_, rcMHeight⟩⟩, ok_height FMHeight_ TC1 K16, bMHeight_⟩⟩
  have PMFormP : Pq l.prog w K mg base 1 C "form" (spFormP C) := ⟨⟨_, _, _, _, CL1, ⟨atMFormP, geMFormP, tkMFormP, ⟨_, rcMFormP⟩⟩, ok_formP FMFormP_ TC1, bMFormP_⟩⟩
  have PMBoxP : Pq l.prog w K mg base 2 C "box" (spBoxP C) := ⟨⟨_, _, _, _, CL1, ⟨atMBoxP, geMBoxP, tkMBoxP, ⟨_, rcMBoxP⟩⟩, ok_boxP FMBoxP_ TB1 TC1 K4, bMBoxP_⟩⟩
  have PMBoxes : Pq l.prog w K mg base 1 C "boxes" (spBoxesP C) := ⟨⟨_, _, _, _, CL1, ⟨atMBoxes, geMBoxes, tkMBoxes, ⟨_, rcMBoxes⟩⟩, ok_boxesP FMBoxes_ TC1 TD1_, bMBoxes_⟩⟩
  have M_MEntr : Mt l.prog w K mg base 1 C "_entries" (spEntr C) := ⟨⟨_, _, _, CL1, ⟨aMEntr, iMEntr, kMEntr⟩, ok_entr FMEntr_ TB1 TC1, bMEntr_⟩⟩
  have M_MCont : Mt l.prog w K mg base 2 C "__contains__" (spCont C) := ⟨⟨_, _, _, CL1, ⟨aMCont, iMCont, kMCont⟩, ok_cont FMCont_ TC1 K1, bMCont_⟩⟩
  have M_MChkT : Mt l.prog w K mg base 3 C "_check_there" (spChkT C) := ⟨⟨_, _, _, CL1, ⟨aMChkT, iMChkT, kMChkT⟩, ok_chkT FMChkT_ M_MCont, bMChkT_⟩⟩
  have M_MLenT : Mt l.prog w K mg base 1 C "__len__" (spLenT C) := ⟨⟨_, _, _, CL1, ⟨aMLenT, iMLenT, kMLenT⟩, ok_lenT FMLenT_ TI1 TC1, bMLenT_⟩⟩
  have M_MIterT : Mt l.prog w K mg base 1 C "__iter__" (spIterT C) := ⟨⟨_, _, _, CL1, ⟨aMIterT, iMIterT, kMIterT⟩, ok_iterT FMIterT_ TX1 TC1, bMIterT_⟩⟩
  have M_MEqT : Mt l.prog w K mg base 1 C "__eq__" (spEqT C) := ⟨⟨_, _, _, CL1, ⟨aMEqT, iMEqT, kMEqT⟩, ok_eqT FMEqT_ TI1 TC1, bMEqT_⟩⟩
  have M_MStrT : Mt l.prog w K mg base 7 C "__str__" (spStrT C) := ⟨⟨_, _, _, CL1, ⟨aMStrT, iMStrT, kMStrT⟩, ok_strT FMStrT_ TI1 TC1 PMHeight, bMStrT_⟩⟩
  have M_MPut : Mt l.prog w K mg base 8 C "put" (spPut C) := ⟨⟨_, _, _, CL1, ⟨aMPut, iMPut, kMPut⟩, ok_put FMPut_ TC1 K1 CK M_MEntr MQ, bMPut_⟩⟩
  have M_MWout : Mt l.prog w K mg base 8 C "without" (spWout C) := ⟨⟨_, _, _, CL1, ⟨aMWout, iMWout, kMWout⟩, ok_wout FMWout_ TB1 TSt1 TC1 M_MChkT M_MEntr MQ, bMWout_⟩⟩
  have M_MMoved : Mt l.prog w K mg base 9 C "moved" (spMoved C) := ⟨⟨_, _, _, CL1, ⟨aMMoved, iMMoved, kMMoved⟩, ok_moved FMMoved_ M_MChkT M_MWout M_MPut, bMMoved_⟩⟩
  have CT : Cm l.prog w K mg base 14 C "told" (spTold C) := ⟨⟨_, pT, gMTold, ⟨rd, ga⟩, ⟨at_, ⟨_, rc⟩, fi⟩, ((ok_told FMTold_ TC1 K41 MK1 OI bI0 vd0 em M_MTake).raw bMTold_ .nil).imp fun vs H Q E h => by rw [List.append_nil]; exact h⟩⟩
  have K47 : Cl l.prog w K mg base 1 "_law_bag" _ := ⟨⟨_, _, _, ok_bag F42_ TB1, g42_, k42, b42_⟩⟩
  have D1 := ok_draw (P := l.prog) (w := w) (base := base) F43_ TB1
  have K48 : Cl l.prog w K mg base 1 "_law_draw" _ := ⟨⟨_, _, _, D1, g43_, k43, b43_⟩⟩
  have K49 : Cl l.prog w K mg base 2 "_law_one_of" _ := ⟨⟨_, _, _, ok_one F44_ TB1 D1 b43_ g43_ k43, g44_, k44, b44_⟩⟩
  have K50 : Cl l.prog w K mg base 2 "_law_shuffled" _ := ⟨⟨_, _, _, ok_shuf F45_ TB1 D1 b43_ g43_ k43, g45_, k45, b45_⟩⟩
  have K51 : Cl l.prog w K mg base 1 "_law_joint_box" _ := ⟨⟨_, _, _, ok_ljointG F48_ TM1, g48_, k48, b48_⟩⟩
  have K52 : Cl l.prog w K mg base 1 "_law_entries_in" _ := ⟨⟨_, _, _, ok_lentG F49_ TB1, g49_, k49, b49_⟩⟩
  have K53 : Cl l.prog w K mg base 2 "_law_boxes_in" _ := ⟨⟨_, _, _, ok_lboxesG F46_ K52, g46_, k46, b46_⟩⟩
  have K54 : Cl l.prog w K mg base 2 "_law_boxes_in" (spLBoxes) := K53.imp lboxes_of_G
  have K55 : Cl l.prog w K mg base 1 "_law_joint_box" (spAround) := K51.imp joint_of_G
  have K56 : Cl l.prog w K mg base 3 "_law_small_box" _ := ⟨⟨_, _, _, ok_small F47_ K48 K49, g47_, k47, b47_⟩⟩
  have K57 : Cl l.prog w K mg base 1 "_law_height" _ := ⟨⟨_, _, _, ok_lht F50_, g50_, k50, b50_⟩⟩
  have K58 : Cl l.prog w K mg base 4 "_law_drawn_entries" _ := ⟨⟨_, _, _, ok_dent F51_ TB1 K50 K56, g51_, k51, b51_⟩⟩
  have K59 : Cl l.prog w K mg base 2 "_law_lots_of" _ := ⟨⟨_, _, _, ok_lots F52_ TB1 TM1 TSt1 K48, g52_, k52, b52_⟩⟩
  have K60 : Cl l.prog w K mg base 3 "_law_drawn_form" _ := ⟨⟨_, _, _, ok_dform F53_ TB1 TSt1 K48 K59 K54 K55, g53_, k53, b53_⟩⟩
  have K61 : Cl l.prog w K mg base 3 "_law_flaws" _ := ⟨⟨_, _, _, ok_lfl F54_ TB1 TSt1 TSo1 K53 K51, g54_, k54, b54_⟩⟩
  have K62 : Cl l.prog w K mg base 1 "_law_spoilt" (spSpo 0) := ⟨⟨_, _, _, fn_none (f := g55) 1 (fun _ _ _ _ h => by obtain ⟨p, n, f, v, hn, _⟩ := h; exact Nat.not_lt_zero n hn), g55_, k55, b55_⟩⟩
  have K63 : Cl l.prog w K mg base 2 "_law_spoilt" (spSpo 1) := ⟨⟨_, _, _, ok_spo F55_ TB1 K48 K62, g55_, k55, b55_⟩⟩
  have K64 : Cl l.prog w K mg base 3 "_law_spoilt" (spSpo 2) := ⟨⟨_, _, _, ok_spo F55_ TB1 K48 K63, g55_, k55, b55_⟩⟩
  have K65 : Cl l.prog w K mg base 4 "_law_spoilt" (spSpo 3) := ⟨⟨_, _, _, ok_spo F55_ TB1 K48 K64, g55_, k55, b55_⟩⟩
  have K66 : Cl l.prog w K mg base 11 "_law_right" _ := ⟨⟨_, _, _, ok_right F56_ TB1 TSo1 TX1 TC1 em K48 K49 K56 K61 K51 M0 M_MWout M_MPut M_MMoved M_MIterT M_MLenT M_MCont M_MStrT PMFormP PMBoxes PMBoxP PMHeight, g56_, k56, b56_⟩⟩
  exact ok_law F57_ TB1 TM1 TSo1 TSt1 TD1_ TC1 K47 K66 K48 K58 K60 K61 K57 K65 K40 K42 CT MQ PMFormP PMBoxes PMHeight M_MEqT hne ihm
theorem walk {l : PySem.W.OpenLaw} {q : Program} {loose : List Str} {XP : (Str → Option Value) → Heap → Prop} {YP : World → Heap → Prop} {d : DefRec} {K : Params → PySem.W.Frag} (hn : l.most = some 63) (hdf : d.params.defaults = [])
    (hY : ∀ (w : World) (h : Heap), YP w h → (K w.params).In h)
    (F : ∀ (w : World) (mg : Str → Option Value) (fa : Addr) (h : Heap), (K w.params).In h → h.Ns mainGlobals mg → mg d.name = some (.ref fa) →
      ∃ fd : FuncData, (∀ (s : Shared) (u : Value), BindsTo s fd ⟨[u], []⟩ [("script", u)]) ∧ ∀ base : Heap, (K w.params).In base → base.Ns mainGlobals mg → FnOk l.prog w (K w.params) mg base CX0 16 fa fd ["script"] (spLaw (K w.params))) :
    PySem.W.WalkO q loose XP YP l.row.toRowW d [] (fun f vs => PySem.call f vs) :=
  L2.walk_of (n := 63) (k := 16) (x := "script") (CX := fun _ => CX0) (sp := fun w => spLaw (K w.params)) hn (by decide) hdf ⟨rfl, by decide, by decide⟩ hY F (fun _ _ a ns hl _ hS => ⟨a, ns, rfl, hS, hl, fun _ => rfl⟩) fun _ _ _ _ _ z => z
end Q
set_option Elab.async false
set_option linter.all false
set_option maxRecDepth 100000
open PySem PySem.W PyProof.Rows
set_option maxRecDepth 100000 in
set_option maxHeartbeats 0 in
theorem PySem.Challenge.cw_wherebase_k50_whole_forms_of_trees_holds : PySem.Challenge.rw_wherebase_k50_whole_forms_of_trees.Holds := by
  w_on; o_law; k_head; (case hw => w_witness2)
  k_fill
  refine Q.walk (l := PySem.Challenge.rw_wherebase_k50_whole_forms_of_trees) rfl rfl (fun w h Y => PySem.W.kIn_of Y) ?F
  case F =>
    intro w mg fa h KX G hmg
    refine' Q.all_mk KX G hmg ?aC ?pg ?hd ?po ?sa ?nF ?nB ?kC ?iha ?ihn ?ihtk ?ihm ?ime ?mk ?isq ?gm ?gl ?gx ?a10 ?l10 ?c10d ?k10 ?a12 ?l12 ?c12d ?k12 ?a13 ?l13 ?c13d ?k13 ?a15 ?l15 ?c15d ?k15 ?a19 ?l19 ?c19d ?k19 ?a20 ?l20 ?c20d ?k20 ?a21 ?l21 ?c21d ?k21 ?a22 ?l22 ?c22d ?k22 ?a23 ?l23 ?c23d ?k23 ?a24 ?l24 ?c24d ?k24 ?a25 ?l25 ?c25d ?k25 ?a26 ?l26 ?c26d ?k26 ?a27 ?l27 ?c27d ?k27 ?a28 ?l28 ?c28d ?k28 ?a29 ?l29 ?c29d ?k29 ?a30 ?l30 ?c30d ?k30 ?a38 ?l38 ?c38d ?k38 ?a39 ?l39 ?c39d ?k39 ?a42 ?l42 ?c42d ?k42 ?a43 ?l43 ?c43d ?k43 ?a44 ?l44 ?c44d ?k44 ?a45 ?l45 ?c45d ?k45 ?a46 ?l46 ?c46d ?k46 ?a47 ?l47 ?c47d ?k47 ?a48 ?l48 ?c48d ?k48 ?a49 ?l49 ?c49d ?k49 ?a50 ?l50 ?c50d ?k50 ?a51 ?l51 ?c51d ?k51 ?a52 ?l52 ?c52d ?k52 ?a53 ?l53 ?c53d ?k53 ?a54 ?l54 ?c54d ?k54 ?a55 ?l55 ?c55d ?k55 ?a56 ?l56 ?c56d ?k56 ?a57 ?l57 ?c57d ?k57 ?aMInit ?iMInit ?lMInit ?cMInitd ?kMInit ?aMTake ?iMTake ?lMTake ?cMTaked ?kMTake ?rd ?ga ?at_ ?rc ?fi ?lMTold ?cMToldd ?kMTold ?atMFormP ?geMFormP ?tkMFormP ?rcMFormP ?lMFormP ?cMFormPd ?kMFormP ?atMHeight ?geMHeight ?tkMHeight ?rcMHeight ?lMHeight ?cMHeightd ?kMHeight ?atMBoxes ?geMBoxes ?tkMBoxes ?rcMBoxes ?lMBoxes ?cMBoxesd ?kMBoxes ?atMBoxP ?geMBoxP ?tkMBoxP ?rcMBoxP ?lMBoxP ?cMBoxPd ?kMBoxP ?aMPut ?iMPut ?lMPut ?cMPutd ?kMPut ?aMWout ?iMWout ?lMWout ?cMWoutd ?kMWout ?aMMoved ?iMMoved ?lMMoved ?cMMovedd ?kMMoved ?aMEntr ?iMEntr ?lMEntr ?cMEntrd ?kMEntr ?aMChkT ?iMChkT ?lMChkT ?cMChkTd ?kMChkT ?aMCont ?iMCont ?lMCont ?cMContd ?kMCont ?aMLenT ?iMLenT ?lMLenT ?cMLenTd ?kMLenT ?aMIterT ?iMIterT ?lMIterT ?cMIterTd ?kMIterT ?aMEqT ?iMEqT ?lMEqT ?cMEqTd ?kMEqT ?aMStrT ?iMStrT ?lMStrT ?cMStrTd ?kMStrT ?hne ?lD ?lE ?z_dict ?z_len ?z_sum ?z_int ?z_abs ?z_max ?z_range ?z_list ?z_isinstance ?z_bool ?z_tuple ?z_all ?z_min ?z_set ?z_sorted ?z_enumerate ?z_zip ?z_iter ?z_str
    (case aC => k_is)
    (case pg => k_is)
    (case hd => k_is)
    (case po => k_is)
    (case sa => k_is)
    (case nF => k_is)
    (case nB => k_is)
    (case kC => k_is)
    (case iha => k_is)
    (case ihn => k_is)
    (case ihtk => k_is)
    (case ihm => k_is)
    (case ime => kit_is)
    (case mk => k_is)
    (case isq => k_is)
    (case gm => k_is)
    (case gl => k_is)
    (case gx => k_is)
    (case a10 => k_is)
    (case l10 => k_is)
    (case c10d => k_is)
    (case k10 => k_is)
    (case a12 => k_is)
    (case l12 => k_is)
    (case c12d => k_is)
    (case k12 => k_is)
    (case a13 => k_is)
    (case l13 => k_is)
    (case c13d => k_is)
    (case k13 => k_is)
    (case a15 => k_is)
    (case l15 => k_is)
    (case c15d => k_is)
    (case k15 => k_is)
    (case a19 => k_is)
    (case l19 => k_is)
    (case c19d => k_is)
    (case k19 => k_is)
    (case a20 => k_is)
    (case l20 => k_is)
    (case c20d => k_is)
    (case k20 => k_is)
    (case a21 => k_is)
    (case l21 => k_is)
    (case c21d => k_is)
    (case k21 => k_is)
    (case a22 => k_is)
    (case l22 => k_is)
    (case c22d => k_is)
    (case k22 => k_is)
    (case a23 => k_is)
    (case l23 => k_is)
    (case c23d => k_is)
    (case k23 => k_is)
    (case a24 => k_is)
    (case l24 => k_is)
    (case c24d => k_is)
    (case k24 => k_is)
    (case a25 => k_is)
    (case l25 => k_is)
    (case c25d => k_is)
    (case k25 => k_is)
    (case a26 => k_is)
    (case l26 => k_is)
    (case c26d => k_is)
    (case k26 => k_is)
    (case a27 => k_is)
    (case l27 => k_is)
    (case c27d => k_is)
    (case k27 => k_is)
    (case a28 => k_is)
    (case l28 => k_is)
    (case c28d => k_is)
    (case k28 => k_is)
    (case a29 => k_is)
    (case l29 => k_is)
    (case c29d => k_is)
    (case k29 => k_is)
    (case a30 => k_is)
    (case l30 => k_is)
    (case c30d => k_is)
    (case k30 => k_is)
    (case a38 => k_is)
    (case l38 => k_is)
    (case c38d => k_is)
    (case k38 => k_is)
    (case a39 => k_is)
    (case l39 => k_is)
    (case c39d => k_is)
    (case k39 => k_is)
    (case a42 => k_is)
    (case l42 => k_is)
    (case c42d => k_is)
    (case k42 => k_is)
    (case a43 => k_is)
    (case l43 => k_is)
    (case c43d => k_is)
    (case k43 => k_is)
    (case a44 => k_is)
    (case l44 => k_is)
    (case c44d => k_is)
    (case k44 => k_is)
    (case a45 => k_is)
    (case l45 => k_is)
    (case c45d => k_is)
    (case k45 => k_is)
    (case a46 => k_is)
    (case l46 => k_is)
    (case c46d => k_is)
    (case k46 => k_is)
    (case a47 => k_is)
    (case l47 => k_is)
    (case c47d => k_is)
    (case k47 => k_is)
    (case a48 => k_is)
    (case l48 => k_is)
    (case c48d => k_is)
    (case k48 => k_is)
    (case a49 => k_is)
    (case l49 => k_is)
    (case c49d => k_is)
    (case k49 => k_is)
    (case a50 => k_is)
    (case l50 => k_is)
    (case c50d => k_is)
    (case k50 => k_is)
    (case a51 => k_is)
    (case l51 => k_is)
    (case c51d => k_is)
    (case k51 => k_is)
    (case a52 => k_is)
    (case l52 => k_is)
    (case c52d => k_is)
    (case k52 => k_is)
    (case a53 => k_is)
    (case l53 => k_is)
    (case c53d => k_is)
    (case k53 => k_is)
    (case a54 => k_is)
    (case l54 => k_is)
    (case c54d => k_is)
    (case k54 => k_is)
    (case a55 => k_is)
    (case l55 => k_is)
    (case c55d => k_is)
    (case k55 => k_is)
    (case a56 => k_is)
    (case l56 => k_is)
    (case c56d => k_is)
    (case k56 => k_is)
    (case a57 => k_is)
    (case l57 => k_is)
    (case c57d => k_is)
    (case k57 => k_is)
    (case aMInit => k_is)
    (case iMInit => k_is)
    (case lMInit => k_is)
    (case cMInitd => k_is)
    (case kMInit => k_is)
    (case aMTake => k_is)
    (case iMTake => k_is)
    (case lMTake => k_is)
    (case cMTaked => k_is)
    (case kMTake => k_is)
    (case rd => k_is)
    (case ga => k_is)
    (case at_ => k_is)
    (case rc => k_is)
    (case fi => k_is)
    (case lMTold => k_is)
    (case cMToldd => k_is)
    (case kMTold => k_is)
    (case atMFormP => k_is)
    (case geMFormP => k_is)
    (case tkMFormP => k_is)
    (case rcMFormP => k_is)
    (case lMFormP => k_is)
    (case cMFormPd => k_is)
    (case kMFormP => k_is)
    (case atMHeight => k_is)
    (case geMHeight => k_is)
    (case tkMHeight => k_is)
    (case rcMHeight => k_is)
    (case lMHeight => k_is)
    (case cMHeightd => k_is)
    (case kMHeight => k_is)
    (case atMBoxes => k_is)
    (case geMBoxes => k_is)
    (case tkMBoxes => k_is)
    (case rcMBoxes => k_is)
    (case lMBoxes => k_is)
    (case cMBoxesd => k_is)
    (case kMBoxes => k_is)
    (case atMBoxP => k_is)
    (case geMBoxP => k_is)
    (case tkMBoxP => k_is)
    (case rcMBoxP => k_is)
    (case lMBoxP => k_is)
    (case cMBoxPd => k_is)
    (case kMBoxP => k_is)
    (case aMPut => k_is)
    (case iMPut => k_is)
    (case lMPut => k_is)
    (case cMPutd => k_is)
    (case kMPut => k_is)
    (case aMWout => k_is)
    (case iMWout => k_is)
    (case lMWout => k_is)
    (case cMWoutd => k_is)
    (case kMWout => k_is)
    (case aMMoved => k_is)
    (case iMMoved => k_is)
    (case lMMoved => k_is)
    (case cMMovedd => k_is)
    (case kMMoved => k_is)
    (case aMEntr => k_is)
    (case iMEntr => k_is)
    (case lMEntr => k_is)
    (case cMEntrd => k_is)
    (case kMEntr => k_is)
    (case aMChkT => k_is)
    (case iMChkT => k_is)
    (case lMChkT => k_is)
    (case cMChkTd => k_is)
    (case kMChkT => k_is)
    (case aMCont => k_is)
    (case iMCont => k_is)
    (case lMCont => k_is)
    (case cMContd => k_is)
    (case kMCont => k_is)
    (case aMLenT => k_is)
    (case iMLenT => k_is)
    (case lMLenT => k_is)
    (case cMLenTd => k_is)
    (case kMLenT => k_is)
    (case aMIterT => k_is)
    (case iMIterT => k_is)
    (case lMIterT => k_is)
    (case cMIterTd => k_is)
    (case kMIterT => k_is)
    (case aMEqT => k_is)
    (case iMEqT => k_is)
    (case lMEqT => k_is)
    (case cMEqTd => k_is)
    (case kMEqT => k_is)
    (case aMStrT => k_is)
    (case iMStrT => k_is)
    (case lMStrT => k_is)
    (case cMStrTd => k_is)
    (case kMStrT => k_is)
    (case hne => k_is)
    (case lD => k_is)
    (case lE => k_is)
    (case z_dict => k_is)
    (case z_len => k_is)
    (case z_sum => k_is)
    (case z_int => k_is)
    (case z_abs => k_is)
    (case z_max => k_is)
    (case z_range => k_is)
    (case z_list => k_is)
    (case z_isinstance => k_is)
    (case z_bool => k_is)
    (case z_tuple => k_is)
    (case z_all => k_is)
    (case z_min => k_is)
    (case z_set => k_is)
    (case z_sorted => k_is)
    (case z_enumerate => k_is)
    (case z_zip => k_is)
    (case z_iter => k_is)
    (case z_str => k_is)
