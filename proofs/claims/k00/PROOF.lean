import PyProof.Rows.All
import Wide.All
import OpenK.AllK
import Wide.FinOn
import HandS.ForMost
import HandS.ForExc
import HandS.Wide
import HandS.Evl
import HandS.Conv
import HandS.ForSpec
import KE.KExcInit
import HandS.ExcInit
import HandS.HotCalls
import HandS.TryMany
import KE.KExcHand
import KE.KExcIs
import HandS.RaiseMore
import PySem.Challenge.RW_wherebase_k00_whole_errors
set_option Elab.async false
set_option linter.all false
set_option maxRecDepth 100000
set_option maxHeartbeats 2000000
namespace Q
open PySem L2
def top (i : Nat) : Stmt := PySem.Challenge.pw_wherebase_k00_whole_errors.main.body.getD i (.Pass ⟨0, 0, 0, 0⟩)
abbrev sBag : Stmt := top 28
abbrev sDraw : Stmt := top 29
abbrev sOne : Stmt := top 30
abbrev sShuf : Stmt := top 31
/-! ### powers of any size that fits -/
def CPowW (i j : Int) : Prop := 0 ≤ j ∧ (Builtin.Int.intBits i : Int) * j ≤ 2 ^ 27
theorem op_powW {X : Cx} : OpR X (binaryOp .Pow) (rI CPowW fun i j => .int (i ^ j.toNat)) := opI fun _ _ _ _ _ _ _ hc q => PyProof.Rows.pow_int hc.1 hc.2 q
/-! ### what a draw changes -/
structure Bgd (p : Addr) (H H' : Hp) : Prop where
  bag : ∃ a b c : Int, H' p = some (.lst [.int a, .int b, .int c])
  keep : ∀ l o, l ≠ p → H l = some o → H' l = some o
theorem Bgd.rfl' {p : Addr} {H : Hp} {a b c : Int} (h : H p = some (.lst [.int a, .int b, .int c])) : Bgd p H H := ⟨⟨a, b, c, h⟩, fun _ _ _ e => e⟩
theorem Bgd.trans {p : Addr} {H H1 H2 : Hp} (x : Bgd p H H1) (y : Bgd p H1 H2) : Bgd p H H2 := ⟨y.bag, fun l o n e => y.keep l o n (x.keep l o n e)⟩
theorem Bgd.free {p l : Addr} {H H1 : Hp} (x : Bgd p H H1) (h : H1 l = none) : H l = none := by
  obtain ⟨a, b, c, e⟩ := x.bag
  by_cases z : l = p
  · rw [z, e] at h
    cases h
  · cases q : H l with
    | none => rfl
    | some o =>
      rw [x.keep l o z q] at h
      cases h
theorem Bgd.new {p l : Addr} {H H1 : Hp} {o : HO} (x : Bgd p H H1) (h : H1 l = none) : Bgd p H (upd H1 l o) := by
  obtain ⟨a, b, c, e⟩ := x.bag
  refine ⟨⟨a, b, c, ?_⟩, fun m u n q => ?_⟩
  · rw [upd_ne (ne_of_none e h)]
    exact e
  · have q1 := x.keep m u n q
    rw [upd_ne (ne_of_none q1 h)]
    exact q1
theorem Bgd.put {p : Addr} {H H1 : Hp} (x : Bgd p H H1) (a b c : Int) : Bgd p H (upd H1 p (.lst [.int a, .int b, .int c])) := by
  refine ⟨⟨a, b, c, upd_same⟩, fun m u n q => ?_⟩
  rw [upd_ne n]
  exact x.keep m u n q
theorem Bgd.same {p : Addr} {H0 H H1 : Hp} (s : Same H0 H) (n : H0 p = none) (x : Bgd p H H1) : Same H0 H1 := fun l o e => x.keep l o (ne_of_none e n) (s l o e)
theorem atI_in {xs : List V} {r : Int} (h0 : 0 ≤ r) (h : r < xs.length) : ∃ v, atI xs r = some v ∧ xs[r.toNat]? = some v := by
  obtain ⟨n, rfl⟩ := Int.eq_ofNat_of_zero_le h0
  have hn : n < xs.length := by omega
  refine ⟨xs[n], ?_, ?_⟩
  · rw [atI_nat]
    simp [hn]
  · simp [hn]
theorem cut_ints (ns : List Int) (lo hi : Option Int) : ∃ ms : List Int, cutV (ns.map V.int) lo hi = ms.map V.int := by
  have cut : ∀ i j : Nat, ((ns.map V.int).drop i).take j = ((ns.drop i).take j).map V.int := fun i j => by rw [← List.map_drop, ← List.map_take]
  exact ⟨_, cut _ _⟩
theorem log_len {n : Nat} (h : n ≤ 1000) : ((n : Nat) : Int).natAbs.log2 < 9000 := by
  rw [Int.natAbs_natCast]
  exact Nat.lt_of_le_of_lt (Nat.le_trans (Nat.log2_le_self n) h) (by decide)
/-! ### the promises -/
def spBag (K : PySem.W.Frag) : Sp := fun vs H Q _ => ∃ (a : Addr) (ns : List Int) (i : Nat), vs = [.ref a, .int i] ∧ SqL K H a (ns.map V.int) ∧ i < 1000 ∧
  ∀ (p : Addr) (H' : Hp), H p = none → Same H H' → (∃ a b c : Int, H' p = some (.lst [.int a, .int b, .int c])) → Q (.ref p) H'
def spDraw : Sp := fun vs H Q _ => ∃ (p : Addr) (a b c n : Int), vs = [.ref p, .int n] ∧ H p = some (.lst [.int a, .int b, .int c]) ∧ 0 < n ∧ n.natAbs.log2 < 9000 ∧
  ∀ (r : Int) (H' : Hp), 0 ≤ r → r < n → Bgd p H H' → Q (.int r) H'
def spOne : Sp := fun vs H Q _ => ∃ (p q : Addr) (a b c : Int) (xs : List V), vs = [.ref p, .ref q] ∧ H p = some (.lst [.int a, .int b, .int c]) ∧ q ≠ p ∧ H q = some (.lst xs) ∧ 0 < xs.length ∧ xs.length ≤ 1000 ∧
  ∀ (i : Nat) (v : V) (H' : Hp), xs[i]? = some v → Bgd p H H' → Q v H'
def spShuf : Sp := fun vs H Q _ => ∃ (p q : Addr) (a b c : Int) (xs : List V), vs = [.ref p, .ref q] ∧ H p = some (.lst [.int a, .int b, .int c]) ∧ q ≠ p ∧ H q = some (.lst xs) ∧ xs.length ≤ 1000 ∧
  ∀ (l : Addr) (ys : List V) (H' : Hp), ys.Perm xs → H' l = some (.lst ys) → H l = none → Bgd p H H' → Q (.ref l) H'
structure TB (mg : Str → Option Value) : Prop where
  len : mg "len" = none
  sum : mg "sum" = none
  int : mg "int" = none
  abs : mg "abs" = none
  max : mg "max" = none
  range : mg "range" = none
  list : mg "list" = none
section
variable {P : Program} {w : World} {K : PySem.W.Frag} {mg : Str → Option Value} {base : Heap}
theorem scBag : FnScope ["script", "at", "cell", "great", "mixed"] ["script", "at"] (defScope sBag) := ⟨rfl, rfl, rfl, by decide +kernel, rfl, by decide +kernel, by decide +kernel⟩
theorem bigM : ((((10 : Int) ^ (Int.toNat 47)) ^ (Int.toNat 13))) ≠ 0 := by decide +kernel
theorem ok_bag {f : Addr} {fd : FuncData} (F : Fun K "_law_bag" "_law_bag" sBag f fd) (T : TB mg) : FnOk P w K mg base CX0 1 f fd ["script", "at"] (spBag K) := by
  refine F.ok scBag (fun vs H Q E h => ?_) (fun cdv A outer s H vs Q E hr h => ?_)
  · obtain ⟨a, ns, i, rfl, _⟩ := h
    rfl
  · obtain ⟨a, ns, i, rfl, hS, hi, k⟩ := h
    refine ⟨_, Evl.pss_cut (ps_set (i := 2) scBag.nd rfl (Or.inl rfl) (pe_ifExp (pt_cmpR op_lt (pv 1) (pe_callB call_len_seq (by rfl) T.len PySem.boot_len (pa_cons (pv 0) pa_nil)) (nomark _))
        (pe_ix ix_list (pv 0) (pv 1) (fun _ _ => rfl))
        (pe_op op_add (pe_op op_add (pe_callB (cr_sum rfl) (by rfl) T.sum (by decide +kernel) (pa_cons (pe_slice sl_list (pv 0) po_none (po_some pe_int)) pa_nil)) (pe_op op_mul pe_int (pv 1))) pe_int)))
      (pss_cons (ps_set (i := 3) scBag.nd rfl (Or.inl rfl) (pe_op op_modN (pe_callTy call_int1 (by rfl) T.int (by decide +kernel) (pa_cons (pe_callB call_abs (by rfl) T.abs (by decide +kernel) (pa_cons (pv 2) pa_nil)) pa_nil)) (pe_op op_powW (pe_op op_powW pe_int pe_int) pe_int)))
      (pss_cons (ps_set (i := 4) scBag.nd rfl (Or.inl rfl) (pe_op op_add (pe_op op_add (pe_op op_add (pe_op op_mul (pe_op op_mod (pe_callTy call_int1 (by rfl) T.int (by decide +kernel) (pa_cons (pv 3) pa_nil)) pe_int) pe_int) (pe_op op_mul pe_int (pv 1))) (pe_op op_mul pe_int (pe_callTy call_int1 (by rfl) T.int (by decide +kernel) (pa_cons (pe_cmpR op_lt (pv 2) pe_int (nomark _)) pa_nil)))) pe_int))
      (pss_one (ps_ret (pe_lst (pa_cons (pe_callB (call_max2 rfl) (by rfl) T.max (by decide +kernel) (pa_cons pe_int (pa_cons (pe_op op_sub (pv 3) (pe_op op_powW pe_int pe_int)) pa_nil))) (pa_cons (pe_op op_mod (pe_callTy call_int1 (by rfl) T.int (by decide +kernel) (pa_cons (pv 4) pa_nil)) pe_int) (pa_cons pe_int pa_nil)))))))), ?_⟩
    refine ⟨fun σ' H' => Same H H' ∧ ∃ c : Int, σ' = [some (.ref a), some (.int i), some (.int c), none, none], ?_, ?_⟩
    · refine ⟨_, rfl, _, rfl, a, _, rfl, .inl hS, _, _, rfl, rfl, _, rfl, ?_⟩
      refine ite2 (fun hlt => ?_) (fun _ => ?_)
      · have hlt := of_decide_eq_true hlt
        rw [List.length_map] at hlt
        have hl : i < ns.length := by omega
        refine ⟨_, rfl, _, rfl, a, _, _, V.int ns[i], rfl, rfl, hS, ?_, ?_⟩
        · rw [atI_nat]
          simp [hl]
        · exact ⟨Same.refl H, _, rfl⟩
      · refine ⟨_, rfl, _, rfl, a, ns.map V.int, rfl, hS, fun l hl => ?_⟩
        obtain ⟨ms, em⟩ := cut_ints ns none (some 1)
        rw [em]
        refine ⟨l, ms, rfl, SqL.of upd_same, _, rfl, _, _, rfl, rfl, .inl ?_, _, _, rfl, rfl, _, _, rfl, rfl, ?_⟩
        · show -(2 ^ 64) < (103 : Int) ∧ (103 : Int) < 2 ^ 64
          decide
        · exact ⟨fun b o e => by rw [upd_ne (ne_of_none e hl)]; exact e, _, rfl⟩
    · rintro σ' H1 ⟨s1, cell, rfl⟩
      refine ⟨_, rfl, cell, rfl, .inl ⟨_, rfl, ?_⟩⟩
      refine ⟨_, _, rfl, rfl, ⟨by decide, by decide +kernel⟩, _, _, rfl, rfl, ⟨by decide, by decide +kernel⟩, _, _, rfl, rfl, bigM, ?_⟩
      refine ⟨_, rfl, .inl ⟨_, rfl, _, _, rfl, rfl, (by show (0 : Int) < 2305843009213693723; decide), _, _, rfl, rfl, .inr ?_, _, rfl, _, _, rfl, rfl, .inl ?_, _, _, rfl, rfl, ?_⟩⟩
      · show -(2 ^ 64) < (1000231 : Int) ∧ (1000231 : Int) < 2 ^ 64
        decide
      · show -(2 ^ 64) < (9011 : Int) ∧ (9011 : Int) < 2 ^ 64
        decide
      · refine ⟨_, rfl, _, _, rfl, rfl, .inr ⟨_, rfl, _, _, rfl, rfl, .inl ?_, _, _, rfl, rfl, _, _, rfl, rfl, ?_⟩⟩
        · show -(2 ^ 64) < (41 : Int) ∧ (41 : Int) < 2 ^ 64
          decide
        · refine ⟨_, rfl, _, _, rfl, rfl, ⟨by decide, by decide +kernel⟩, _, _, rfl, rfl, _, _, rfl, ?_⟩
          refine ⟨_, rfl, .inl ⟨_, rfl, _, _, rfl, rfl, ?_, (by show 3 ≤ sizeLine; decide), fun p hp => ?_⟩⟩
          · show (0 : Int) < 2305843009213693951
            decide
          · exact k p _ (s1.free hp) (fun b o e => by rw [upd_ne (ne_of_none (s1 b o e) hp)]; exact s1 b o e) ⟨_, _, _, upd_same⟩
theorem scDraw : FnScope ["bag", "total", "found", "one", "two"] ["bag", "total"] (defScope sDraw) := ⟨rfl, rfl, rfl, by decide +kernel, rfl, by decide +kernel, by decide +kernel⟩
theorem ok_draw {f : Addr} {fd : FuncData} (F : Fun K "_law_draw" "_law_draw" sDraw f fd) (T : TB mg) : FnOk P w K mg base CX0 1 f fd ["bag", "total"] spDraw := by
  refine F.ok scDraw (fun vs H Q E h => ?_) (fun cdv A outer s H vs Q E hr h => ?_)
  · obtain ⟨p, a, b, c, n, rfl, _⟩ := h
    rfl
  · obtain ⟨p, a, b, c, n, rfl, hp, hn, hw, k⟩ := h
    have B0 : Bgd p H H := Bgd.rfl' hp
    refine ⟨_, pss_cons (ps_if (pt_cmpR op_gt (pe_ix ix_list (pv 0) pe_int (fun _ _ => rfl)) pe_int (nomark _))
        (pss_cons (ps_set (i := 2) scDraw.nd rfl (Or.inl rfl) (pe_op op_mod (pe_callTy call_int1 (by rfl) T.int (by decide +kernel) (pa_cons (pe_ix ix_list (pv 0) pe_int (fun _ _ => rfl)) pa_nil)) (pv 1)))
        (pss_cons (ps_asg (pe_op op_fdivW (pe_ix ix_list (pv 0) pe_int (fun _ _ => rfl)) (pv 1)) (pg_sub (pv 0) pe_int set_list))
        (pss_one (ps_ret (pv 2))))) pss_nil)
      (pss_cons (ps_asg (pe_op op_add (pe_ix ix_list (pv 0) pe_int (fun _ _ => rfl)) pe_int) (pg_sub (pv 0) pe_int set_list))
      (pss_cons (ps_set (i := 3) scDraw.nd rfl (Or.inl rfl) (pe_op op_mod (pe_callTy call_int1 (by rfl) T.int (by decide +kernel) (pa_cons (pe_op op_add (pe_ix ix_list (pv 0) pe_int (fun _ _ => rfl)) (pe_op op_mul pe_int (pe_ix ix_list (pv 0) pe_int (fun _ _ => rfl)))) pa_nil)) pe_int))
      (pss_cons (ps_set (i := 4) scDraw.nd rfl (Or.inl rfl) (pe_op op_add (pe_op op_mul (pe_op op_mod (pe_callTy call_int1 (by rfl) T.int (by decide +kernel) (pa_cons (pe_op op_mul (pv 3) (pv 3)) pa_nil)) pe_int) (pv 3)) (pe_op op_mul pe_int (pe_ix ix_list (pv 0) pe_int (fun _ _ => rfl)))))
      (pss_one (ps_ret (pe_op op_mod (pe_callTy call_int1 (by rfl) T.int (by decide +kernel) (pa_cons (pe_op op_fdiv (pe_op op_mod (pe_callTy call_int1 (by rfl) T.int (by decide +kernel) (pa_cons (pv 4) pa_nil)) pe_int) pe_int) pa_nil)) (pv 1))))))), ?_⟩
    refine ⟨_, rfl, p, _, _, V.int a, rfl, rfl, SqL.of hp, rfl, _, _, rfl, rfl, _, rfl, ?_⟩
    refine ite2 (fun _ => ?_) (fun _ => ?_)
    · refine ⟨_, rfl, p, _, _, V.int a, rfl, rfl, SqL.of hp, rfl, .inl ⟨_, rfl, _, rfl, _, _, rfl, rfl, hn, ?_⟩⟩
      refine ⟨_, rfl, p, _, _, V.int a, rfl, rfl, SqL.of hp, rfl, _, rfl, _, _, rfl, rfl, ⟨hn, hw⟩, ?_⟩
      refine ⟨_, rfl, p, _, _, 0, rfl, rfl, hp, rfl, _, rfl, ?_⟩
      exact k _ _ (Int.emod_nonneg _ (by omega)) (Int.emod_lt_of_pos _ hn) (B0.put _ _ _)
    · refine ⟨_, rfl, p, _, _, V.int c, rfl, rfl, SqL.of hp, rfl, _, _, rfl, rfl, ?_⟩
      refine ⟨_, rfl, p, _, _, 2, rfl, rfl, hp, rfl, ?_⟩
      refine ⟨_, rfl, p, _, _, V.int b, rfl, rfl, SqL.of upd_same, rfl, _, rfl, p, _, _, V.int (c + 1), rfl, rfl, SqL.of upd_same, rfl, _, _, rfl, rfl, .inl ?_, _, _, rfl, rfl, .inl ⟨_, rfl, _, _, rfl, rfl, ?_, ?_⟩⟩
      · show -(2 ^ 64) < (1048609 : Int) ∧ (1048609 : Int) < 2 ^ 64
        decide
      · show (0 : Int) < 2305843009213693951
        decide
      have o1 : 0 ≤ (b + 1048609 * (c + 1)) % 2305843009213693951 := Int.emod_nonneg _ (by decide)
      have o2 : (b + 1048609 * (c + 1)) % 2305843009213693951 < 2305843009213693951 := Int.emod_lt_of_pos _ (by decide)
      generalize (b + 1048609 * (c + 1)) % 2305843009213693951 = one at o1 o2 ⊢
      refine ⟨_, rfl, _, rfl, _, _, rfl, rfl, .inl ⟨by omega, by omega⟩, .inl ⟨_, rfl, _, _, rfl, rfl, ?_, ?_⟩⟩
      · show (0 : Int) < 2305843009213693723
        decide
      have t1 : 0 ≤ one * one % 2305843009213693723 := Int.emod_nonneg _ (by decide)
      have t2 : one * one % 2305843009213693723 < 2305843009213693723 := Int.emod_lt_of_pos _ (by decide)
      generalize one * one % 2305843009213693723 = sq at t1 t2 ⊢
      refine ⟨_, rfl, _, _, rfl, rfl, .inl ⟨by omega, by omega⟩, _, rfl, p, _, _, V.int (c + 1), rfl, rfl, SqL.of upd_same, rfl, _, _, rfl, rfl, .inl ?_, _, _, rfl, rfl, ?_⟩
      · show -(2 ^ 64) < (8117 : Int) ∧ (8117 : Int) < 2 ^ 64
        decide
      generalize sq * one + 8117 * (c + 1) = two
      refine ⟨_, rfl, .inl ⟨_, rfl, _, _, rfl, rfl, ?_, _, _, rfl, rfl, ?_, .inl ⟨_, rfl, _, rfl, _, _, rfl, rfl, hn, ?_⟩⟩⟩
      · show (0 : Int) < 2305843009213693921
        decide
      · exact ⟨by decide, by decide⟩
      exact k _ _ (Int.emod_nonneg _ (by omega)) (Int.emod_lt_of_pos _ hn) (B0.put _ _ _)
theorem scOne : FnScope ["bag", "items"] ["bag", "items"] (defScope sOne) := ⟨rfl, rfl, rfl, by decide +kernel, rfl, by decide +kernel, by decide +kernel⟩
theorem ok_one {f fD : Addr} {fd fdD : FuncData} (F : Fun K "_law_one_of" "_law_one_of" sOne f fd) (T : TB mg) (FD : FnOk P w K mg base CX0 1 fD fdD ["bag", "total"] spDraw) (bD : Binds K fdD ["bag", "total"] []) (gD : mg "_law_draw" = some (.ref fD)) (kD : PySem.W.keepIn K (.ref fD) = true) :
    FnOk P w K mg base CX0 2 f fd ["bag", "items"] spOne := by
  refine F.ok scOne (fun vs H Q E h => ?_) (fun cdv A outer s H vs Q E hr h => ?_)
  · obtain ⟨p, q, a, b, c, xs, rfl, _⟩ := h
    rfl
  · obtain ⟨p, q, a, b, c, xs, rfl, hp, hne, hq, h0, h1, k⟩ := h
    refine ⟨_, pss_one (ps_ret (pe_ix ix_list (pv 1) (pe_call FD hr (by rfl) gD kD bD .nil pass0 (pa_cons (pv 0) (pa_cons (pe_callB call_len_seq (by rfl) T.len PySem.boot_len (pa_cons (pv 1) pa_nil)) pa_nil))) (fun _ _ => rfl))), ?_⟩
    refine ⟨_, rfl, _, rfl, _, rfl, q, _, rfl, .inl (SqL.of hq), p, a, b, c, _, rfl, hp, by omega, log_len h1, ?_⟩
    · intro r H' r0 r1 B
      obtain ⟨v, e1, e2⟩ := atI_in r0 r1
      exact ⟨q, xs, _, v, rfl, rfl, SqL.of (B.keep _ _ hne hq), e1, k r.toNat _ _ e2 B⟩
end
end Q
set_option Elab.async false
set_option linter.all false
set_option maxRecDepth 100000
set_option maxHeartbeats 2000000
namespace Q
open PySem L2
theorem pick {α : Type} : ∀ (ws : List α) (r : Nat) (y : α), ws[r]? = some y → (y :: ws.eraseIdx r).Perm ws
  | [], r, y, h => by simp at h
  | a :: l, 0, y, h => by
    have e : a = y := Option.some.inj h
    subst e
    exact List.Perm.refl _
  | a :: l, r + 1, y, h => by
    have ih := pick l r y h
    exact (List.Perm.swap a y _).trans (List.Perm.cons a ih)
theorem yes_ite {σ : L2.St} {H : Hp} {A B : Hp → Prop} (h : A H) : tYes σ H (fun b H3 => if b = true then A H3 else B H3) := by
  show (if true = true then A H else B H)
  rw [if_pos rfl]
  exact h
theorem seqAt {r : Int} {n : Nat} (h0 : 0 ≤ r) (h : r < n) : seqIndex? r n = some r.toNat := PySem.seqIndex_of h0 h
theorem Bgd.old {p l : Addr} {H H1 : Hp} {o : HO} (x : Bgd p H H1) (hl : H l = none) (n : l ≠ p) : Bgd p H (upd H1 l o) := by
  obtain ⟨a, b, c, e⟩ := x.bag
  refine ⟨⟨a, b, c, by rw [upd_ne (Ne.symm n)]; exact e⟩, fun m u nm q => ?_⟩
  rw [upd_ne (ne_of_none q hl)]
  exact x.keep m u nm q
def rLn (K : PySem.W.Frag) : List V → Hp → VK → Prop := fun xs H Q => ∃ p ys, xs = [.ref p] ∧ (SqL K H p ys ∨ SqT K H p ys) ∧ Q (.int ys.length) H
section
variable {P : Program} {w : World} {K : PySem.W.Frag} {mg : Str → Option Value} {base : Heap}
theorem scShuf : FnScope ["bag", "items", "waits", "turn"] ["bag", "items"] (defScope sShuf) := ⟨rfl, rfl, rfl, by decide +kernel, rfl, by decide +kernel, by decide +kernel⟩
/-- what stands between two draws -/
structure Mid (p W D : Addr) (xs : List V) (H : Hp) (i : Nat) (H' : Hp) : Prop where
  bg : Bgd p H H'
  at_ : ∃ ws acc, H' W = some (.lst ws) ∧ H' D = some (.lst acc) ∧ (acc ++ ws).Perm xs ∧ acc.length = i
theorem ok_shuf {f fD : Addr} {fd fdD : FuncData} (F : Fun K "_law_shuffled" "_law_shuffled" sShuf f fd) (T : TB mg) (FD : FnOk P w K mg base CX0 1 fD fdD ["bag", "total"] spDraw) (bD : Binds K fdD ["bag", "total"] []) (gD : mg "_law_draw" = some (.ref fD)) (kD : PySem.W.keepIn K (.ref fD) = true) :
    FnOk P w K mg base CX0 2 f fd ["bag", "items"] spShuf := by
  refine F.ok scShuf (fun vs H Q E h => ?_) (fun cdv A outer s H vs Q E hr h => ?_)
  · obtain ⟨p, q, a, b, c, xs, rfl, _⟩ := h
    rfl
  · obtain ⟨p, q, a, b, c, xs, rfl, hp, hne, hq, h1, k⟩ := h
    have B0 : Bgd p H H := Bgd.rfl' hp
    refine ⟨_, pss_cons (ps_set (i := 2) scShuf.nd rfl (Or.inr rfl) (pe_callTy call_list_of (by rfl) T.list (by decide +kernel) (pa_cons (pv 1) pa_nil)))
      (pss_one (ps_ret (pe_lc (own := [("turn", 3)]) (g := gName 3) (by rfl) scShuf.nd
        (pi_range1 rfl T.range (pa_cons (pe_callB call_len_seq (by rfl) T.len PySem.boot_len (pa_cons (pv 1) pa_nil)) pa_nil))
        (blkOk_by (own := [("turn", 3)]) (N := ["bag", "items", "waits", "turn"]) (sc := defScope sShuf) (by decide +kernel))
        (fun _ _ _ _ _ => pg_name (i := 3) scShuf.nd rfl (Or.inl rfl)) (fun _ _ _ _ _ => pts_nil)
        (te := tBM K "list" rPopAt (tVar 2) (tCons (tCall spDraw [] E0 (tCons (tVar 0) (tCons (tCB (rLn K) (tCons (tVar 2) tNil)) tNil))) tNil))
        (fun _ _ _ _ _ => by exact (pe_bm PySem.F.plainAttrs_list PySem.F.slot_list_pop PySem.F.type_list_pop mt_popAt (pv 2)
          (pa_cons (pe_call FD hr (by rfl) gD kD bD .nil pass0 (pa_cons (pv 0) (pa_cons (pe_callB call_len_seq (by rfl) T.len PySem.boot_len (pa_cons (pv 2) pa_nil)) pa_nil))) pa_nil)))))), ?_⟩
    refine ⟨_, rfl, q, xs, rfl, .inl (SqL.of hq), fun W hW => ?_⟩
    have nWp : W ≠ p := ne_of_none hp hW |>.symm
    have nqW : q ≠ W := ne_of_none hq hW
    have B1 := B0.new (o := .lst xs) hW
    refine ⟨_, rfl, q, xs, rfl, .inl (SqL.of (by rw [upd_ne nqW]; exact hq)), _, rfl, (by omega), (by omega), fun D hD => ?_⟩
    have nDW : D ≠ W := fun z => by rw [z, upd_same] at hD; cases hD
    have hD0 : H D = none := by rw [upd_ne nDW] at hD; exact hD
    have nDp : D ≠ p := ne_of_none hp hD0 |>.symm
    refine lc_range (lo := 0) (n := xs.length) (Mid p W D xs H) ⟨B1.new hD, xs, [], ?_, upd_same, List.Perm.refl _, rfl⟩ ?_ ?_
    · rw [upd_ne nDW.symm]
      exact upd_same
    · rintro i H1 hi ⟨B, ws, acc, eW, eD, pm, la⟩
      have hl := pm.length_eq
      rw [List.length_append] at hl
      have hws : 0 < ws.length := by omega
      obtain ⟨b0, b1, b2, eb⟩ := B.bag
      refine ⟨rfl, yes_ite ?_⟩
      refine ⟨_, rfl, .inl ⟨rfl, _, SqL.of eW⟩, _, rfl, _, rfl, W, ws, rfl, .inl (SqL.of eW), p, b0, b1, b2, _, rfl, eb, by omega, log_len (by omega), ?_⟩
      intro r H2 r0 r1 B2
      have eW2 := B2.keep _ _ nWp eW
      have eD2 := B2.keep _ _ nDp eD
      obtain ⟨y, _, ey⟩ := atI_in r0 r1
      refine ⟨W, ws, r, r.toNat, y, rfl, rfl, eW2, by omega, by omega, seqAt r0 r1, ey, acc, ?_, ?_, ?_⟩
      · rw [upd_ne nDW]
        exact eD2
      · exact Nat.lt_of_le_of_lt (show acc.length ≤ 1000 by omega) (by decide)
      · refine ⟨((B.trans B2).old hW nWp).old hD0 nDp, ws.eraseIdx r.toNat, acc ++ [y], ?_, upd_same, ?_, ?_⟩
        · rw [upd_ne nDW.symm]
          exact upd_same
        · rw [List.append_assoc]
          exact ((List.Perm.append_left acc (pick ws _ y ey))).trans pm
        · rw [List.length_append, la]
          rfl
    · rintro H1 ⟨B, ws, acc, eW, eD, pm, la⟩
      have hl := pm.length_eq
      rw [List.length_append] at hl
      have ew : ws = [] := List.eq_nil_of_length_eq_zero (by omega)
      subst ew
      rw [List.append_nil] at pm
      exact k D acc H1 pm eD hD0 B
end
end Q
set_option Elab.async false
set_option linter.all false
set_option maxRecDepth 100000
set_option maxHeartbeats 4000000
/-! own exceptions with an __init__ that keeps one or three values, over any built-in base -/
namespace PySem
namespace OwnX
open PySem.W PySem.Calls PyProof.Rows PySem.HandSPX Builtin Builtin.ObjectAttr
structure OwnTxt (K : Frag) (C fI : Addr) (bmB : List Value) (newId : String) : Prop where
  cls : ∃ nm q N bs bm sn sub ab col dd k0 k1 k2 k3 k5, K.lookup C = some (excClassObj nm q C N bs bm true sn sub ab col dd k0 k1 k2 k3 k5 newId) ∧ excTail bmB bm = true
  sa : findIn K (.ref C) "__setattr__" = some (some (.builtin "object.__setattr__"))
  ga : findIn K (.ref C) "__getattribute__" = some (some (.builtin "BaseException.__getattribute__"))
  gg : findIn K (.ref C) "__getattr__" = some none
  iC : findIn K (.ref C) "__init__" = some (some (.ref fI))
  tC : typeIn K (.ref fI) = some (.type "function")
  kC : keepIn K (.ref C) = true
  exC : subIn K (.ref C) (.type "BaseException") = some true
  tyC : typeIn K (.ref C) = some (.type "type")
  hdC : hasDictIn K C = true
section
variable {prog : Program} {w : World} {A : Around} {E : Value → Shared → Prop} {R : Result → Shared → Prop} {K : Frag} {C fI : Addr} {bmB : List Value} {newId : String}
theorem OwnTxt.over (T : OwnTxt K C fI bmB newId) : excOver K C bmB = true := by
  obtain ⟨nm, q, N, bs, bm, sn, sub, ab, col, dd, k0, k1, k2, k3, k5, hC, hbm⟩ := T.cls
  have e : clsIn K C = some { name := nm, bases := bs, mro := .ref C :: bm, ns := N, qualname := q, hasDict := true, slotNames := sn, subclasses := sub, abstract := ab, collection := col, hasDel := false } := by
    unfold clsIn
    rw [hC]
    all_goals rfl
  unfold excOver
  rw [e]
  show ((C == C) && excTail bmB bm) = true
  rw [hbm, beq_self_eq_true]
  rfl
theorem taker_none {name : Str} (ha : findIn K (.ref C) name = some none) : takerIn K C name = some none := by
  unfold takerIn
  rw [ha]
  rfl
variable {hp : Heap} {g : Array GenState} {d : Drawn} {t : Nat} {os : OsState} {B initId : String}
/-- the first value kept: the error's own dict is laid -/
theorem keep_first (SF : StoreFacts B bmB "object.__setattr__" "object") (T : OwnTxt K C fI bmB newId) {name : Str} {tk : Tok} {v : Value} {x : Addr} {fv : Array Value} (X : K.In hp)
    (hx : hp.get? x = some { cls := .ref C, data := .fields fv }) (ha : findIn K (.ref C) name = some none)
    (hq : ∀ h' tk' dx, (∀ b o, b ≠ x → hp.get? b = some o → h'.get? b = some o) → hp.objs.size ≤ dx → dx ≠ x → h'.get? x = some { cls := .ref C, dict := some dx, data := .fields fv } →
      h'.Ns1 dx (fun y => if y = name then some v else none) → R (.ok (.ret .none)) ⟨h', g, d, tk', os⟩) :
    codeAny (model prog w) A (.call (.builtin "object.__setattr__") ⟨[.ref x, .str name tk, v], []⟩) R ⟨hp, g, d, t, os⟩ := by
  obtain ⟨nm, q, N, bs, bm, sn, sub, ab, col, dd, k0, k1, k2, k3, k5, hC, hbm⟩ := T.cls
  have ec : clsIn K C = some { name := nm, bases := bs, mro := .ref C :: bm, ns := N, qualname := q, hasDict := true, slotNames := sn, subclasses := sub, abstract := ab, collection := col, hasDel := false } := by
    unfold clsIn
    rw [hC]
    all_goals rfl
  have hxs : x ≠ hp.objs.size := Nat.ne_of_lt (Heap.lt_size hx)
  refine osa_openX (od := none) SF X ⟨hx, rfl, rfl, trivial⟩ T.over (taker_none ha) fun b => ?_
  have LC := looks_clsIn (M := model prog w) X ec
  show wpAny _ _ (storeInOwnDict _ _ _ _ _ _) _ _ _
  unfold storeInOwnDict ownDictForStores
  repeat (first
    | with_reducible refine HandSPX.store_in_new ?_ ?_
    | with_reducible refine wpAny_loadPart_at hx ?_
    | with_reducible refine LC.at ?_
    | wp_step)
  · exact ⟨_, #[], _, (Heap.get?_update_ne _ _ _ _ (Ne.symm hxs)).trans (Heap.get?_push_at rfl rfl), rfl, fun e he => absurd he (by simp), fun _ => rfl⟩
  · intro h' tk' hn' hs
    have hy : (hp.push { cls := .type "dict", data := .dict #[] }).get? x = some { cls := .ref C, data := .fields fv } := Heap.get?_push_of_some _ hx
    refine hq h' tk' hp.objs.size (fun b o hb ho => ?_) (Nat.le_refl _) (Ne.symm hxs) ?_ hn'
    · exact (hs.2 b (Nat.ne_of_lt (Heap.lt_size ho))).trans ((Heap.get?_update_ne _ _ _ _ hb).trans (Heap.get?_push_of_some _ ho))
    · exact (hs.2 x hxs).trans (Heap.get?_update_self _ hy rfl)
/-- a further value -/
theorem keep_more (SF : StoreFacts B bmB "object.__setattr__" "object") (T : OwnTxt K C fI bmB newId) {name : Str} {tk : Tok} {v : Value} {x dx : Addr} {fv : Array Value} {m0 : Str → Option Value} {nl : List Str} (X : K.In hp)
    (hx : hp.get? x = some { cls := .ref C, dict := some dx, data := .fields fv }) (hns : hp.Ns1 dx m0) (hw : Within m0 nl) (hz : nl.length ≤ 1000) (ha : findIn K (.ref C) name = some none)
    (hq : ∀ h' tk', (∀ b o, b ≠ dx → hp.get? b = some o → h'.get? b = some o) → h'.Ns1 dx (fun y => if y = name then some v else m0 y) → R (.ok (.ret .none)) ⟨h', g, d, tk', os⟩) :
    codeAny (model prog w) A (.call (.builtin "object.__setattr__") ⟨[.ref x, .str name tk, v], []⟩) R ⟨hp, g, d, t, os⟩ := by
  obtain ⟨nm, q, N, bs, bm, sn, sub, ab, col, dd, k0, k1, k2, k3, k5, hC, hbm⟩ := T.cls
  have ec : clsIn K C = some { name := nm, bases := bs, mro := .ref C :: bm, ns := N, qualname := q, hasDict := true, slotNames := sn, subclasses := sub, abstract := ab, collection := col, hasDel := false } := by
    unfold clsIn
    rw [hC]
    all_goals rfl
  obtain ⟨oD, esD, epD, hoD, hdD, _⟩ := hns.count hw
  refine osa_openX (od := some oD) SF X ⟨hx, rfl, rfl, hoD⟩ T.over (taker_none ha) fun b => ?_
  have LC := looks_clsIn (M := model prog w) X ec
  show wpAny _ _ (storeInOwnDict _ _ _ _ _ _) _ _ _
  unfold storeInOwnDict ownDictForStores
  repeat (first
    | with_reducible refine OEX.store_in_old hns hw hz ?_
    | with_reducible refine wpAny_loadPart_at hx ?_
    | with_reducible refine LC.at ?_
    | wp_step)
  intro h' tk' hn' hs
  exact hq h' tk' (fun b o hb ho => (hs.2 b hb).trans ho) hn'
end
end OwnX
end PySem
set_option Elab.async false
set_option linter.all false
set_option maxRecDepth 100000
set_option maxHeartbeats 4000000
/-! the call of an own error class with an __init__ of its own, where only a base further up has a __new__ (KeyError has none) -/
namespace PySem
namespace OwnX
open PySem.W PySem.Calls PyProof.Rows PySem.HandSPX Builtin Builtin.ObjectAttr
/-- what the classes behind the own one say -/
structure Behind (B : String) (bm : List Value) : Prop where
  has : bm.contains (.type B) = true
  noA : bm.contains (.type "AttributeError") = false
  noN : bm.contains (.type "NameError") = false
section
variable {prog : Program} {w : World} {A : Around} {E : Value → Shared → Prop} {R : Result → Shared → Prop} {hp : Heap} {g : Array GenState} {d : Drawn} {t : Nat} {os : OsState}
variable {nm q : Str} {C N fI : Addr} {bs bm bmF rest : List Value} {hdct : Bool} {sn : List Str} {sub : List Value} {ab : Bool} {col : Option Bool} {dd : Option Addr} {k0 k1 k2 k3 k5 : Option Value} {B newId initId : String}
theorem mk_check {M : Model} {Q : Unit → Shared → Prop} (F : ExcBaseFacts B newId initId bmF) (b : Behind B bm)
    (hC : hp.get? C = some (excClassObj nm q C N bs bm hdct sn sub ab col dd k0 k1 k2 k3 k5 newId)) (done : Q () ⟨hp, g, d, t, os⟩) :
    wpAny M A (checkBuiltinCall newId ⟨.ref C :: rest, []⟩) Q E ⟨hp, g, d, t, os⟩ := by
  have inB : (Value.ref C :: bm).contains (.type B) = true := by
    rw [List.contains_cons, b.has]
    exact Bool.or_true _
  have star := F.noStar
  simp only [checkBuiltinCall, F.newKind,
    F.newSplit, F.newRow]
  repeat (first
    | refine wpAny_loadPart_at hC ?_
    | (refine wpAny_isSubtype_exc hC ?_
       rw [inB])
    | refine wpAny_staticBase_exc hC ?_
    | refine wpAny_madeBy_exc hC ?_
    | simp only [bne_self_eq_false, if_false,
        Bool.false_eq_true]
    | wp_step)
  exact done
theorem mk_new (F : ExcBaseFacts B newId initId bmF) (b : Behind B bm) (hC : hp.get? C = some (excClassObj nm q C N bs bm hdct sn sub ab col dd k0 k1 k2 k3 k5 newId))
    (few : rest.length ≤ sizeLine) (done : R (.ok (.ret (.ref (hp.objs.size + 1)))) ⟨(hp.push (kdv_tup rest)).push (excO C hp.objs.size), g, d, t, os⟩) :
    codeAny (model prog w) A (.builtin newId ⟨.ref C :: rest, []⟩) R ⟨hp, g, d, t, os⟩ := by
  have ends := F.ends
  have inB : (Value.ref C :: bm).contains (.type B) = true := by
    rw [List.contains_cons, b.has]
    exact Bool.or_true _
  have inA : (Value.ref C :: bm).contains (.type "AttributeError") = false := by
    rw [List.contains_cons, b.noA]
    rfl
  have inN : (Value.ref C :: bm).contains (.type "NameError") = false := by
    rw [List.contains_cons, b.noN]
    rfl
  refine codeAny_builtinAt F.entry ?_
  unfold Builtin.«BaseException.__new__»
  refine wpAt_bind ?_
  show wpAt _ _ _ (stack >>= _) _ _ _
  refine wpAt_bind (wpAt_stack fun _ _ => wpAt_of_wpAny ?_)
  wp_walk
  refine wpAt_of_wpAny ?_
  rw [F.owner]
  repeat (first
    | with_reducible refine wpAny_madeHere_exc F.canon hC ?_
    | with_reducible refine wpAny_loadPart_at hC ?_
    | (with_reducible refine wpAny_isSubtype_exc hC ?_
       first
         | rw [inB]
         | rw [inA]
         | rw [inN])
    | wp_step)
  show R _ _
  rw [Heap.size_push]
  exact done
theorem mk_body (F : ExcBaseFacts B newId initId bmF) (b : Behind B bm) {Q : Fin → Shared → Prop} (hC : hp.get? C = some (excClassObj nm q C N bs bm hdct sn sub ab col dd k0 k1 k2 k3 k5 newId))
    (li : Looks (model prog w) hp (typeLookup (.ref C) "__init__") (some (.ref fI))) (lb : ∀ x, Looks (model prog w) hp (bindSpecial (.ref fI) x) (.ref fI, [x])) (few : rest.length ≤ sizeLine)
    (done : codeAny (model prog w) A (.call (.ref fI) ⟨.ref (hp.objs.size + 1) :: rest, []⟩)
      (fun r s' => match r with
        | .ok (.ret v) => v = .none ∧ Q (.done (.ret (.ref (hp.objs.size + 1)))) s'
        | .ok _ => False
        | .error e => E e s') ⟨(hp.push (kdv_tup rest)).push (excO C hp.objs.size), g, d, t, os⟩) :
    wpAny (model prog w) A (Builtin.«type.__call__» ⟨.ref C :: rest, []⟩) Q E ⟨hp, g, d, t, os⟩ := by
  repeat (first
    | with_reducible refine wpAny_loadPart_at hC ?_
    | with_reducible refine wpAny_madeBy_exc hC ?_
    | wp_step)
  refine codeAny_call_builtin_code (Code.quiet_builtin _ F.quiet) (mk_check F b hC ?_)
  refine mk_new F b hC few ?_
  show wpAny _ _ _ _ _ _
  have old : ∀ b o, hp.get? b = some o → ((hp.push (kdv_tup rest)).push (excO C hp.objs.size)).get? b = some o := fun _ _ e => Heap.get?_push_of_some _ (Heap.get?_push_of_some _ e)
  have cls1 := old _ _ hC
  have made : ((hp.push (kdv_tup rest)).push (excO C hp.objs.size)).get? (hp.objs.size + 1) = some (excO C hp.objs.size) := by
    heap_get
  have own : (Value.ref C :: bm).contains (.ref C) = true := by
    simp
  have li' := li.keeps old
  have lb' := (lb (.ref (hp.objs.size + 1))).keeps old
  unfold isInstance
  repeat (first
    | with_reducible refine wpAny_loadPart_at made ?_
    | (with_reducible refine wpAny_isSubtype_exc cls1 ?_
       rw [own])
    | wp_step)
  show wpAny _ _ (typeLookup (.ref C) _) _ _ _
  refine li'.at ?_
  refine wpAny_holding (wpAny_bind (lb'.at ?_))
  refine wpAny_bind (wpAny_call (codeAny_mono done fun r s' z => ?_))
  rcases r with e | (v | _ | _ | _) <;> first
    | exact z
    | exact z.elim
    | (obtain ⟨rfl, z2⟩ := z
       first
         | exact wpAny_pure (wpAny_pure z2)
         | (wp_walk
            exact z2))
theorem mk_call (F : ExcBaseFacts B newId initId bmF) (b : Behind B bm) (hC : hp.get? C = some (excClassObj nm q C N bs bm hdct sn sub ab col dd k0 k1 k2 k3 k5 newId))
    (li : Looks (model prog w) hp (typeLookup (.ref C) "__init__") (some (.ref fI))) (lb : ∀ x, Looks (model prog w) hp (bindSpecial (.ref fI) x) (.ref fI, [x])) (few : rest.length ≤ sizeLine)
    (done : codeAny (model prog w) (A.under (.builtin "type.__call__" ⟨.ref C :: rest, []⟩)) (.call (.ref fI) ⟨.ref (hp.objs.size + 1) :: rest, []⟩)
      (InitBack (hp.objs.size + 1) R) ⟨(hp.push (kdv_tup rest)).push (excO C hp.objs.size), g, d, t, os⟩) :
    codeAny (model prog w) A (.call (.ref C) ⟨rest, []⟩) R ⟨hp, g, d, t, os⟩ := by
  have z1 := tc_lookup
  have z2 := tc_bind (.ref C)
  have z3 : (⟨hp, g, d, t, os⟩ : Shared).TypeIs (.ref C) "type" := ⟨_, hC, rfl⟩
  refine codeAny_of_tree ?_
  show wpAny _ _ (callAny (.ref C) _) _ _ _
  repeat (any_goals (first
    | assumption
    | with_reducible refine wpAny_loadPart_at hC ?_
    | wp_step))
  refine ⟨rfl, ?_⟩
  refine codeAny_call_builtin_at (Code.quiet_builtin _ (by decide +kernel)) entry_typeCall (wpAny_check_type_call_sub hC ?_)
  refine mk_body F b hC li lb few (codeAny_mono done fun r s' z => ?_)
  rcases r with e | (v | _ | _ | _) <;> exact z
end
end OwnX
end PySem
set_option Elab.async false
set_option linter.all false
set_option maxRecDepth 100000
set_option maxHeartbeats 4000000
/-! the making of own errors: __init__ keeps what it is given -/
namespace PySem
namespace OwnX
open PySem.W PySem.Calls PyProof.Rows PySem.HandSPX
def argOf (n : Str) (p : Pos) : Arg := { arg := n, annotation := none, pos := p }
def iArgs (l : List Arg) : Arguments := { posonlyargs := [], args := l, vararg := none, kwonlyargs := [], kw_defaults := [], kwarg := none, defaults := [] }
def putSt (f p : Str) (q1 q2 q3 q4 : Pos) : Stmt := .Assign [.Attribute (.Name "self" q1) f q2] (.Name p q3) q4
def iScope (l : List Str) : Scope := { kind := .function, names := l.map fun n => (n, .local), isGenerator := false, isCoroutine := false, more := [] }
/-- the def at fI is such an __init__: its parameters and its text -/
def IsInit (K : Frag) (fI : Addr) (qual : Str) (args : Arguments → Prop) (body : List Stmt → Prop) (sc : Scope) : Prop :=
  ∃ (oc : Value) (od : Option Addr) (doc pm : Value) (an : Option Addr) (cdv ct : Value) (osl : Array (Option Value)) (a : Arguments) (b : List Stmt),
    K.lookup fI = some ⟨oc, od, .func (fnOf "__init__" qual a b sc .none .none doc pm an cdv ct), osl⟩ ∧ codeIn K cdv qual = true ∧ args a ∧ body b
theorem size_few (l : List Value) (h : l.length ≤ 5) : l.length ≤ sizeLine := by
  rw [sizeLine_eq]
  exact Nat.le_trans h (by decide)
theorem loadL {M : Model} {s : Shared} {name : Str} {scope : Scope} {L a : Addr} {cd : Value} {m : Str → Option Value} {x : Str} {pos : Pos} {v : Value} {Q : Value → Shared → Prop} {A : Around} {E : Value → Shared → Prop}
    (hn : s.heap.Ns L m) (hv : m x = some v) (h : Q v s) (hk : scope.kind = .function := by rfl) (hl : (envOfC name scope L a cd).kindOf x = some .local := by rfl) (hd : (x == ("__debug__" : Str)) = false := by decide) :
    wpAny M A (eval (.Name x pos) (envOfC name scope L a cd)) Q E s := wpAny_Name (wpAny_loadName_local hk hl hn hv h) hd
/-- what __init__ leaves of a fresh error at x: its own dict, new, says m -/
structure Kept (h h' : Heap) (x C dx t1 : Addr) (m : Str → Option Value) : Prop where
  keep : ∀ b o, b ≠ x → h.get? b = some o → h'.get? b = some o
  obj : h'.get? x = some { cls := .ref C, dict := some dx, data := .fields #[.ref t1, .none, .none, .none, .bool false, .none] }
  dbig : h.objs.size ≤ dx
  dne : dx ≠ x
  ns : h'.Ns1 dx m
/-- a made error -/
structure Made (h h' : Heap) (e C d : Addr) (m : Str → Option Value) : Prop where
  keep : ∀ b o, h.get? b = some o → h'.get? b = some o
  new : h.objs.size ≤ e
  obj : ∃ oe vs, h'.get? e = some oe ∧ oe.cls = .ref C ∧ oe.dict = some d ∧ oe.data = .fields vs ∧ vs[1]? = some .none
  dbig : h.objs.size ≤ d
  dne : d ≠ e
  ns : h'.Ns1 d m
section
variable {prog : Program} {w : World} {A : Around} {E : Value → Shared → Prop} {R : Result → Shared → Prop} {s : Shared} {K : Frag} {C fI : Addr} {bmB : List Value} {newId B initId : String}
/-- the class is called: it is made if its __init__ keeps -/
theorem made_of {bmF : List Value} (FB : ExcBaseFacts B newId initId bmF) (bh : Behind B bmB) (T : OwnTxt K C fI bmB newId) {us : List Value} {m : Str → Option Value} (hus : us.length ≤ 5) (X : K.In s.heap) (hlim : s.heap.NoLimit) (hroom : A.depth + 1 < recursionLimit)
    (hI : ∀ {A' : Around} {R' : Result → Shared → Prop} {s' : Shared} {x t0 : Addr}, K.In s'.heap → s'.heap.NoLimit → s'.heap.get? x = some (excO C t0) → K.lookup x = none → A'.depth < recursionLimit →
      (∀ h' tk dx, Kept s'.heap h' x C dx t0 m → R' (.ok (.ret .none)) { s' with heap := h', toks := tk }) → codeAny (model prog w) A' (.call (.ref fI) ⟨.ref x :: us, []⟩) R' s')
    (hq : ∀ h' tk e d, Made s.heap h' e C d m → R (.ok (.ret (.ref e))) { s with heap := h', toks := tk }) :
    codeAny (model prog w) A (.call (.ref C) ⟨us, []⟩) R s := by
  obtain ⟨nm, q, N, bs, bm, sn, sub, ab, col, dd, k0, k1, k2, k3, k5, hC, hbm⟩ := T.cls
  obtain ⟨hp, g, dr, tk, os⟩ := s
  have k : ∀ b o, hp.get? b = some o → ((hp.push (kdv_tup us)).push (excO C hp.objs.size)).get? b = some o := fun b o e => Heap.get?_push_of_some _ (Heap.get?_push_of_some _ e)
  have hget : ((hp.push (kdv_tup us)).push (excO C hp.objs.size)).get? (hp.objs.size + 1) = some (excO C hp.objs.size) := by heap_get
  have bh' : Behind B bm := ⟨(excTail_contains _ bm hbm).trans bh.has, (excTail_contains _ bm hbm).trans bh.noA, (excTail_contains _ bm hbm).trans bh.noN⟩
  refine mk_call FB bh' (X _ _ hC) (looks_findIn X T.iC) (fun self => bind_fn X self T.tC) (size_few us hus) ?_
  have hnx : K.lookup (hp.objs.size + 1) = none := by
    cases e : K.lookup (hp.objs.size + 1) with
    | none => rfl
    | some o => exact absurd (Nat.lt_of_succ_lt (Heap.lt_size (X _ _ e : hp.get? (hp.objs.size + 1) = some o))) (Nat.lt_irrefl _)
  refine hI (s' := ⟨(hp.push (kdv_tup us)).push (excO C hp.objs.size), g, dr, tk, os⟩) (X.keeps k) (hlim.keeps k) hget hnx ?_ fun h' tk' dx ⟨k', hx, dn, dne, hns⟩ => ?_
  · show A.depth + 1 < recursionLimit
    exact hroom
  · have old : ∀ b o, hp.get? b = some o → h'.get? b = some o := fun b o e => k' b o (Nat.ne_of_lt (Nat.lt_succ_of_lt (Heap.lt_size e))) (k b o e)
    have z : hp.objs.size + 1 + 1 ≤ dx := by
      first
        | (simpa only [Heap.size_push] using dn)
        | exact dn
        | (have q := dn; rw [Heap.size_push, Heap.size_push] at q; exact q)
    exact ⟨rfl, hq h' tk' (hp.objs.size + 1) dx ⟨old, Nat.le_succ _, ⟨_, _, hx, rfl, rfl, rfl, rfl⟩, Nat.le_trans (Nat.le_trans (Nat.le_succ _) (Nat.le_succ _)) z, dne, hns⟩⟩
theorem init_name (SF : StoreFacts B bmB "object.__setattr__" "object") (T : OwnTxt K C fI bmB newId) {qual : Str} (noN : findIn K (.ref C) "name" = some none)
    (fn : IsInit K fI qual (fun a => ∃ p1 p2, a = iArgs [argOf "self" p1, argOf "name" p2]) (fun b => ∃ q1 q2 q3 q4, b = [putSt "name" "name" q1 q2 q3 q4]) (iScope ["self", "name"]))
    {x t0 : Addr} {v : Value} (X : K.In s.heap) (hlim : s.heap.NoLimit) (hx : s.heap.get? x = some (excO C t0)) (hnx : K.lookup x = none) (hroom : A.depth < recursionLimit)
    (hq : ∀ h' tk dx, Kept s.heap h' x C dx t0 (fun y => if y = "name" then some v else none) → R (.ok (.ret .none)) { s with heap := h', toks := tk }) :
    codeAny (model prog w) A (.call (.ref fI) ⟨[.ref x, v], []⟩) R s := by
  obtain ⟨oc, od, doc, pm, an, cdv, ct, osl, a, b, ho, hcd, ⟨p1, p2, rfl⟩, ⟨q1, q2, q3, q4, rfl⟩⟩ := fn
  refine Att.call_fn (binds := [("self", .ref x), ("name", v)]) X hlim ho hcd hroom (BindsTo.of_eq (by first | rfl | with_unfolding_all rfl)) (by first | rfl | decide | with_unfolding_all rfl) (fun s₁ IC => ?_) rfl rfl rfl
  obtain ⟨h₁, tk₁, rfl⟩ := IC.toInCall.same
  have k : ∀ b o, s.heap.get? b = some o → h₁.get? b = some o := IC.toInCall.keep
  have hn := IC.toInCall.ns
  have X₁ : K.In h₁ := X.keeps k
  have hx₁ := k _ _ hx
  show wpAny _ _ (execs _ _) _ _ _
  refine wpAny_execs_cons (plainObj_wpAny_Assign_Attribute ?_)
  refine loadL (v := v) hn (by first | rfl | with_unfolding_all rfl | kernel_rfl) (loadL (v := .ref x) hn (by first | rfl | with_unfolding_all rfl | kernel_rfl) ?_)
  refine set_plain X₁ (ox := excO C t0) (od := none) ⟨hx₁, rfl, rfl, trivial⟩ T.sa ?_
  refine keep_first SF T X₁ hx₁ noN (fun h₃ tk₃ dx k₃ dn dne hx₃ hn₃ => ?_)
  show wpAny _ _ (execs _ _) _ _ _
  have z : s.heap.objs.size < h₁.objs.size := hn.lt
  exact wpAny_execs_nil (hq h₃ tk₃ dx ⟨fun b o hb e => k₃ b o hb (k b o e), hx₃, Nat.le_of_lt (Nat.lt_of_lt_of_le z dn), dne, hn₃⟩)
theorem init_index (SF : StoreFacts B bmB "object.__setattr__" "object") (T : OwnTxt K C fI bmB newId) {qual : Str} (noN : findIn K (.ref C) "index" = some none)
    (fn : IsInit K fI qual (fun a => ∃ p1 p2, a = iArgs [argOf "self" p1, argOf "index" p2]) (fun b => ∃ q1 q2 q3 q4, b = [putSt "index" "index" q1 q2 q3 q4]) (iScope ["self", "index"]))
    {x t0 : Addr} {v : Value} (X : K.In s.heap) (hlim : s.heap.NoLimit) (hx : s.heap.get? x = some (excO C t0)) (hnx : K.lookup x = none) (hroom : A.depth < recursionLimit)
    (hq : ∀ h' tk dx, Kept s.heap h' x C dx t0 (fun y => if y = "index" then some v else none) → R (.ok (.ret .none)) { s with heap := h', toks := tk }) :
    codeAny (model prog w) A (.call (.ref fI) ⟨[.ref x, v], []⟩) R s := by
  obtain ⟨oc, od, doc, pm, an, cdv, ct, osl, a, b, ho, hcd, ⟨p1, p2, rfl⟩, ⟨q1, q2, q3, q4, rfl⟩⟩ := fn
  refine Att.call_fn (binds := [("self", .ref x), ("index", v)]) X hlim ho hcd hroom (BindsTo.of_eq (by first | rfl | with_unfolding_all rfl)) (by first | rfl | decide | with_unfolding_all rfl) (fun s₁ IC => ?_) rfl rfl rfl
  obtain ⟨h₁, tk₁, rfl⟩ := IC.toInCall.same
  have k : ∀ b o, s.heap.get? b = some o → h₁.get? b = some o := IC.toInCall.keep
  have hn := IC.toInCall.ns
  have X₁ : K.In h₁ := X.keeps k
  have hx₁ := k _ _ hx
  show wpAny _ _ (execs _ _) _ _ _
  refine wpAny_execs_cons (plainObj_wpAny_Assign_Attribute ?_)
  refine loadL (v := v) hn (by first | rfl | with_unfolding_all rfl | kernel_rfl) (loadL (v := .ref x) hn (by first | rfl | with_unfolding_all rfl | kernel_rfl) ?_)
  refine set_plain X₁ (ox := excO C t0) (od := none) ⟨hx₁, rfl, rfl, trivial⟩ T.sa ?_
  refine keep_first SF T X₁ hx₁ noN (fun h₃ tk₃ dx k₃ dn dne hx₃ hn₃ => ?_)
  show wpAny _ _ (execs _ _) _ _ _
  have z : s.heap.objs.size < h₁.objs.size := hn.lt
  exact wpAny_execs_nil (hq h₃ tk₃ dx ⟨fun b o hb e => k₃ b o hb (k b o e), hx₃, Nat.le_of_lt (Nat.lt_of_lt_of_le z dn), dne, hn₃⟩)
theorem init_value (SF : StoreFacts B bmB "object.__setattr__" "object") (T : OwnTxt K C fI bmB newId) {qual : Str} (noN : findIn K (.ref C) "value" = some none)
    (fn : IsInit K fI qual (fun a => ∃ p1 p2, a = iArgs [argOf "self" p1, argOf "value" p2]) (fun b => ∃ q1 q2 q3 q4, b = [putSt "value" "value" q1 q2 q3 q4]) (iScope ["self", "value"]))
    {x t0 : Addr} {v : Value} (X : K.In s.heap) (hlim : s.heap.NoLimit) (hx : s.heap.get? x = some (excO C t0)) (hnx : K.lookup x = none) (hroom : A.depth < recursionLimit)
    (hq : ∀ h' tk dx, Kept s.heap h' x C dx t0 (fun y => if y = "value" then some v else none) → R (.ok (.ret .none)) { s with heap := h', toks := tk }) :
    codeAny (model prog w) A (.call (.ref fI) ⟨[.ref x, v], []⟩) R s := by
  obtain ⟨oc, od, doc, pm, an, cdv, ct, osl, a, b, ho, hcd, ⟨p1, p2, rfl⟩, ⟨q1, q2, q3, q4, rfl⟩⟩ := fn
  refine Att.call_fn (binds := [("self", .ref x), ("value", v)]) X hlim ho hcd hroom (BindsTo.of_eq (by first | rfl | with_unfolding_all rfl)) (by first | rfl | decide | with_unfolding_all rfl) (fun s₁ IC => ?_) rfl rfl rfl
  obtain ⟨h₁, tk₁, rfl⟩ := IC.toInCall.same
  have k : ∀ b o, s.heap.get? b = some o → h₁.get? b = some o := IC.toInCall.keep
  have hn := IC.toInCall.ns
  have X₁ : K.In h₁ := X.keeps k
  have hx₁ := k _ _ hx
  show wpAny _ _ (execs _ _) _ _ _
  refine wpAny_execs_cons (plainObj_wpAny_Assign_Attribute ?_)
  refine loadL (v := v) hn (by first | rfl | with_unfolding_all rfl | kernel_rfl) (loadL (v := .ref x) hn (by first | rfl | with_unfolding_all rfl | kernel_rfl) ?_)
  refine set_plain X₁ (ox := excO C t0) (od := none) ⟨hx₁, rfl, rfl, trivial⟩ T.sa ?_
  refine keep_first SF T X₁ hx₁ noN (fun h₃ tk₃ dx k₃ dn dne hx₃ hn₃ => ?_)
  show wpAny _ _ (execs _ _) _ _ _
  have z : s.heap.objs.size < h₁.objs.size := hn.lt
  exact wpAny_execs_nil (hq h₃ tk₃ dx ⟨fun b o hb e => k₃ b o hb (k b o e), hx₃, Nat.le_of_lt (Nat.lt_of_lt_of_le z dn), dne, hn₃⟩)
theorem init_limit (SF : StoreFacts B bmB "object.__setattr__" "object") (T : OwnTxt K C fI bmB newId) {qual : Str} (noN : findIn K (.ref C) "limit" = some none)
    (fn : IsInit K fI qual (fun a => ∃ p1 p2, a = iArgs [argOf "self" p1, argOf "limit" p2]) (fun b => ∃ q1 q2 q3 q4, b = [putSt "limit" "limit" q1 q2 q3 q4]) (iScope ["self", "limit"]))
    {x t0 : Addr} {v : Value} (X : K.In s.heap) (hlim : s.heap.NoLimit) (hx : s.heap.get? x = some (excO C t0)) (hnx : K.lookup x = none) (hroom : A.depth < recursionLimit)
    (hq : ∀ h' tk dx, Kept s.heap h' x C dx t0 (fun y => if y = "limit" then some v else none) → R (.ok (.ret .none)) { s with heap := h', toks := tk }) :
    codeAny (model prog w) A (.call (.ref fI) ⟨[.ref x, v], []⟩) R s := by
  obtain ⟨oc, od, doc, pm, an, cdv, ct, osl, a, b, ho, hcd, ⟨p1, p2, rfl⟩, ⟨q1, q2, q3, q4, rfl⟩⟩ := fn
  refine Att.call_fn (binds := [("self", .ref x), ("limit", v)]) X hlim ho hcd hroom (BindsTo.of_eq (by first | rfl | with_unfolding_all rfl)) (by first | rfl | decide | with_unfolding_all rfl) (fun s₁ IC => ?_) rfl rfl rfl
  obtain ⟨h₁, tk₁, rfl⟩ := IC.toInCall.same
  have k : ∀ b o, s.heap.get? b = some o → h₁.get? b = some o := IC.toInCall.keep
  have hn := IC.toInCall.ns
  have X₁ : K.In h₁ := X.keeps k
  have hx₁ := k _ _ hx
  show wpAny _ _ (execs _ _) _ _ _
  refine wpAny_execs_cons (plainObj_wpAny_Assign_Attribute ?_)
  refine loadL (v := v) hn (by first | rfl | with_unfolding_all rfl | kernel_rfl) (loadL (v := .ref x) hn (by first | rfl | with_unfolding_all rfl | kernel_rfl) ?_)
  refine set_plain X₁ (ox := excO C t0) (od := none) ⟨hx₁, rfl, rfl, trivial⟩ T.sa ?_
  refine keep_first SF T X₁ hx₁ noN (fun h₃ tk₃ dx k₃ dn dne hx₃ hn₃ => ?_)
  show wpAny _ _ (execs _ _) _ _ _
  have z : s.heap.objs.size < h₁.objs.size := hn.lt
  exact wpAny_execs_nil (hq h₃ tk₃ dx ⟨fun b o hb e => k₃ b o hb (k b o e), hx₃, Nat.le_of_lt (Nat.lt_of_lt_of_le z dn), dne, hn₃⟩)
theorem init_many (SF : StoreFacts B bmB "object.__setattr__" "object") (T : OwnTxt K C fI bmB newId) {qual : Str} (noN : findIn K (.ref C) "many" = some none)
    (fn : IsInit K fI qual (fun a => ∃ p1 p2, a = iArgs [argOf "self" p1, argOf "many" p2]) (fun b => ∃ q1 q2 q3 q4, b = [putSt "many" "many" q1 q2 q3 q4]) (iScope ["self", "many"]))
    {x t0 : Addr} {v : Value} (X : K.In s.heap) (hlim : s.heap.NoLimit) (hx : s.heap.get? x = some (excO C t0)) (hnx : K.lookup x = none) (hroom : A.depth < recursionLimit)
    (hq : ∀ h' tk dx, Kept s.heap h' x C dx t0 (fun y => if y = "many" then some v else none) → R (.ok (.ret .none)) { s with heap := h', toks := tk }) :
    codeAny (model prog w) A (.call (.ref fI) ⟨[.ref x, v], []⟩) R s := by
  obtain ⟨oc, od, doc, pm, an, cdv, ct, osl, a, b, ho, hcd, ⟨p1, p2, rfl⟩, ⟨q1, q2, q3, q4, rfl⟩⟩ := fn
  refine Att.call_fn (binds := [("self", .ref x), ("many", v)]) X hlim ho hcd hroom (BindsTo.of_eq (by first | rfl | with_unfolding_all rfl)) (by first | rfl | decide | with_unfolding_all rfl) (fun s₁ IC => ?_) rfl rfl rfl
  obtain ⟨h₁, tk₁, rfl⟩ := IC.toInCall.same
  have k : ∀ b o, s.heap.get? b = some o → h₁.get? b = some o := IC.toInCall.keep
  have hn := IC.toInCall.ns
  have X₁ : K.In h₁ := X.keeps k
  have hx₁ := k _ _ hx
  show wpAny _ _ (execs _ _) _ _ _
  refine wpAny_execs_cons (plainObj_wpAny_Assign_Attribute ?_)
  refine loadL (v := v) hn (by first | rfl | with_unfolding_all rfl | kernel_rfl) (loadL (v := .ref x) hn (by first | rfl | with_unfolding_all rfl | kernel_rfl) ?_)
  refine set_plain X₁ (ox := excO C t0) (od := none) ⟨hx₁, rfl, rfl, trivial⟩ T.sa ?_
  refine keep_first SF T X₁ hx₁ noN (fun h₃ tk₃ dx k₃ dn dne hx₃ hn₃ => ?_)
  show wpAny _ _ (execs _ _) _ _ _
  have z : s.heap.objs.size < h₁.objs.size := hn.lt
  exact wpAny_execs_nil (hq h₃ tk₃ dx ⟨fun b o hb e => k₃ b o hb (k b o e), hx₃, Nat.le_of_lt (Nat.lt_of_lt_of_le z dn), dne, hn₃⟩)
theorem but_x {h h' : Heap} {x : Addr} (X : K.In h) (hx : K.lookup x = none) (k : ∀ b o, b ≠ x → h.get? b = some o → h'.get? b = some o) : K.In h' := fun a o e =>
  k a o (fun z => by rw [z, hx] at e; cases e) (X a o e)
def m3 (v1 v2 v3 : Value) : Str → Option Value := fun y => if y = "point" then some v3 else if y = "row_numbers" then some v2 else if y = "rule_label" then some v1 else none
theorem init_broken (SF : StoreFacts B bmB "object.__setattr__" "object") (T : OwnTxt K C fI bmB newId) {qual : Str} (n1 : findIn K (.ref C) "rule_label" = some none) (n2 : findIn K (.ref C) "row_numbers" = some none) (n3 : findIn K (.ref C) "point" = some none)
    (fn : IsInit K fI qual (fun a => ∃ p1 p2 p3 p4, a = iArgs [argOf "self" p1, argOf "label" p2, argOf "rows" p3, argOf "point" p4])
      (fun b => ∃ q1 q2 q3 q4 r1 r2 r3 r4 u1 u2 u3 u4, b = [putSt "rule_label" "label" q1 q2 q3 q4, putSt "row_numbers" "rows" r1 r2 r3 r4, putSt "point" "point" u1 u2 u3 u4]) (iScope ["self", "label", "rows", "point"]))
    {x t0 : Addr} {v1 v2 v3 : Value} (X : K.In s.heap) (hlim : s.heap.NoLimit) (hx : s.heap.get? x = some (excO C t0)) (hnx : K.lookup x = none) (hroom : A.depth < recursionLimit)
    (hq : ∀ h' tk dx, Kept s.heap h' x C dx t0 (m3 v1 v2 v3) → R (.ok (.ret .none)) { s with heap := h', toks := tk }) :
    codeAny (model prog w) A (.call (.ref fI) ⟨[.ref x, v1, v2, v3], []⟩) R s := by
  obtain ⟨oc, od, doc, pm, an, cdv, ct, osl, a, b, ho, hcd, ⟨p1, p2, p3, p4, rfl⟩, ⟨q1, q2, q3, q4, r1, r2, r3, r4, u1, u2, u3, u4, rfl⟩⟩ := fn
  refine Att.call_fn (binds := [("self", .ref x), ("label", v1), ("rows", v2), ("point", v3)]) X hlim ho hcd hroom (BindsTo.of_eq (by first | rfl | with_unfolding_all rfl)) (by first | rfl | decide | with_unfolding_all rfl) (fun s₁ IC => ?_) rfl rfl rfl
  obtain ⟨h₁, tk₁, rfl⟩ := IC.toInCall.same
  have k : ∀ b o, s.heap.get? b = some o → h₁.get? b = some o := IC.toInCall.keep
  have hn := IC.toInCall.ns
  have z : s.heap.objs.size < h₁.objs.size := hn.lt
  have X₁ : K.In h₁ := X.keeps k
  have hx₁ := k _ _ hx
  have nx : s.heap.objs.size ≠ x := Nat.ne_of_gt (Heap.lt_size hx)
  show wpAny _ _ (execs _ _) _ _ _
  refine wpAny_execs_cons (plainObj_wpAny_Assign_Attribute ?_)
  refine loadL (v := v1) hn (by first | rfl | with_unfolding_all rfl | kernel_rfl) (loadL (v := .ref x) hn (by first | rfl | with_unfolding_all rfl | kernel_rfl) ?_)
  refine set_plain X₁ (ox := excO C t0) (od := none) ⟨hx₁, rfl, rfl, trivial⟩ T.sa ?_
  refine keep_first SF T X₁ hx₁ n1 (fun h₂ tk₂ dx k₂ dn dne hx₂ hn₂ => ?_)
  have X₂ : K.In h₂ := but_x X₁ hnx k₂
  have hn2 := hn.at fun o q => k₂ _ o nx q
  show wpAny _ _ (execs _ _) _ _ _
  refine wpAny_execs_cons (plainObj_wpAny_Assign_Attribute ?_)
  refine loadL (v := v2) hn2 (by first | rfl | with_unfolding_all rfl | kernel_rfl) (loadL (v := .ref x) hn2 (by first | rfl | with_unfolding_all rfl | kernel_rfl) ?_)
  obtain ⟨oD, _, _, hoD, _, _⟩ := hn₂.count (Within.cons "rule_label" v1 Within.nil)
  refine set_plain X₂ (ox := { cls := .ref C, dict := some dx, data := .fields _ }) (od := some oD) ⟨hx₂, rfl, rfl, hoD⟩ T.sa ?_
  refine keep_more SF T X₂ hx₂ hn₂ (Within.cons "rule_label" v1 Within.nil) (by decide) n2 (fun h₄ tk₄ k₄ hn₄ => ?_)
  have ndL : s.heap.objs.size ≠ dx := Nat.ne_of_lt (Nat.lt_of_lt_of_le z dn)
  have hnd : K.lookup dx = none := by
    cases e : K.lookup dx with
    | none => rfl
    | some o => exact absurd (Heap.lt_size (X₁ _ _ e)) (Nat.not_lt.mpr dn)
  have X₄ : K.In h₄ := but_x X₂ hnd k₄
  have hx₄ := k₄ _ _ (Ne.symm dne) hx₂
  have hn4 := hn2.at fun o q => k₄ _ o ndL q
  show wpAny _ _ (execs _ _) _ _ _
  refine wpAny_execs_cons (plainObj_wpAny_Assign_Attribute ?_)
  refine loadL (v := v3) hn4 (by first | rfl | with_unfolding_all rfl | kernel_rfl) (loadL (v := .ref x) hn4 (by first | rfl | with_unfolding_all rfl | kernel_rfl) ?_)
  have W2 := Within.cons "row_numbers" v2 (Within.cons "rule_label" v1 Within.nil)
  obtain ⟨oD4, _, _, hoD4, _, _⟩ := hn₄.count W2
  refine set_plain X₄ (ox := { cls := .ref C, dict := some dx, data := .fields _ }) (od := some oD4) ⟨hx₄, rfl, rfl, hoD4⟩ T.sa ?_
  refine keep_more SF T X₄ hx₄ hn₄ W2 (by decide) n3 (fun h₅ tk₅ k₅ hn₅ => ?_)
  show wpAny _ _ (execs _ _) _ _ _
  refine wpAny_execs_nil (hq h₅ tk₅ dx ⟨fun b o hb e => ?_, k₅ _ _ (Ne.symm dne) hx₄, Nat.le_of_lt (Nat.lt_of_lt_of_le z dn), dne, hn₅⟩)
  have nb : b ≠ dx := fun q => absurd (Nat.lt_of_lt_of_le (Nat.lt_trans (Heap.lt_size e) z) dn) (by rw [q]; exact Nat.lt_irrefl _)
  exact k₅ b o nb (k₄ b o nb (k₂ b o hb (k b o e)))
end
end OwnX
end PySem
set_option Elab.async false
set_option linter.all false
set_option maxRecDepth 100000
set_option maxHeartbeats 4000000
/-! clauses that name one class or six -/
namespace PySem
namespace OwnX
open PySem.W PySem.Calls PyProof.Rows PySem.HandSPX
section
variable {M : Model} {K : Frag}
/-- a clause over six classes takes what one of them takes -/
theorem exm_six {c1 c2 c3 c4 c5 c6 cls : Value} {b1 b2 b3 b4 b5 b6 : Bool} {tp e : Addr} {h : Heap} (X : K.In h) (LT : Looks M h (typeOf (.ref e)) cls)
    (hp : h.get? tp = some { cls := .type "tuple", data := .seq [c1, c2, c3, c4, c5, c6].toArray })
    (x1 : exmOne K cls c1 = some b1) (x2 : exmOne K cls c2 = some b2) (x3 : exmOne K cls c3 = some b3) (x4 : exmOne K cls c4 = some b4) (x5 : exmOne K cls c5 = some b5) (x6 : exmOne K cls c6 = some b6) :
    Looks M h (excMatches (.ref e) (.ref tp)) (b1 || (b2 || (b3 || (b4 || (b5 || b6))))) := by
  intro A Q E s k₀ q
  obtain ⟨hh, g, d, tk, os⟩ := s
  have k : ∀ b o, h.get? b = some o → hh.get? b = some o := k₀
  have LT0 : Looks M h (isInstance (.ref tp) (.type "tuple")) true := ((Looks.ld hp).andThen .now).andThen (Looks.of_pure isSubtype_tuple_tuple)
  have u1 := exm_cls (M := M) X x1
  have u2 := exm_cls (M := M) X x2
  have u3 := exm_cls (M := M) X x3
  have u4 := exm_cls (M := M) X x4
  have u5 := exm_cls (M := M) X x5
  have u6 := exm_cls (M := M) X x6
  have e1 := u1.1.keeps k
  have S1 := u1.2.keeps k
  have e2 := u2.1.keeps k
  have S2 := u2.2.keeps k
  have e3 := u3.1.keeps k
  have S3 := u3.2.keeps k
  have e4 := u4.1.keeps k
  have S4 := u4.2.keeps k
  have e5 := u5.1.keeps k
  have S5 := u5.2.keeps k
  have e6 := u6.1.keeps k
  have S6 := u6.2.keeps k
  have LT := LT.keeps k
  have LT0 := LT0.keeps k
  have hp' := k _ _ hp
  unfold excMatches
  refine wpAny_bind (LT0.at ?_)
  dsimp only
  rw [if_pos rfl]
  first
    | refine wpAny_bind (wpAny_seqItems hp' rfl ?_)
    | refine wpAny_bind (wpAny_bind (wpAny_seqItems hp' rfl (wpAny_pure ?_)))
  dsimp only [Option.getD_some, Option.getD]
  have go : ∀ {P : Prop}, P → P := fun p => p
  cases b1 <;> cases b2 <;> cases b3 <;> cases b4 <;> cases b5 <;> cases b6 <;> try (exact (go (by
    repeat (first | simp only [List.forIn_cons, List.forIn_nil, Bool.not_true, Bool.false_eq_true, if_false, if_true] | lk)
    exact q)))
end
end OwnX
end PySem
set_option Elab.async false
set_option linter.all false
set_option maxRecDepth 100000
set_option maxHeartbeats 4000000
/-! a try with clauses of several kinds -/
namespace L2
open PySem PySem.Spec PyProof.Rows
theorem flying_more {B h h' : Heap} {l : List Env} {a : Addr} {Z : Obj → Prop} (fl : HandSPX.FlyingZ B l a Z h) (k : ∀ b o, h.get? b = some o → h'.get? b = some o) : HandSPX.FlyingZ B l a Z h' := by
  obtain ⟨x1, x2, x3, oe, vs, T, oT, ts, y1, y2, y3, y4, y5, y6, y7, y8, y9⟩ := fl
  exact ⟨fun b o e => k b o (x1 b o e), x2, Heap.FunFrames.of_keeps (fun b o e _ => ⟨o, k b o e, rfl⟩) x3, oe, vs, T, oT, ts, k _ _ y1, y2, y3, y4, y5, y6, k _ _ y7, y8, y9⟩
theorem upTo_more {h h1 h2 : Heap} (u : h.UpToSlots h1) (k : ∀ b o, h1.get? b = some o → h2.get? b = some o) : h.UpToSlots h2 := fun b o e nd => by
  obtain ⟨sl, q⟩ := u b o e nd
  exact ⟨sl, k _ _ q⟩
/-- an error that has come to the try of X: sI is the state without it -/
structure Air (X : Cx) (pins : List (Addr × Obj)) (σ : St) (H : Hp) (cls : Value) (d : Option Addr) (a : Addr) (B : Heap) (sI s3 : Shared) : Prop where
  J : Inv X pins σ H sI
  nb : ∀ b o, sI.heap.get? b = some o → b ∉ frs X.stack → B.get? b = some o
  up : sI.heap.UpToSlots s3.heap
  fl : HandSPX.FlyingZ B (X.env :: X.outer) a (Zc cls d) s3.heap
  na : H a = none
  os : s3.os = sI.os
  ag : AllBare s3.gens
section
variable {X : Cx} {pins : List (Addr × Obj)} {σ : St} {H : Hp} {cls : Value} {d : Option Addr} {a : Addr} {B : Heap} {sI s3 : Shared}
theorem Air.inv (x : Air X pins σ H cls d a B sI s3) : Inv X pins σ H s3 := x.J.landed x.nb x.fl.1 x.up x.os x.ag
theorem Air.more (x : Air X pins σ H cls d a B sI s3) {h' : Heap} {tk : Nat} (k : ∀ b o, s3.heap.get? b = some o → h'.get? b = some o) : Air X pins σ H cls d a B sI { s3 with heap := h', toks := tk } :=
  ⟨x.J, x.nb, upTo_more x.up k, flying_more x.fl k, x.na, x.os, x.ag⟩
theorem Air.place (x : Air X pins σ H cls d a B sI s3) (hf : X.env.frame = some X.env.locals) : a ≠ X.env.locals ∧ a ∉ X.fs := by
  obtain ⟨oe, vs, he, _, hd⟩ := x.fl.there
  have nfr : a ∉ frs (X.env :: X.outer) := fun hm => by
    obtain ⟨_, o', e', hnf⟩ := x.fl.2.2.1.mem hm
    have q : oe = o' := Option.some.inj (he.symm.trans e')
    exact hnf vs (q ▸ hd)
  refine ⟨fun z => nfr ?_, fun hm => nfr ?_⟩
  · exact List.mem_filterMap.mpr ⟨X.env, List.mem_cons_self, by rw [hf, z]⟩
  · obtain ⟨e, he', q⟩ := List.mem_filterMap.mp hm
    exact List.mem_filterMap.mpr ⟨e, List.mem_cons_of_mem _ he', q⟩
theorem Air.suite (x : Air X pins σ H cls d a B sI s3) (hf : X.env.frame = some X.env.locals) : ∃ oe, s3.heap.get? a = some oe ∧ Zc cls d oe ∧ (∃ vs, oe.data = .fields vs) ∧ Inv (X.suite a ((a, oe) :: (X.pn ++ pins))) [] σ H s3 := by
  obtain ⟨oe, vs, he, hz, hd⟩ := x.fl.there
  obtain ⟨nL, nF⟩ := x.place hf
  exact ⟨oe, he, hz, ⟨vs, hd⟩, x.inv.suite he hd x.na nL nF⟩
theorem Air.again {A : Around} {E : Value → Shared → Prop} {Q : Unit → Shared → Prop} (x : Air X pins σ H cls d a B sI s3) (q : ∀ h4, Air X pins σ H cls d a B sI { s3 with heap := h4 } → Q () { s3 with heap := h4 }) :
    wpAny (model X.prog X.w) A (setFlight (.ref a) none) Q E s3 :=
  HandSPX.lands_againZ x.fl fun h4 fl4 up4 => q h4 ⟨x.J, x.nb, x.up.trans up4, fl4, x.na, x.os, x.ag⟩
/-- how the test of a clause comes out: for an error of the class cls it is b -/
structure TestOk (X : Cx) (t : Expr) (ex : Value → Bool → Prop) : Prop where
  run : ∀ (a : Addr) (oe : Obj) (pn : List (Addr × Obj)) (σ : St) (H : Hp) (s : Shared) (b : Bool) (Q : Value → Shared → Prop) (E : Value → Shared → Prop),
    Inv (X.suite a ((a, oe) :: pn)) [] σ H s → s.heap.get? a = some oe → ex oe.cls b →
    (∀ (h' : Heap) (c : Value), (∀ q o, s.heap.get? q = some o → h'.get? q = some o) → PySem.W.Looks (model X.prog X.w) h' (excMatches (.ref a) c) b → Q c { s with heap := h' }) →
    wpAny (model X.prog X.w) (X.A.mark (some (.ref a))) (eval t X.env) Q E s
theorem suite_name {x : Str} {c : Value} {np : Pos} {a : Addr} {oe : Obj} {pn : List (Addr × Obj)} {σ : St} {H : Hp} {s : Shared} {Q : Value → Shared → Prop} {E : Value → Shared → Prop} (hc : Names X x c) (I : Inv (X.suite a ((a, oe) :: pn)) [] σ H s) (q : Q c s) :
    wpAny (model X.prog X.w) (X.A.mark (some (.ref a))) (eval (.Name x np) X.env) Q E s := by
  obtain ⟨hg, hdbg, hm | ⟨hm, hv, hnn⟩⟩ := hc
  · exact ld_glob (X := X.suite a ((a, oe) :: pn)) I hg hm q hdbg
  · exact ld_blt (X := X.suite a ((a, oe) :: pn)) I hg hm hv q hnn hdbg
theorem looks_cls {h : Heap} {oe : Obj} (he : h.get? a = some oe) : PySem.W.Looks (model X.prog X.w) h (typeOf (.ref a)) oe.cls := fun A Q E s k q => wpAny_typeOf_ref (k _ _ he) q
theorem test_one {x : Str} {c : Value} {np : Pos} (hc : Names X x c) : TestOk X (.Name x np) (fun cls b => PySem.W.exmOne X.K cls c = some b) :=
  ⟨fun a oe pn σ H s b Q E I he ex q => suite_name hc I (q s.heap c (fun _ _ z => z) (PySem.W.exm_one I.kIn (looks_cls he) ex))⟩
theorem test_six {x1 x2 x3 x4 x5 x6 : Str} {c1 c2 c3 c4 c5 c6 : Value} {p1 p2 p3 p4 p5 p6 tpos : Pos} {kk : Nat} (n1 : Names X x1 c1) (n2 : Names X x2 c2) (n3 : Names X x3 c3) (n4 : Names X x4 c4) (n5 : Names X x5 c5) (n6 : Names X x6 c6) :
    TestOk X (.Tuple [.Name x1 p1, .Name x2 p2, .Name x3 p3, .Name x4 p4, .Name x5 p5, .Name x6 p6] kk tpos) (fun cls b => ∃ b1 b2 b3 b4 b5 b6, PySem.W.exmOne X.K cls c1 = some b1 ∧ PySem.W.exmOne X.K cls c2 = some b2 ∧ PySem.W.exmOne X.K cls c3 = some b3 ∧
      PySem.W.exmOne X.K cls c4 = some b4 ∧ PySem.W.exmOne X.K cls c5 = some b5 ∧ PySem.W.exmOne X.K cls c6 = some b6 ∧ b = (b1 || (b2 || (b3 || (b4 || (b5 || b6)))))) := by
  refine ⟨fun a oe pn σ H s b Q E I he ex q => ?_⟩
  obtain ⟨b1, b2, b3, b4, b5, b6, y1, y2, y3, y4, y5, y6, rfl⟩ := ex
  refine wpAny_Tuple ?_
  refine wpAny_items_cons (suite_name n1 I ?_)
  refine wpAny_items_cons (suite_name n2 I ?_)
  refine wpAny_items_cons (suite_name n3 I ?_)
  refine wpAny_items_cons (suite_name n4 I ?_)
  refine wpAny_items_cons (suite_name n5 I ?_)
  refine wpAny_items_cons (suite_name n6 I ?_)
  refine wpAny_items_nil ⟨by size_fits, ?_⟩
  have kp : ∀ q o, s.heap.get? q = some o → (s.heap.push { cls := .type "tuple", data := .seq [c1, c2, c3, c4, c5, c6].toArray }).get? q = some o := fun _ _ z => Heap.get?_push_of_some _ z
  have KI : X.K.In s.heap := I.kIn
  exact q _ _ kp (PySem.OwnX.exm_six (KI.keeps kp) ((looks_cls he).keeps kp) (Heap.get?_push_size s.heap rfl) y1 y2 y3 y4 y5 y6)
/-- a clause as it is met; wh: what it wishes, by what the clauses behind it wish -/
def HdRun (X : Cx) (h : ExceptHandler) (wh : Ends → WX → WX) : Prop :=
  ∀ (pins : List (Addr × Obj)) (D : Ends) (a : Addr) (B : Heap) (sI s3 : Shared) (σ : St) (H : Hp) (cls : Value) (d : Option Addr) (rest : List ExceptHandler) (Wr : WX), Air X pins σ H cls d a B sI s3 →
    (∀ s4, Air X pins σ H cls d a B sI s4 → Wr cls d σ H → wpAny (model X.prog X.w) X.A (handleBy (.ref a) X.env rest) (SP X pins D) X.xe s4) → wh D Wr cls d σ H →
    wpAny (model X.prog X.w) X.A (handleBy (.ref a) X.env (h :: rest)) (SP X pins D) X.xe s3
inductive HdsRun (X : Cx) : List ExceptHandler → (Ends → WX → WX) → Prop
  | nil : HdsRun X [] (fun _ W => W)
  | cons {h : ExceptHandler} {hs : List ExceptHandler} {wh wr : Ends → WX → WX} (r : HdRun X h wh) (rs : HdsRun X hs wr) : HdsRun X (h :: hs) (fun D W => wh D (wr D W))
end
end L2
set_option Elab.async false
set_option linter.all false
set_option maxRecDepth 100000
set_option maxHeartbeats 4000000
namespace L2
open PySem PySem.Spec PyProof.Rows
section
variable {X : Cx} {t : Expr} {ex : Value → Bool → Prop} {n : Str} {i : Nat} {suite body : List Stmt} {b₀ : Stmt} {pos pos' : Pos} {ts : Addr → Value → Option Addr → TS} {tb : WX → TS} {Wout : WX} {hds : List ExceptHandler} {wl : Ends → WX → WX}
def wTest (ex : Value → Bool → Prop) (ts : Addr → Value → Option Addr → TS) (D : Ends) (Wr : WX) : WX := fun cls d σ H => ∃ b, ex cls b ∧ (b = true → ∀ a, H a = none → ts a cls d D σ H) ∧ (b = false → Wr cls d σ H)
/-- except T: suite -/
theorem hd_only (hf : X.env.frame = some X.env.locals) (T : TestOk X t ex)
    (hsu : ∀ (a : Addr) (oe : Obj) (cls : Value) (d : Option Addr) (pn : List (Addr × Obj)), Zc cls d oe → (∃ vs, oe.data = .fields vs) → PSs (X.suite a ((a, oe) :: pn)) (b₀ :: suite) (ts a cls d)) :
    HdRun X (.ExceptHandler (some t) none (b₀ :: suite) pos') (wTest ex ts) := by
  intro pins D a B sI s3 σ H cls d rest Wr x hrest hw
  obtain ⟨b, hb, hyes, hno⟩ := hw
  obtain ⟨oe, he, hz, hd, S⟩ := x.suite hf
  refine PySem.W.exc_clause (T.run a oe (X.pn ++ pins) σ H s3 b _ _ S he (by rw [hz.1]; exact hb) fun h' c k L => ⟨b, L, ?_⟩)
  have x' := x.more (tk := s3.toks) k
  cases b with
  | false => exact hrest _ x' (hno rfl)
  | true =>
    refine x'.again fun h4 x4 => ?_
    obtain ⟨oe4, he4, hz4, hd4, S4⟩ := x4.suite hf
    refine wpAny_mono ((hsu a oe4 cls d (X.pn ++ pins) hz4 hd4).run [] _ _ H _ S4 (hyes rfl a x.na)) (fun f s6 hsp => ?_) (fun _ _ z => False.elim z)
    have ok := x.J.ok
    cases f with
    | next =>
      obtain ⟨σ6, H6, S6, q6⟩ := hsp
      exact ⟨σ6, H6, S6.unsuite ok, q6⟩
    | brk =>
      obtain ⟨σ6, H6, S6, q6⟩ := hsp
      exact ⟨σ6, H6, S6.unsuite ok, q6⟩
    | cont =>
      obtain ⟨σ6, H6, S6, q6⟩ := hsp
      exact ⟨σ6, H6, S6.unsuite ok, q6⟩
    | ret u =>
      obtain ⟨v6, σ6, H6, S6, r6, q6⟩ := hsp
      exact ⟨v6, σ6, H6, S6.unsuite ok, r6, q6⟩
def endsAs (i : Nat) (D : Ends) : Ends := { nx := fun σ' H' => D.nx (σ'.set i none) H', rt := D.rt, bk := fun σ' H' => D.bk (σ'.set i none) H', ct := fun σ' H' => D.ct (σ'.set i none) H' }
def wTestAs (ex : Value → Bool → Prop) (i : Nat) (ts : Addr → Value → Option Addr → TS) (D : Ends) (Wr : WX) : WX := fun cls d σ H =>
  ∃ b, ex cls b ∧ (b = true → ∀ a, H a = none → ts a cls d (endsAs i D) (σ.set i (some (.ref a))) H) ∧ (b = false → Wr cls d σ H)
/-- except T as n: suite -/
theorem hd_as (hf : X.env.frame = some X.env.locals) (hN : X.N.Nodup) (hi : X.N[i]? = some n) (hln : X.env.kindOf n = some .local) (T : TestOk X t ex)
    (hsu : ∀ (a : Addr) (oe : Obj) (cls : Value) (d : Option Addr) (pn : List (Addr × Obj)), Zc cls d oe → (∃ vs, oe.data = .fields vs) → PSs (X.suite a ((a, oe) :: pn)) (b₀ :: suite) (ts a cls d)) :
    HdRun X (.ExceptHandler (some t) (some n) (b₀ :: suite) pos') (wTestAs ex i ts) := by
  intro pins D a B sI s3 σ H cls d rest Wr x hrest hw
  obtain ⟨b, hb, hyes, hno⟩ := hw
  obtain ⟨oe, he, hz, hd, S⟩ := x.suite hf
  refine PySem.W.exc_clause_as (T.run a oe (X.pn ++ pins) σ H s3 b _ _ S he (by rw [hz.1]; exact hb) fun h' c k L => ⟨b, L, ?_⟩)
  have x' := x.more (tk := s3.toks) k
  cases b with
  | false => exact hrest _ x' (hno rfl)
  | true =>
    refine x'.again fun h4 x4 => ?_
    obtain ⟨oe4, he4, hz4, hd4, S4⟩ := x4.suite hf
    refine store_ok (X := X.suite a ((a, oe4) :: (X.pn ++ pins))) (v := .ref a) S4 hN hi (.inl hln) rfl (fun s5 S5 => ?_) (.inr hln)
    have ok := x.J.ok
    refine wpAny_mono ((hsu a oe4 cls d (X.pn ++ pins) hz4 hd4).run [] s5 _ H _ S5 (hyes rfl a x.na)) (fun f s6 hsp => ?_) (fun _ _ z => False.elim z)
    have leave : ∀ {σ6 : St} {H6 : Hp} {Q : Shared → Prop}, Inv (X.suite a ((a, oe4) :: (X.pn ++ pins))) [] σ6 H6 s6 → (∀ s7, Inv X pins (σ6.set i none) H6 s7 → Q s7) →
        wpAny (model X.prog X.w) X.A (do bindName X.env n .none; unbindBehindTheSuite X.env n pos') (fun _ s7 => Q s7) X.xe s6 := fun {σ6 H6 Q} S6 hq => gone_ok (S6.unsuite ok) hN hi hln hq
    cases f with
    | next =>
      obtain ⟨σ6, H6, S6, q6⟩ := hsp
      exact leave S6 fun s7 J7 => ⟨_, H6, J7, q6⟩
    | brk =>
      obtain ⟨σ6, H6, S6, q6⟩ := hsp
      exact leave S6 fun s7 J7 => ⟨_, H6, J7, q6⟩
    | cont =>
      obtain ⟨σ6, H6, S6, q6⟩ := hsp
      exact leave S6 fun s7 J7 => ⟨_, H6, J7, q6⟩
    | ret u =>
      obtain ⟨v6, σ6, H6, S6, r6, q6⟩ := hsp
      exact leave S6 fun s7 J7 => ⟨v6, _, H6, J7, r6, q6⟩
/-- no clause takes it: on it goes -/
theorem air_on {pins : List (Addr × Obj)} {σ : St} {H : Hp} {cls : Value} {d : Option Addr} {a : Addr} {B : Heap} {sI s3 : Shared} {D : Ends} (hs : X.stack = X.env :: X.outer) (hf : X.env.frame = some X.env.locals) (tk : Takes X Wout)
    (x : Air X pins σ H cls d a B sI s3) (w : Wout cls d σ H) : wpAny (model X.prog X.w) X.A (handleBy (.ref a) X.env []) (SP X pins D) X.xe s3 := by
  refine wpAny_handleBy_nil ?_
  obtain ⟨_, _, _, oe, vs, T, oT, ts', he, hz, hd, h1, _⟩ := id x.fl
  have last : wpAny (model X.prog X.w) X.A (setFlight (.ref a) X.env.frame) (fun _ s4 => wpAny (model X.prog X.w) X.A (throw (.ref a) : Sem Flow) (SP X pins D) X.xe s4) X.xe s3 := by
    rw [hf]
    refine HandSPX.setFlight_upZ x.fl fun h4 held up4 => wpAny_throw (tk _ _ ?_)
    exact ⟨a, B, sI, pins, σ, H, cls, d, rfl, x.J, x.nb, x.up.trans up4, .inr (.inr (by rw [hs]; exact held)), x.na, x.os, x.ag, w⟩
  unfold PySem.passOn
  refine wpAny_bind (wpAny_field he hd h1 ?_)
  rw [if_neg (show ¬ ((Value.ref T == Value.none) = true) by simp)]
  first
    | exact wpAny_bind (wpAny_pure (wpAny_bind last))
    | exact wpAny_bind last
theorem hds_meet (hs : X.stack = X.env :: X.outer) (hf : X.env.frame = some X.env.locals) (tk : Takes X Wout) (r : HdsRun X hds wl) :
    ∀ {pins : List (Addr × Obj)} {σ : St} {H : Hp} {cls : Value} {d : Option Addr} {a : Addr} {B : Heap} {sI s3 : Shared} {D : Ends}, Air X pins σ H cls d a B sI s3 → wl D Wout cls d σ H →
      wpAny (model X.prog X.w) X.A (handleBy (.ref a) X.env hds) (SP X pins D) X.xe s3 := by
  induction r with
  | nil => exact fun x w => air_on hs hf tk x w
  | cons h1 rs ih => exact fun x w => h1 _ _ _ _ _ _ _ _ _ _ _ _ x (fun s4 x4 w4 => ih x4 w4) w
/-- try: body, clauses of any kinds -/
theorem ps_try_any (hs : X.stack = X.env :: X.outer) (hf : X.env.frame = some X.env.locals) (tk : Takes X Wout)
    (hb : ∀ (W : WX) (pn : List (Addr × Obj)) (xe : Value → Shared → Prop), Takes (X.tr pn xe) W → PassesOwn (model X.prog X.w) X.A X.env xe → PSs (X.tr pn xe) body (tb W))
    {h₀ : ExceptHandler} (r : HdsRun X (h₀ :: hds) wl) : PS X (.Try body (h₀ :: hds) [] [] pos) (fun D σ H => tb (wl D Wout) D σ H) := by
  refine ⟨fun pins s σ H D I h => ?_⟩
  have ok := I.ok
  have hfr : X.A.frames = some (X.env :: X.outer) := ok.frames.trans (congrArg some hs)
  refine wpAny_Try_except ?_
  refine wpAny_mono ((hb (wl D Wout) (X.pn ++ pins) _ (fun u s' met => ?_) PassesOwn.looking).run [] s σ H D (I.toTry _) h) (fun f s1 hsp => ?_) (fun e s1 he => he)
  · obtain ⟨a, B, sI, pins', σ', H', cls, d, rfl, J', nb, up, sky, na, os, ag, w⟩ := met
    have J : Inv X pins σ' H' sI := J'.ofTry ok
    have sky' : Sky B (X.env :: X.outer) a (Zc cls d) X.env.locals s'.heap := hs ▸ sky
    show wpAny (model X.prog X.w) X.A (noteFrame (.ref a) X.env) _ _ _
    refine Sky.land Zc.steady hfr hf sky' fun h3 fl3 up3 => ?_
    exact hds_meet hs hf tk r (s3 := { s' with heap := h3 }) ⟨J, nb, up.trans up3, fl3, na, os, ag⟩ w
  · cases f with
    | next =>
      obtain ⟨σ', H', J', q⟩ := hsp
      exact wpAny_execs_nil ⟨σ', H', J'.ofTry ok, q⟩
    | brk =>
      obtain ⟨σ', H', J', q⟩ := hsp
      exact ⟨σ', H', J'.ofTry ok, q⟩
    | cont =>
      obtain ⟨σ', H', J', q⟩ := hsp
      exact ⟨σ', H', J'.ofTry ok, q⟩
    | ret u =>
      obtain ⟨v, σ', H', J', rv, q⟩ := hsp
      exact ⟨v, σ', H', J'.ofTry ok, rv, q⟩
end
end L2
set_option Elab.async false
set_option linter.all false
set_option maxRecDepth 100000
set_option maxHeartbeats 4000000
namespace PySem
namespace OwnX
open PySem.W PySem.Calls PyProof.Rows PySem.HandSPX PySem.F
def keTail : List Value := [.type "KeyError", .type "LookupError", .type "Exception", .type "BaseException", .type "object"]
theorem storeKey : StoreFacts "KeyError" keTail "object.__setattr__" "object" :=
  { mro := by kernel_rfl,
    slot := by
      refine .of (owner := "object") (n := "__setattr__") ?_ (by decide +kernel) (by decide +kernel) (by decide +kernel) ?_ ?_
      · rw [typeLookup_type, builtinLookup_eq_fast]
        kernel_rfl
      · first | exact .inl (by decide +kernel) | exact .inr (by decide +kernel)
      · rw [isSubtype_type]
        kernel_rfl
    entry := entry_object_sa,
    kind := by decide +kernel, split := by decide +kernel, hasOwner := by decide +kernel,
    args := fun a b c => by
      unfold argsOk
      kernel_rfl
    passes := fun self => by kernel_rfl }
end OwnX
end PySem
namespace L2
open PySem PySem.Spec PyProof.Rows PySem.OwnX
/-- X(e, ..), X an own error whose __init__ keeps what it is given: its own dict says fs of the values -/
def tMkK (C : Addr) (n : Nat) (fs : List V → List (Str × V)) (ta : TA) : St → Hp → XK → Prop := fun σ H Q => ta σ H fun vs H1 => vs.length = n ∧ ∀ d, H1 d = none → Q (.ref C) (some d) (upd H1 d (.xd (fs vs)))
/-- what the __init__ at fI does with n values -/
def Keeps (P : Program) (w : World) (K : PySem.W.Frag) (C fI : Addr) (n : Nat) (fs : List V → List (Str × V)) : Prop :=
  ∀ (vs : List V) (us : List Value), Vals vs us → vs.length = n → ∃ m : Str → Option Value, (∀ f, RelO ((fs vs).lookup f) (m f)) ∧
    ∀ {A' : Around} {R' : Result → Shared → Prop} {s' : Shared} {x t0 : Addr}, K.In s'.heap → s'.heap.NoLimit → s'.heap.get? x = some (HandSPX.excO C t0) → K.lookup x = none → A'.depth < recursionLimit →
      (∀ h' tk dx, Kept s'.heap h' x C dx t0 m → R' (.ok (.ret .none)) { s' with heap := h', toks := tk }) → codeAny (model P w) A' (.call (.ref fI) ⟨.ref x :: us, []⟩) R' s'
section
variable {X : Cx} {C fI : Addr} {B newId initId : String} {bmB : List Value}
theorem pmk_keep {x : Str} {e : Expr} {es : List Expr} {ta : TA} {p pos : Pos} {k n : Nat} {fs : List V → List (Str × V)} {bmF : List Value} (FB : ExcBaseFacts B newId initId bmF) (bh : Behind B bmB) (T : OwnTxt X.K C fI bmB newId) (gC : X.mg x = some (.ref C)) (hn : n ≤ 5)
    (hI : Keeps X.prog X.w X.K C fI n fs) (hr : Room k X.A) (ha : PA X (e :: es) ta) (hg : Gl X x := by rfl) (hdb : (x == ("__debug__" : Str)) = false := by decide)
    (he : starEach (e :: es) X.env = (false, eval e X.env) :: starEach es X.env := by rfl) (hpl : (backTo pos (starEach es X.env)).any (·.1) = false := by rfl) :
    PMk X (.Call (.Name x p) (e :: es) [] pos) (tMkK C n fs ta) := by
  intro pins s σ H Q I h
  refine wpAny_Call_Name_kw (ld_glob I hg gC ?_ hdb)
  refine PySem.W.callWith_K (h₀ := X.base) I.ok.mod.kin T.kC (thn (ha.run pos pins s σ H _ I h) fun us s1 hh => ?_) he hpl
  obtain ⟨vs, H1, I1, r1, ln, q1⟩ := hh
  refine ⟨I1.kIn, ?_⟩
  show wpAny _ _ (call (.ref C) us) _ _ _
  obtain ⟨m, hrel, hI⟩ := hI vs us r1 ln
  have hlim := I1.nolimit
  have hus : us.length ≤ 5 := by rw [← r1.length, ln]; exact hn
  obtain ⟨hp, g, dr, tk, os⟩ := s1
  refine wpAny_call (made_of FB bh T (m := m) hus I1.kIn hlim (by have := hr.dp; omega) hI fun h' tk' e' d M => ?_)
  show MkP X pins σ Q (.ref e') ⟨h', g, dr, tk', os⟩
  obtain ⟨oe, fv, hoe, hc, hd, hdat, h1⟩ := M.obj
  have hns := M.ns
  obtain ⟨G', g1, g2⟩ := restrict h' fun b => decide (b ≠ e')
  have gk : ∀ b, b ≠ e' → G'.get? b = h'.get? b := fun b hb => g1 b (decide_eq_true hb)
  have ge : G'.get? e' = none := g2 e' (by simp)
  have old : ∀ b o, hp.get? b = some o → G'.get? b = some o := fun b o q => (gk b (Nat.ne_of_lt (Nat.lt_of_lt_of_le (Heap.lt_size q) M.new))).trans (M.keep b o q)
  have ob : ObjOk X.prog X.w (upd H1 d (.xd (fs vs))) G' d (.xd (fs vs)) := ⟨m, hns.at (fun o q => (gk d M.dne).trans q), hrel⟩
  have J : Inv X pins σ (upd H1 d (.xd (fs vs))) ⟨G', g, dr, tk', os⟩ := I1.laid (t' := tk') old M.dbig ob
  refine ⟨e', oe, fv, ⟨G', g, dr, tk', os⟩, _, .ref C, some d, rfl, J, fun b o q => ?_, ge, hoe, ⟨hc, hd⟩, hdat, h1, ?_, rfl, I1.bare, raises_own T.exC T.tyC, q1 d (I1.hok.fresh M.dbig)⟩
  · by_cases hb : b = e'
    · have q' : G'.get? b = some o := q
      rw [hb, ge] at q'
      cases q'
    · exact (gk b hb).symm.trans q
  · rw [upd_ne (Ne.symm M.dne)]
    exact I1.hok.fresh M.new
/-- low.f, low the error that the suite holds (at a; its class cls, its dict d) -/
def tByE (C : Addr) (f : Str) (a : Addr) (cls : Value) (d : Option Addr) (te : TE) : TE := fun σ H Q => te σ H fun x H1 => x = .ref a ∧ cls = .ref C ∧ ∃ (dd : Addr) (fs : List (Str × V)) (v : V), d = some dd ∧ H1 dd = some (.xd fs) ∧ fs.lookup f = some v ∧ Q v H1
theorem pe_byE {a : Addr} {oe : Obj} {cls : Value} {d : Option Addr} {pn : List (Addr × Obj)} {e : Expr} {te : TE} {f : Str} {pos : Pos} (T : OwnTxt X.K C fI bmB newId) (noF : PySem.W.findIn X.K (.ref C) f = some none) (hz : Zc cls d oe) (hf : ∃ vs, oe.data = .fields vs)
    (he : PE (X.suite a ((a, oe) :: pn)) e te) (hcp : PySem.W.copiedNames.contains f = false := by decide +kernel) (hb : attributeBase e f X.env (eval e X.env) = eval e X.env := by rfl) :
    PE (X.suite a ((a, oe) :: pn)) (.Attribute e f pos) (tByE C f a cls d te) := by
  refine ⟨fun pins s σ H Q I h => ?_⟩
  refine attr_of hb (thn (he.run pins s σ H _ I h) fun u s1 hh => ?_)
  obtain ⟨x, H1, I1, rx, ex, ec, dd, fs, v, ed, ea, lf, q⟩ := hh
  subst ex
  obtain rfl : u = Value.ref a := rx
  subst ec
  subst ed
  obtain ⟨ha, _⟩ := I1.pin (a, oe) (List.mem_append_left _ List.mem_cons_self)
  obtain ⟨vs, hd⟩ := hf
  have hx : ObjOk X.prog X.w H1 s1.heap dd (.xd fs) := I1.hok dd _ ea
  obtain ⟨mA, hns, hr⟩ := hx
  obtain ⟨od, ho, hl⟩ := lookIn_ns hns
  obtain ⟨u, hu, ru⟩ := RelO.some_of (v := v) (o := mA f) (by rw [← lf]; exact hr f)
  have J : PySem.W.InstAt s1.heap a oe C (some od) := ⟨ha, hz.1, by unfold PySem.W.notCls; rw [hd] <;> rfl, by rw [hz.2]; exact ho⟩
  exact HandSPX.exc_get I1.kIn J T.ga T.gg T.exC (PySem.W.findObj_own T.hdC noF rfl (by rw [hl, hu])) (handed_of ru) ⟨v, H1, I1.tok _, ru, q⟩
end
end L2
set_option Elab.async false
set_option linter.all false
set_option maxRecDepth 100000
set_option maxHeartbeats 4000000
/-! isinstance of an error that is held, and a def that is called with it -/
namespace L2
open PySem PySem.Spec PyProof.Rows PySem.OwnX
/-- what the class at D says, so that its errors are asked rightly -/
structure AskE (K : PySem.W.Frag) (D : Addr) : Prop where
  cl : (PySem.W.clsIn K D).isSome = true
  ga : PySem.W.findIn K (.ref D) "__getattribute__" = some (some (.builtin "BaseException.__getattribute__"))
  gg : PySem.W.findIn K (.ref D) "__getattr__" = some none
  be : PySem.W.subIn K (.ref D) (.type "BaseException") = some true
  cs : PySem.W.findIn K (.ref D) "__class__" = some (some (.builtin "object.__class__"))
  sg : PySem.W.specialIn K (.builtin "object.__class__") "__get__" = some (some (.builtin "getset_descriptor.__get__"))
  tk : PySem.W.takesIn K (.builtin "object.__class__") = some true
  mo : PySem.W.mroIn K D (.type "object") = some true
def DictOk (d : Option Addr) (H : Hp) : Prop := ∀ dd, d = some dd → ∃ fs, H dd = some (.xd fs)
def rIsP (K : PySem.W.Frag) (D a : Addr) (d : Option Addr) : List V → Hp → VK → Prop := fun xs H Q => DictOk d H ∧ ∃ (c : V) (cv : Value) (b : Bool), xs = [.ref a, c] ∧ (∀ u, RelV c u → u = cv) ∧ PySem.W.kitOne K (.ref D) cv = some b ∧ Q (.bl b) H
theorem call_isP {X : Cx} {a D : Addr} {oe : Obj} (hp : (a, oe) ∈ X.pn) (C : AskE X.K D) (hc : oe.cls = .ref D) (hf : ∃ vs, oe.data = .fields vs) : CallR X (.builtin "isinstance") (rIsP X.K D a oe.dict) := by
  intro pins s σ H xs us Q I r h
  obtain ⟨hd, c, cv, b, rfl, hcv, e, q⟩ := h
  obtain ⟨u, v, rfl, ru, rv⟩ := vals2 r
  cases ru
  obtain rfl := hcv _ rv
  obtain ⟨hget, _⟩ := I.pin (a, oe) (List.mem_append_left _ hp)
  obtain ⟨vs, hv⟩ := hf
  obtain ⟨oc, od, oda, osl⟩ := oe
  dsimp only at hc hv hd
  subst hc hv
  have J : ∃ o', PySem.W.InstAt s.heap a ⟨.ref D, od, .fields vs, osl⟩ D o' := by
    cases od with
    | none => exact ⟨none, hget, rfl, rfl, trivial⟩
    | some dd =>
      obtain ⟨fs, hfs⟩ := hd dd rfl
      obtain ⟨o', ho'⟩ := objOk_get (I.hok dd _ hfs)
      exact ⟨some o', hget, rfl, rfl, ho'⟩
  obtain ⟨o', J⟩ := J
  exact PySem.W.kia_one (PySem.W.kitx_exc C.cl C.ga C.gg C.be C.cs C.sg C.tk C.mo) I.kIn J e (fun z => nomatch z) fun tk => ⟨.bl b, H, I.kept (t' := tk) fun _ _ z => z, rfl, q⟩
open L2H
/-- what a def promises that is called with the error that is held -/
def FnE (P : Program) (w : World) (K : PySem.W.Frag) (mg : Str → Option Value) (base : Heap) (k : Nat) (f : Addr) (fd : FuncData) (y : Str) (sp : Addr → Value → Option Addr → Hp → VK → Prop) : Prop :=
  ∀ (A : Around) (outer : List Env) (s : Shared) (H : Hp) (Q : VK) (p : Addr × Obj), RoomH k A → PinOk outer H s p → (∃ vs, p.2.data = .fields vs) → Env0 P w K mg base A outer s H →
    BindsTo s fd ⟨[.ref p.1], []⟩ [(y, .ref p.1)] → sp p.1 p.2.cls p.2.dict H Q → codeAny (model P w) A (.call (.ref f) ⟨[.ref p.1], []⟩) (CR CX0 outer P w H s Q E0) s
theorem fnE_of {P : Program} {w : World} {K : PySem.W.Frag} {mg : Str → Option Value} {base : Heap} {k : Nat} {f : Addr} {name qual y : Str} {params : Arguments} {body : List Stmt} {scope : Scope} {dV kV doc pm cdv ct oc : Value} {an od : Option Addr} {osl : Array (Option Value)} {N : List Str}
    {sp : Addr → Value → Option Addr → Hp → VK → Prop} (lk : K.lookup f = some ⟨oc, od, .func (PySem.W.fnOf name qual params body scope dV kV doc pm an cdv ct), osl⟩) (hcd : PySem.W.codeIn K cdv qual = true) (S : FnScope N [y] scope)
    (hbody : ∀ (A : Around) (outer : List Env) (s : Shared) (H : Hp) (Q : VK) (p : Addr × Obj), (∃ vs, p.2.data = .fields vs) → RoomH k (A.deeper (envOfC qual scope s.heap.objs.size f cdv)) → sp p.1 p.2.cls p.2.dict H Q →
      ∃ t, PSs (cxH CX0 P w K mg base N qual scope f cdv A outer s H E0 p) body t ∧ t { nx := fun _ H' => Q .non H', rt := Q } (L2.start N [.ref p.1]) H) :
    FnE P w K mg base (k + 1) f (PySem.W.fnOf name qual params body scope dV kV doc pm an cdv ct) y sp := by
  intro A outer s H Q p hr hpin hfl e0 hb hsp
  have KX : K.In s.heap := e0.mod.kin.keeps fun b o e => (e0.bs b o e).1
  have lim : s.heap.NoLimit := e0.mod.nolimit.keeps fun b o e => (e0.bs b o e).1
  have hkind : ∀ z ∈ [(y, Value.ref p.1)], scope.names.lookup z.1 = some .local ∨ (scope.names.lookup z.1 = some .cell ∧ ((cellsFrom (s.heap.objs.size + 1) scope.names []).lookup z.1).isSome = true) := fun z hz => by
    obtain rfl : z = (y, Value.ref p.1) := by simpa using hz
    rcases S.par y List.mem_cons_self with q | q
    · exact .inl q
    · exact .inr ⟨q, PySem.W.cellsFrom_some _ _ _ (.inl q)⟩
  refine codeAny_call_function hr.depth (KX _ _ lk) rfl S.co S.gen rfl (PySem.W.codeRec_of KX hcd) (hb _ _ _ _ ?_)
  refine wpAny_newFunctionEnv_cells S.kind hkind fun env he s1 x => ?_
  subst he
  refine ⟨lim.keeps x.toInCall.keep, codeAny_func ?_⟩
  obtain ⟨t, ht, hq⟩ := hbody A outer s H Q p hfl (hr.deeper _) hsp
  have I : Inv (cxH CX0 P w K mg base N qual scope f cdv A outer s H E0 p) [] (L2.start N [.ref p.1]) H s1 := inv_startH (ps := [y]) S hpin e0 rfl (.cons rfl .nil) x
  refine wpAny_mono (ht.run [] s1 _ H _ I hq) (fun fl s' hs => ?_) fun e s' hs => hs
  have fin : ∀ {σ' : St} {H' : Hp} {v : V} {u : Value}, Inv (cxH CX0 P w K mg base N qual scope f cdv A outer s H E0 p) [] σ' H' s' → RelV v u → Q v H' → CE outer P w H s Q u s' :=
    fun {σ' H' v u} J rv q => ⟨v, H', J.os, J.bare, J.base, J.hok, rv, q⟩
  cases fl with
  | ret u =>
    obtain ⟨v, σ', H', J, rv, q⟩ := hs
    exact fin J rv q
  | next =>
    obtain ⟨σ', H', J, q⟩ := hs
    exact fin (v := V.non) (u := Value.none) J rfl q
  | brk =>
    obtain ⟨_, _, _, q⟩ := hs
    exact q.elim
  | cont =>
    obtain ⟨_, _, _, q⟩ := hs
    exact q.elim
/-- f(e), e the error that the suite holds -/
def tCallE (i : Nat) (a : Addr) (cls : Value) (d : Option Addr) (sp : Addr → Value → Option Addr → Hp → VK → Prop) : TE := fun σ H Q => σ[i]? = some (some (.ref a)) ∧ sp a cls d H Q
theorem pe_callE {X : Cx} {a f : Addr} {oe : Obj} {cls : Value} {d : Option Addr} {pn : List (Addr × Obj)} {fd : FuncData} {x y z : Str} {i k : Nat} {p q pos : Pos} {sp : Addr → Value → Option Addr → Hp → VK → Prop}
    (F : FnE X.prog X.w X.K X.mg X.base k f fd y sp) (hr : RoomH k X.A) (hm : X.mg x = some (.ref f)) (hk : PySem.W.keepIn X.K (.ref f) = true) (hb : Binds X.K fd [y] []) (hz : Zc cls d oe) (hf : ∃ vs, oe.data = .fields vs)
    (hN : X.N[i]? = some z) (hg : Gl X x := by rfl) (hv : Vis X.env.scope z := by first | exact Or.inl rfl | exact Or.inr (Or.inl rfl)) (hd1 : (z == ("__debug__" : Str)) = false := by decide) (hd2 : (z == ("__classdict__" : Str)) = false := by decide)
    (hdb : (x == ("__debug__" : Str)) = false := by decide) (he : starEach [.Name z p] X.env = (false, eval (.Name z p) X.env) :: starEach [] X.env := by rfl) (hpl : (backTo pos (starEach [] X.env)).any (·.1) = false := by rfl) :
    PE (X.suite a ((a, oe) :: pn)) (.Call (.Name x q) [.Name z p] [] pos) (tCallE i a cls d sp) := by
  refine ⟨fun pins s σ H Q I h => ?_⟩
  obtain ⟨h1, h2⟩ := h
  refine wpAny_Call_Name_kw (ld_glob I hg hm ?_ hdb)
  have ha : PA (X.suite a ((a, oe) :: pn)) [.Name z p] (tCons (tVar i) tNil) := pa_cons (pe_var hN hv hd1 hd2) pa_nil
  refine PySem.W.callWith_K (h₀ := X.base) I.ok.mod.kin hk (thn (ha.run pos pins s σ H (fun vs H1 => vs = [V.ref a] ∧ H = H1) I ⟨_, h1, rfl, rfl⟩) fun us s1 hh => ?_) he hpl
  obtain ⟨vs, H1, I1, r1, rfl, rfl⟩ := hh
  refine ⟨I1.kIn, ?_⟩
  cases r1 with
  | cons ru rn =>
    cases rn
    cases ru
    show wpAny _ _ (call (.ref f) [.ref a]) _ _ _
    have b := hb s1 [.ref a] I1.kIn rfl
    have P1 := I1.pin (a, oe) (List.mem_append_left _ List.mem_cons_self)
    have hpin : PinOk X.stack H s1 (a, oe) := ⟨P1.1, P1.2.1, fun hm => (List.mem_cons.mp (I1.stkSub a hm)).elim P1.2.2.1 P1.2.2.2.1, P1.2.2.2.2⟩
    refine wpAny_call (codeAny_mono (F (X.suite a ((a, oe) :: pn)).A X.stack s1 H Q (a, oe) ⟨hr.dp, hr.un⟩ hpin hf I1.env0 b (by rw [hz.1, hz.2]; exact h2)) fun r s' hq => ?_)
    cases r with
    | error e => exact hq.elim
    | ok fl =>
      cases fl with
      | ret u => exact I1.after hq
      | next => exact False.elim hq
      | brk => exact False.elim hq
      | cont => exact False.elim hq
end L2
set_option Elab.async false
set_option linter.all false
set_option maxRecDepth 100000
set_option maxHeartbeats 4000000
namespace Q
open PySem L2 PySem.OwnX L2H
abbrev sClasses : Stmt := top 35
def nameOf : Nat → Str
  | 0 => "WhereError"
  | 1 => "InvalidPoint"
  | 2 => "InvalidShape"
  | 3 => "InvalidCell"
  | 4 => "InvalidDrawing"
  | 5 => "InvalidMap"
  | 6 => "InvalidLayer"
  | 7 => "InvalidArcs"
  | 8 => "InvalidBox"
  | 9 => "InvalidName"
  | 10 => "InvalidTree"
  | 11 => "InvalidTable"
  | 12 => "InvalidRow"
  | 13 => "InvalidCondition"
  | 14 => "InvalidQuestion"
  | 15 => "InvalidPlan"
  | 16 => "InvalidRule"
  | 17 => "InvalidOperation"
  | 18 => "TakenName"
  | 19 => "ParseError"
  | 20 => "InvalidNumber"
  | 21 => "UnknownName"
  | 22 => "TooMany"
  | 23 => "NothingToUndo"
  | 24 => "Conflict"
  | 25 => "Broken"
  | _ => ""
def ty (l : List String) : List Value := l.map Value.type
/-- the built-in classes behind the class with a number -/
def tailOf (i : Nat) : List Value :=
  if i < 20 then ty ["ValueError", "Exception", "BaseException", "object"]
  else if i = 20 then ty ["IndexError", "LookupError", "Exception", "BaseException", "object"]
  else if i = 21 then ty ["KeyError", "LookupError", "Exception", "BaseException", "object"]
  else if i = 22 then ty ["OverflowError", "ArithmeticError", "Exception", "BaseException", "object"]
  else if i = 23 then ty ["LookupError", "Exception", "BaseException", "object"]
  else if i = 24 then ty ["RuntimeError", "Exception", "BaseException", "object"]
  else ty ["ArithmeticError", "Exception", "BaseException", "object"]
/-- all that stands behind the class in its order -/
def behindOf (Cs : Nat → Addr) (i : Nat) : List Value := if 0 < i ∧ i < 20 then .ref (Cs 0) :: tailOf i else tailOf i
def builtOf : Nat → String
  | 26 => "ValueError"
  | 27 => "IndexError"
  | 28 => "KeyError"
  | 29 => "LookupError"
  | 30 => "OverflowError"
  | 31 => "ArithmeticError"
  | 32 => "RuntimeError"
  | _ => ""
/-- whether an error of the class i is of the class j: this is due -/
def dueB (i j : Nat) : Bool := if j < 26 then (i == j || (decide (i < 20) && j == 0)) else (tailOf i).contains (.type (builtOf j))
def due (i : Nat) : List Bool := (List.range 33).map (dueB i)
structure Errs (K : PySem.W.Frag) (mg : Str → Option Value) (Cs : Nat → Addr) : Prop where
  inj : ∀ i j, i < 26 → j < 26 → Cs i = Cs j → i = j
  g : ∀ i, i < 26 → mg (nameOf i) = some (.ref (Cs i))
  mro : ∀ i, i < 26 → ∃ cd, PySem.W.clsIn K (Cs i) = some cd ∧ cd.mro = .ref (Cs i) :: behindOf Cs i
  ask : ∀ i, i < 26 → AskE K (Cs i)
  typ : ∀ i, i < 26 → PySem.W.typeIn K (.ref (Cs i)) = some (.type "type")
  kC : ∀ i, i < 26 → PySem.W.keepIn K (.ref (Cs i)) = true
  isi : mg "isinstance" = none
  bValueError : mg "ValueError" = none
  bIndexError : mg "IndexError" = none
  bKeyError : mg "KeyError" = none
  bLookupError : mg "LookupError" = none
  bOverflowError : mg "OverflowError" = none
  bArithmeticError : mg "ArithmeticError" = none
  bRuntimeError : mg "RuntimeError" = none
section
variable {K : PySem.W.Frag} {mg : Str → Option Value} {Cs : Nat → Addr}
theorem zero_eq (j : Nat) : (0 == j) = (j == 0) := by cases j <;> rfl
theorem behind_ref (T : Errs K mg Cs) {i j : Nat} (hi : i < 26) (hj : j < 26) : (Value.ref (Cs i) :: behindOf Cs i).contains (.ref (Cs j)) = (i == j || (decide (i < 20) && j == 0)) := by
  have tl : ∀ i, (tailOf i).contains (.ref (Cs j)) = false := fun i => by
    unfold tailOf
    repeat' split
    all_goals simp [ty]
  have eq1 : ∀ k, k < 26 → (Value.ref (Cs j) == Value.ref (Cs k)) = (k == j) := fun k hk => by
    by_cases e : k = j
    · subst e
      simp
    · have ne : ¬ Cs j = Cs k := fun z => e (T.inj _ _ hj hk z).symm
      have n2 : (Value.ref (Cs j) == Value.ref (Cs k)) = false := by
        apply Bool.eq_false_iff.mpr
        intro q
        exact ne (Value.ref.inj (beq_iff_eq.mp q))
      rw [n2]
      simp [e]
  unfold behindOf
  by_cases c : 0 < i ∧ i < 20
  · rw [if_pos c, List.contains_cons, List.contains_cons, eq1 i hi, eq1 0 (by decide), tl]
    have c2 : decide (i < 20) = true := decide_eq_true c.2
    rw [c2, zero_eq, Bool.or_false, Bool.true_and]
  · rw [if_neg c, List.contains_cons, eq1 i hi, tl, Bool.or_false]
    by_cases h0 : i = 0
    · subst h0
      rw [zero_eq]
      cases (j == 0) <;> rfl
    · have c3 : decide (i < 20) = false := decide_eq_false (by omega)
      rw [c3]
      simp
theorem sub_of (T : Errs K mg Cs) {i : Nat} (hi : i < 26) (c : Value) : PySem.W.subIn K (.ref (Cs i)) c = some ((Value.ref (Cs i) :: behindOf Cs i).contains c) := by
  obtain ⟨cd, e1, e2⟩ := T.mro i hi
  show PySem.W.mroIn K (Cs i) c = _
  unfold PySem.W.mroIn
  rw [e1, Option.bind_some, e2]
  rfl
theorem kit_ref (T : Errs K mg Cs) {i j : Nat} (hi : i < 26) (hj : j < 26) : PySem.W.kitOne K (.ref (Cs i)) (.ref (Cs j)) = some (dueB i j) := by
  have e : dueB i j = (i == j || (decide (i < 20) && j == 0)) := by
    unfold dueB
    rw [if_pos hj]
  rw [e]
  unfold PySem.W.kitOne
  by_cases c : (Value.ref (Cs i) == Value.ref (Cs j)) = true
  · rw [if_pos c]
    have q := T.inj _ _ hi hj (Value.ref.inj (beq_iff_eq.mp c))
    subst q
    simp
  · rw [if_neg c]
    show (if ((PySem.W.clsIn K (Cs j)).isSome && PySem.W.typeIn K (.ref (Cs j)) == some (.type "type")) = true then PySem.W.subIn K (.ref (Cs i)) (.ref (Cs j)) else none) = _
    rw [(T.ask j hj).cl, T.typ j hj, if_pos (by simp), sub_of T hi, behind_ref T hi hj]
theorem kit_typ (T : Errs K mg Cs) {i j : Nat} (hi : i < 26) (hj : 26 ≤ j ∧ j < 33) : PySem.W.kitOne K (.ref (Cs i)) (.type (builtOf j)) = some (dueB i j) := by
  have e : dueB i j = (tailOf i).contains (.type (builtOf j)) := by
    unfold dueB
    rw [if_neg (by omega)]
  rw [e]
  have m : PySem.W.kitMeta (builtOf j) = true := by
    obtain ⟨h1, h2⟩ := hj
    have : j = 26 ∨ j = 27 ∨ j = 28 ∨ j = 29 ∨ j = 30 ∨ j = 31 ∨ j = 32 := by omega
    rcases this with rfl | rfl | rfl | rfl | rfl | rfl | rfl <;> decide +kernel
  have e2 : (Value.ref (Cs i) :: behindOf Cs i).contains (.type (builtOf j)) = (tailOf i).contains (.type (builtOf j)) := by
    unfold behindOf
    split
    · rw [List.contains_cons, List.contains_cons]
      rfl
    · rw [List.contains_cons]
      rfl
  unfold PySem.W.kitOne
  rw [if_neg (by intro q; exact absurd (beq_iff_eq.mp q) (by intro z; cases z))]
  show (if PySem.W.kitMeta (builtOf j) = true then PySem.W.subIn K (.ref (Cs i)) (.type (builtOf j)) else none) = _
  rw [if_pos m, sub_of T hi, e2]
theorem dict_same {d : Option Addr} {H H' : Hp} (h : DictOk d H) (s : Same H H') : DictOk d H' := fun dd e => by
  obtain ⟨fs, q⟩ := h dd e
  exact ⟨fs, s _ _ q⟩
theorem same_new {H H1 : Hp} {p : Addr} {o : HO} (s : Same H H1) (hp : H1 p = none) : Same H (upd H1 p o) := fun b u e => by
  have q := s b u e
  rw [upd_ne (ne_of_none q hp)]
  exact q
/-- the answers of the first n classes -/
def dues (i n : Nat) : List V := (List.range n).map fun j => V.bl (dueB i j)
def spCls (Cs : Nat → Addr) : Addr → Value → Option Addr → Hp → VK → Prop := fun a cls d H Q => ∃ i, i < 26 ∧ cls = .ref (Cs i) ∧ DictOk d H ∧ ∀ (l : Addr) (H' : Hp), Same H H' → H' l = some (.lst (dues i 33)) → Q (.ref l) H'
theorem scClasses : FnScope ["error", "found"] ["error"] (defScope sClasses) := ⟨rfl, rfl, rfl, by decide +kernel, rfl, by decide +kernel, by decide +kernel⟩
variable {P : Program} {w : World} {base : Heap}
theorem ok_classes {f : Addr} {fd : FuncData} (F : Fun K "_law_classes" "_law_classes" sClasses f fd) (T : Errs K mg Cs) : FnE P w K mg base 1 f fd "error" (spCls Cs) := by
  obtain ⟨oc, od, kV, doc, pm, an, cdv, ct, osl, rfl, lk, hcd⟩ := F.ex
  refine fnE_of lk hcd scClasses fun A outer s H Q p hf hr hsp => ?_
  obtain ⟨i, hi, hc, hd, k⟩ := hsp
  refine ⟨_, (Evl.pss_cut (ps_set (i := 1) scClasses.nd rfl (Or.inl rfl) (pe_lst (pa_cons (pe_callB (call_isP (a := p.1) (D := Cs i) List.mem_cons_self (T.ask i hi) hc hf) (by rfl) T.isi (by decide +kernel) (pa_cons (pv 0) (pa_cons (pe_glob (v := .ref (Cs 0)) rfl (T.g 0 (by decide)) rfl) pa_nil))) (pa_cons (pe_callB (call_isP (a := p.1) (D := Cs i) List.mem_cons_self (T.ask i hi) hc hf) (by rfl) T.isi (by decide +kernel) (pa_cons (pv 0) (pa_cons (pe_glob (v := .ref (Cs 1)) rfl (T.g 1 (by decide)) rfl) pa_nil))) (pa_cons (pe_callB (call_isP (a := p.1) (D := Cs i) List.mem_cons_self (T.ask i hi) hc hf) (by rfl) T.isi (by decide +kernel) (pa_cons (pv 0) (pa_cons (pe_glob (v := .ref (Cs 2)) rfl (T.g 2 (by decide)) rfl) pa_nil))) pa_nil)))))
      (Evl.pss_cut (ps_set (i := 1) scClasses.nd rfl (Or.inl rfl) (pe_op op_cat (pv 1) (pe_lst (pa_cons (pe_callB (call_isP (a := p.1) (D := Cs i) List.mem_cons_self (T.ask i hi) hc hf) (by rfl) T.isi (by decide +kernel) (pa_cons (pv 0) (pa_cons (pe_glob (v := .ref (Cs 3)) rfl (T.g 3 (by decide)) rfl) pa_nil))) (pa_cons (pe_callB (call_isP (a := p.1) (D := Cs i) List.mem_cons_self (T.ask i hi) hc hf) (by rfl) T.isi (by decide +kernel) (pa_cons (pv 0) (pa_cons (pe_glob (v := .ref (Cs 4)) rfl (T.g 4 (by decide)) rfl) pa_nil))) (pa_cons (pe_callB (call_isP (a := p.1) (D := Cs i) List.mem_cons_self (T.ask i hi) hc hf) (by rfl) T.isi (by decide +kernel) (pa_cons (pv 0) (pa_cons (pe_glob (v := .ref (Cs 5)) rfl (T.g 5 (by decide)) rfl) pa_nil))) pa_nil))))))
      (Evl.pss_cut (ps_set (i := 1) scClasses.nd rfl (Or.inl rfl) (pe_op op_cat (pv 1) (pe_lst (pa_cons (pe_callB (call_isP (a := p.1) (D := Cs i) List.mem_cons_self (T.ask i hi) hc hf) (by rfl) T.isi (by decide +kernel) (pa_cons (pv 0) (pa_cons (pe_glob (v := .ref (Cs 6)) rfl (T.g 6 (by decide)) rfl) pa_nil))) (pa_cons (pe_callB (call_isP (a := p.1) (D := Cs i) List.mem_cons_self (T.ask i hi) hc hf) (by rfl) T.isi (by decide +kernel) (pa_cons (pv 0) (pa_cons (pe_glob (v := .ref (Cs 7)) rfl (T.g 7 (by decide)) rfl) pa_nil))) (pa_cons (pe_callB (call_isP (a := p.1) (D := Cs i) List.mem_cons_self (T.ask i hi) hc hf) (by rfl) T.isi (by decide +kernel) (pa_cons (pv 0) (pa_cons (pe_glob (v := .ref (Cs 8)) rfl (T.g 8 (by decide)) rfl) pa_nil))) pa_nil))))))
      (Evl.pss_cut (ps_set (i := 1) scClasses.nd rfl (Or.inl rfl) (pe_op op_cat (pv 1) (pe_lst (pa_cons (pe_callB (call_isP (a := p.1) (D := Cs i) List.mem_cons_self (T.ask i hi) hc hf) (by rfl) T.isi (by decide +kernel) (pa_cons (pv 0) (pa_cons (pe_glob (v := .ref (Cs 9)) rfl (T.g 9 (by decide)) rfl) pa_nil))) (pa_cons (pe_callB (call_isP (a := p.1) (D := Cs i) List.mem_cons_self (T.ask i hi) hc hf) (by rfl) T.isi (by decide +kernel) (pa_cons (pv 0) (pa_cons (pe_glob (v := .ref (Cs 10)) rfl (T.g 10 (by decide)) rfl) pa_nil))) (pa_cons (pe_callB (call_isP (a := p.1) (D := Cs i) List.mem_cons_self (T.ask i hi) hc hf) (by rfl) T.isi (by decide +kernel) (pa_cons (pv 0) (pa_cons (pe_glob (v := .ref (Cs 11)) rfl (T.g 11 (by decide)) rfl) pa_nil))) pa_nil))))))
      (Evl.pss_cut (ps_set (i := 1) scClasses.nd rfl (Or.inl rfl) (pe_op op_cat (pv 1) (pe_lst (pa_cons (pe_callB (call_isP (a := p.1) (D := Cs i) List.mem_cons_self (T.ask i hi) hc hf) (by rfl) T.isi (by decide +kernel) (pa_cons (pv 0) (pa_cons (pe_glob (v := .ref (Cs 12)) rfl (T.g 12 (by decide)) rfl) pa_nil))) (pa_cons (pe_callB (call_isP (a := p.1) (D := Cs i) List.mem_cons_self (T.ask i hi) hc hf) (by rfl) T.isi (by decide +kernel) (pa_cons (pv 0) (pa_cons (pe_glob (v := .ref (Cs 13)) rfl (T.g 13 (by decide)) rfl) pa_nil))) pa_nil)))))
      (Evl.pss_cut (ps_set (i := 1) scClasses.nd rfl (Or.inl rfl) (pe_op op_cat (pv 1) (pe_lst (pa_cons (pe_callB (call_isP (a := p.1) (D := Cs i) List.mem_cons_self (T.ask i hi) hc hf) (by rfl) T.isi (by decide +kernel) (pa_cons (pv 0) (pa_cons (pe_glob (v := .ref (Cs 14)) rfl (T.g 14 (by decide)) rfl) pa_nil))) (pa_cons (pe_callB (call_isP (a := p.1) (D := Cs i) List.mem_cons_self (T.ask i hi) hc hf) (by rfl) T.isi (by decide +kernel) (pa_cons (pv 0) (pa_cons (pe_glob (v := .ref (Cs 15)) rfl (T.g 15 (by decide)) rfl) pa_nil))) (pa_cons (pe_callB (call_isP (a := p.1) (D := Cs i) List.mem_cons_self (T.ask i hi) hc hf) (by rfl) T.isi (by decide +kernel) (pa_cons (pv 0) (pa_cons (pe_glob (v := .ref (Cs 16)) rfl (T.g 16 (by decide)) rfl) pa_nil))) pa_nil))))))
      (Evl.pss_cut (ps_set (i := 1) scClasses.nd rfl (Or.inl rfl) (pe_op op_cat (pv 1) (pe_lst (pa_cons (pe_callB (call_isP (a := p.1) (D := Cs i) List.mem_cons_self (T.ask i hi) hc hf) (by rfl) T.isi (by decide +kernel) (pa_cons (pv 0) (pa_cons (pe_glob (v := .ref (Cs 17)) rfl (T.g 17 (by decide)) rfl) pa_nil))) (pa_cons (pe_callB (call_isP (a := p.1) (D := Cs i) List.mem_cons_self (T.ask i hi) hc hf) (by rfl) T.isi (by decide +kernel) (pa_cons (pv 0) (pa_cons (pe_glob (v := .ref (Cs 18)) rfl (T.g 18 (by decide)) rfl) pa_nil))) (pa_cons (pe_callB (call_isP (a := p.1) (D := Cs i) List.mem_cons_self (T.ask i hi) hc hf) (by rfl) T.isi (by decide +kernel) (pa_cons (pv 0) (pa_cons (pe_glob (v := .ref (Cs 19)) rfl (T.g 19 (by decide)) rfl) pa_nil))) pa_nil))))))
      (Evl.pss_cut (ps_set (i := 1) scClasses.nd rfl (Or.inl rfl) (pe_op op_cat (pv 1) (pe_lst (pa_cons (pe_callB (call_isP (a := p.1) (D := Cs i) List.mem_cons_self (T.ask i hi) hc hf) (by rfl) T.isi (by decide +kernel) (pa_cons (pv 0) (pa_cons (pe_glob (v := .ref (Cs 20)) rfl (T.g 20 (by decide)) rfl) pa_nil))) (pa_cons (pe_callB (call_isP (a := p.1) (D := Cs i) List.mem_cons_self (T.ask i hi) hc hf) (by rfl) T.isi (by decide +kernel) (pa_cons (pv 0) (pa_cons (pe_glob (v := .ref (Cs 21)) rfl (T.g 21 (by decide)) rfl) pa_nil))) (pa_cons (pe_callB (call_isP (a := p.1) (D := Cs i) List.mem_cons_self (T.ask i hi) hc hf) (by rfl) T.isi (by decide +kernel) (pa_cons (pv 0) (pa_cons (pe_glob (v := .ref (Cs 22)) rfl (T.g 22 (by decide)) rfl) pa_nil))) pa_nil))))))
      (Evl.pss_cut (ps_set (i := 1) scClasses.nd rfl (Or.inl rfl) (pe_op op_cat (pv 1) (pe_lst (pa_cons (pe_callB (call_isP (a := p.1) (D := Cs i) List.mem_cons_self (T.ask i hi) hc hf) (by rfl) T.isi (by decide +kernel) (pa_cons (pv 0) (pa_cons (pe_glob (v := .ref (Cs 23)) rfl (T.g 23 (by decide)) rfl) pa_nil))) (pa_cons (pe_callB (call_isP (a := p.1) (D := Cs i) List.mem_cons_self (T.ask i hi) hc hf) (by rfl) T.isi (by decide +kernel) (pa_cons (pv 0) (pa_cons (pe_glob (v := .ref (Cs 24)) rfl (T.g 24 (by decide)) rfl) pa_nil))) (pa_cons (pe_callB (call_isP (a := p.1) (D := Cs i) List.mem_cons_self (T.ask i hi) hc hf) (by rfl) T.isi (by decide +kernel) (pa_cons (pv 0) (pa_cons (pe_glob (v := .ref (Cs 25)) rfl (T.g 25 (by decide)) rfl) pa_nil))) pa_nil))))))
      (Evl.pss_cut (ps_set (i := 1) scClasses.nd rfl (Or.inl rfl) (pe_op op_cat (pv 1) (pe_lst (pa_cons (pe_callB (call_isP (a := p.1) (D := Cs i) List.mem_cons_self (T.ask i hi) hc hf) (by rfl) T.isi (by decide +kernel) (pa_cons (pv 0) (pa_cons (pe_bltn (v := .ty "ValueError") (by rfl) T.bValueError (by decide +kernel) rfl) pa_nil))) (pa_cons (pe_callB (call_isP (a := p.1) (D := Cs i) List.mem_cons_self (T.ask i hi) hc hf) (by rfl) T.isi (by decide +kernel) (pa_cons (pv 0) (pa_cons (pe_bltn (v := .ty "IndexError") (by rfl) T.bIndexError (by decide +kernel) rfl) pa_nil))) (pa_cons (pe_callB (call_isP (a := p.1) (D := Cs i) List.mem_cons_self (T.ask i hi) hc hf) (by rfl) T.isi (by decide +kernel) (pa_cons (pv 0) (pa_cons (pe_bltn (v := .ty "KeyError") (by rfl) T.bKeyError (by decide +kernel) rfl) pa_nil))) pa_nil))))))
      (Evl.pss_cut (ps_set (i := 1) scClasses.nd rfl (Or.inl rfl) (pe_op op_cat (pv 1) (pe_lst (pa_cons (pe_callB (call_isP (a := p.1) (D := Cs i) List.mem_cons_self (T.ask i hi) hc hf) (by rfl) T.isi (by decide +kernel) (pa_cons (pv 0) (pa_cons (pe_bltn (v := .ty "LookupError") (by rfl) T.bLookupError (by decide +kernel) rfl) pa_nil))) (pa_cons (pe_callB (call_isP (a := p.1) (D := Cs i) List.mem_cons_self (T.ask i hi) hc hf) (by rfl) T.isi (by decide +kernel) (pa_cons (pv 0) (pa_cons (pe_bltn (v := .ty "OverflowError") (by rfl) T.bOverflowError (by decide +kernel) rfl) pa_nil))) pa_nil)))))
      (pss_one (ps_ret (pe_op op_cat (pv 1) (pe_lst (pa_cons (pe_callB (call_isP (a := p.1) (D := Cs i) List.mem_cons_self (T.ask i hi) hc hf) (by rfl) T.isi (by decide +kernel) (pa_cons (pv 0) (pa_cons (pe_bltn (v := .ty "ArithmeticError") (by rfl) T.bArithmeticError (by decide +kernel) rfl) pa_nil))) (pa_cons (pe_callB (call_isP (a := p.1) (D := Cs i) List.mem_cons_self (T.ask i hi) hc hf) (by rfl) T.isi (by decide +kernel) (pa_cons (pv 0) (pa_cons (pe_bltn (v := .ty "RuntimeError") (by rfl) T.bRuntimeError (by decide +kernel) rfl) pa_nil))) pa_nil))))))))))))))))), ?_⟩
  refine ⟨fun σ' H' => Same H H' ∧ ∃ l, σ' = [some (.ref p.1), some (.ref l)] ∧ H' l = some (.lst (dues i 3)), ?_, ?_⟩
  · refine ⟨_, rfl, hd, _, _, dueB i 0, rfl, fun u r => r, kit_ref T hi (j := 0) (by decide), _, rfl, hd, _, _, dueB i 1, rfl, fun u r => r, kit_ref T hi (j := 1) (by decide), _, rfl, hd, _, _, dueB i 2, rfl, fun u r => r, kit_ref T hi (j := 2) (by decide), (by show 3 ≤ sizeLine; decide), fun l hl => ⟨same_new (Same.refl H) hl, l, rfl, upd_same⟩⟩
  rintro σ1 H1 ⟨s1, l1, rfl, e1⟩
  have d1 := dict_same hd s1
  refine ⟨fun σ' H' => Same H H' ∧ ∃ l, σ' = [some (.ref p.1), some (.ref l)] ∧ H' l = some (.lst (dues i 6)), ?_, ?_⟩
  · exact ⟨_, rfl, _, rfl, d1, _, _, dueB i 3, rfl, fun u r => r, kit_ref T hi (j := 3) (by decide), _, rfl, d1, _, _, dueB i 4, rfl, fun u r => r, kit_ref T hi (j := 4) (by decide), _, rfl, d1, _, _, dueB i 5, rfl, fun u r => r, kit_ref T hi (j := 5) (by decide), (by show 3 ≤ sizeLine; decide), fun q hq => ⟨l1, q, _, _, rfl, rfl, (upd_ne (ne_of_none e1 hq)).trans e1, upd_same, (by show 6 ≤ sizeLine; decide), fun l hl => ⟨same_new (same_new s1 hq) hl, l, rfl, upd_same⟩⟩⟩
  rintro σ2 H2 ⟨s2, l2, rfl, e2⟩
  have d2 := dict_same hd s2
  refine ⟨fun σ' H' => Same H H' ∧ ∃ l, σ' = [some (.ref p.1), some (.ref l)] ∧ H' l = some (.lst (dues i 9)), ?_, ?_⟩
  · exact ⟨_, rfl, _, rfl, d2, _, _, dueB i 6, rfl, fun u r => r, kit_ref T hi (j := 6) (by decide), _, rfl, d2, _, _, dueB i 7, rfl, fun u r => r, kit_ref T hi (j := 7) (by decide), _, rfl, d2, _, _, dueB i 8, rfl, fun u r => r, kit_ref T hi (j := 8) (by decide), (by show 3 ≤ sizeLine; decide), fun q hq => ⟨l2, q, _, _, rfl, rfl, (upd_ne (ne_of_none e2 hq)).trans e2, upd_same, (by show 9 ≤ sizeLine; decide), fun l hl => ⟨same_new (same_new s2 hq) hl, l, rfl, upd_same⟩⟩⟩
  rintro σ3 H3 ⟨s3, l3, rfl, e3⟩
  have d3 := dict_same hd s3
  refine ⟨fun σ' H' => Same H H' ∧ ∃ l, σ' = [some (.ref p.1), some (.ref l)] ∧ H' l = some (.lst (dues i 12)), ?_, ?_⟩
  · exact ⟨_, rfl, _, rfl, d3, _, _, dueB i 9, rfl, fun u r => r, kit_ref T hi (j := 9) (by decide), _, rfl, d3, _, _, dueB i 10, rfl, fun u r => r, kit_ref T hi (j := 10) (by decide), _, rfl, d3, _, _, dueB i 11, rfl, fun u r => r, kit_ref T hi (j := 11) (by decide), (by show 3 ≤ sizeLine; decide), fun q hq => ⟨l3, q, _, _, rfl, rfl, (upd_ne (ne_of_none e3 hq)).trans e3, upd_same, (by show 12 ≤ sizeLine; decide), fun l hl => ⟨same_new (same_new s3 hq) hl, l, rfl, upd_same⟩⟩⟩
  rintro σ4 H4 ⟨s4, l4, rfl, e4⟩
  have d4 := dict_same hd s4
  refine ⟨fun σ' H' => Same H H' ∧ ∃ l, σ' = [some (.ref p.1), some (.ref l)] ∧ H' l = some (.lst (dues i 14)), ?_, ?_⟩
  · exact ⟨_, rfl, _, rfl, d4, _, _, dueB i 12, rfl, fun u r => r, kit_ref T hi (j := 12) (by decide), _, rfl, d4, _, _, dueB i 13, rfl, fun u r => r, kit_ref T hi (j := 13) (by decide), (by show 2 ≤ sizeLine; decide), fun q hq => ⟨l4, q, _, _, rfl, rfl, (upd_ne (ne_of_none e4 hq)).trans e4, upd_same, (by show 14 ≤ sizeLine; decide), fun l hl => ⟨same_new (same_new s4 hq) hl, l, rfl, upd_same⟩⟩⟩
  rintro σ5 H5 ⟨s5, l5, rfl, e5⟩
  have d5 := dict_same hd s5
  refine ⟨fun σ' H' => Same H H' ∧ ∃ l, σ' = [some (.ref p.1), some (.ref l)] ∧ H' l = some (.lst (dues i 17)), ?_, ?_⟩
  · exact ⟨_, rfl, _, rfl, d5, _, _, dueB i 14, rfl, fun u r => r, kit_ref T hi (j := 14) (by decide), _, rfl, d5, _, _, dueB i 15, rfl, fun u r => r, kit_ref T hi (j := 15) (by decide), _, rfl, d5, _, _, dueB i 16, rfl, fun u r => r, kit_ref T hi (j := 16) (by decide), (by show 3 ≤ sizeLine; decide), fun q hq => ⟨l5, q, _, _, rfl, rfl, (upd_ne (ne_of_none e5 hq)).trans e5, upd_same, (by show 17 ≤ sizeLine; decide), fun l hl => ⟨same_new (same_new s5 hq) hl, l, rfl, upd_same⟩⟩⟩
  rintro σ6 H6 ⟨s6, l6, rfl, e6⟩
  have d6 := dict_same hd s6
  refine ⟨fun σ' H' => Same H H' ∧ ∃ l, σ' = [some (.ref p.1), some (.ref l)] ∧ H' l = some (.lst (dues i 20)), ?_, ?_⟩
  · exact ⟨_, rfl, _, rfl, d6, _, _, dueB i 17, rfl, fun u r => r, kit_ref T hi (j := 17) (by decide), _, rfl, d6, _, _, dueB i 18, rfl, fun u r => r, kit_ref T hi (j := 18) (by decide), _, rfl, d6, _, _, dueB i 19, rfl, fun u r => r, kit_ref T hi (j := 19) (by decide), (by show 3 ≤ sizeLine; decide), fun q hq => ⟨l6, q, _, _, rfl, rfl, (upd_ne (ne_of_none e6 hq)).trans e6, upd_same, (by show 20 ≤ sizeLine; decide), fun l hl => ⟨same_new (same_new s6 hq) hl, l, rfl, upd_same⟩⟩⟩
  rintro σ7 H7 ⟨s7, l7, rfl, e7⟩
  have d7 := dict_same hd s7
  refine ⟨fun σ' H' => Same H H' ∧ ∃ l, σ' = [some (.ref p.1), some (.ref l)] ∧ H' l = some (.lst (dues i 23)), ?_, ?_⟩
  · exact ⟨_, rfl, _, rfl, d7, _, _, dueB i 20, rfl, fun u r => r, kit_ref T hi (j := 20) (by decide), _, rfl, d7, _, _, dueB i 21, rfl, fun u r => r, kit_ref T hi (j := 21) (by decide), _, rfl, d7, _, _, dueB i 22, rfl, fun u r => r, kit_ref T hi (j := 22) (by decide), (by show 3 ≤ sizeLine; decide), fun q hq => ⟨l7, q, _, _, rfl, rfl, (upd_ne (ne_of_none e7 hq)).trans e7, upd_same, (by show 23 ≤ sizeLine; decide), fun l hl => ⟨same_new (same_new s7 hq) hl, l, rfl, upd_same⟩⟩⟩
  rintro σ8 H8 ⟨s8, l8, rfl, e8⟩
  have d8 := dict_same hd s8
  refine ⟨fun σ' H' => Same H H' ∧ ∃ l, σ' = [some (.ref p.1), some (.ref l)] ∧ H' l = some (.lst (dues i 26)), ?_, ?_⟩
  · exact ⟨_, rfl, _, rfl, d8, _, _, dueB i 23, rfl, fun u r => r, kit_ref T hi (j := 23) (by decide), _, rfl, d8, _, _, dueB i 24, rfl, fun u r => r, kit_ref T hi (j := 24) (by decide), _, rfl, d8, _, _, dueB i 25, rfl, fun u r => r, kit_ref T hi (j := 25) (by decide), (by show 3 ≤ sizeLine; decide), fun q hq => ⟨l8, q, _, _, rfl, rfl, (upd_ne (ne_of_none e8 hq)).trans e8, upd_same, (by show 26 ≤ sizeLine; decide), fun l hl => ⟨same_new (same_new s8 hq) hl, l, rfl, upd_same⟩⟩⟩
  rintro σ9 H9 ⟨s9, l9, rfl, e9⟩
  have d9 := dict_same hd s9
  refine ⟨fun σ' H' => Same H H' ∧ ∃ l, σ' = [some (.ref p.1), some (.ref l)] ∧ H' l = some (.lst (dues i 29)), ?_, ?_⟩
  · exact ⟨_, rfl, _, rfl, d9, _, _, dueB i 26, rfl, fun u r => r, kit_typ T hi (j := 26) (by decide), _, rfl, d9, _, _, dueB i 27, rfl, fun u r => r, kit_typ T hi (j := 27) (by decide), _, rfl, d9, _, _, dueB i 28, rfl, fun u r => r, kit_typ T hi (j := 28) (by decide), (by show 3 ≤ sizeLine; decide), fun q hq => ⟨l9, q, _, _, rfl, rfl, (upd_ne (ne_of_none e9 hq)).trans e9, upd_same, (by show 29 ≤ sizeLine; decide), fun l hl => ⟨same_new (same_new s9 hq) hl, l, rfl, upd_same⟩⟩⟩
  rintro σ10 H10 ⟨s10, l10, rfl, e10⟩
  have d10 := dict_same hd s10
  refine ⟨fun σ' H' => Same H H' ∧ ∃ l, σ' = [some (.ref p.1), some (.ref l)] ∧ H' l = some (.lst (dues i 31)), ?_, ?_⟩
  · exact ⟨_, rfl, _, rfl, d10, _, _, dueB i 29, rfl, fun u r => r, kit_typ T hi (j := 29) (by decide), _, rfl, d10, _, _, dueB i 30, rfl, fun u r => r, kit_typ T hi (j := 30) (by decide), (by show 2 ≤ sizeLine; decide), fun q hq => ⟨l10, q, _, _, rfl, rfl, (upd_ne (ne_of_none e10 hq)).trans e10, upd_same, (by show 31 ≤ sizeLine; decide), fun l hl => ⟨same_new (same_new s10 hq) hl, l, rfl, upd_same⟩⟩⟩
  rintro σ11 H11 ⟨s11, l11, rfl, e11⟩
  have d11 := dict_same hd s11
  exact ⟨_, rfl, _, rfl, d11, _, _, dueB i 31, rfl, fun u r => r, kit_typ T hi (j := 31) (by decide), _, rfl, d11, _, _, dueB i 32, rfl, fun u r => r, kit_typ T hi (j := 32) (by decide), (by show 2 ≤ sizeLine; decide), fun q hq => ⟨l11, q, _, _, rfl, rfl, (upd_ne (ne_of_none e11 hq)).trans e11, upd_same, (by show 33 ≤ sizeLine; decide), fun l hl => k l _ (same_new (same_new s11 hq) hl) upd_same⟩⟩
end
end Q
set_option Elab.async false
set_option linter.all false
set_option maxRecDepth 100000
set_option maxHeartbeats 4000000
namespace Q
open PySem L2 PySem.OwnX L2H
abbrev sFirst : Stmt := top 32
abbrev sSecond : Stmt := top 33
/-- the classes that take a message, as they are made -/
structure Plain (K : PySem.W.Frag) (Cs : Nat → Addr) : Prop where
  x : ∀ i, i < 18 → PySem.W.excIn K (Cs i) (tailOf 0) "ValueError.__new__" = true
def parOf (i : Nat) : Str := if i = 19 then "index" else if i = 20 then "value" else if i = 22 then "limit" else if i = 23 then "many" else "name"
def baseOf (i : Nat) : String := if i = 20 then "IndexError" else if i = 21 then "LookupError" else if i = 22 then "OverflowError" else if i = 23 then "LookupError" else if i = 24 then "RuntimeError" else if i = 25 then "ArithmeticError" else "ValueError"
def fldOf (i : Nat) (vs : List V) : List (Str × V) := match vs with
  | [v] => [(parOf i, v)]
  | [v1, v2, v3] => [("point", v3), ("row_numbers", v2), ("rule_label", v1)]
  | _ => []
/-- the classes that keep what they are given -/
structure Held (P : Program) (w : World) (K : PySem.W.Frag) (Cs : Nat → Addr) : Prop where
  t : ∀ i, 18 ≤ i → i < 26 → ∃ fI newId, OwnTxt K (Cs i) fI (tailOf i) newId ∧ (∃ initId bmF, ExcBaseFacts (baseOf i) newId initId bmF) ∧ Behind (baseOf i) (tailOf i) ∧ Keeps P w K (Cs i) fI (if i = 25 then 3 else 1) (fldOf i)
section
variable {P : Program} {w : World} {K : PySem.W.Frag} {mg : Str → Option Value} {Cs : Nat → Addr} {base : Heap}
theorem int_eq {i k : Nat} (h : decide (V.int (i : Int) = V.int (k : Int)) = true) : i = k := by
  have q := of_decide_eq_true h
  have z : (i : Int) = (k : Int) := V.int.inj q
  omega
def spFirst (Cs : Nat → Addr) : Sp := fun vs H Q E => ∃ (i : Nat) (z : Str), vs = [.int i, .str z] ∧ i < 13 ∧ E (.ref (Cs i)) none H
theorem scFirst : FnScope ["which", "text"] ["which", "text"] (defScope sFirst) := ⟨rfl, rfl, rfl, by decide +kernel, rfl, by decide +kernel, by decide +kernel⟩
theorem ok_first {f : Addr} {fd : FuncData} (F : Fun K "_law_first" "_law_first" sFirst f fd) (T : Errs K mg Cs) (L : Plain K Cs) : FnOk P w K mg base (L2.CX P w) 3 f fd ["which", "text"] (spFirst Cs) := by
  refine F.okX scFirst (fun vs H Q E h => ?_) (fun cdv A outer s H vs Q E hr h => ?_)
  · obtain ⟨i, z, rfl, _⟩ := h
    rfl
  · obtain ⟨i, z, rfl, hi, k⟩ := h
    refine ⟨_, (pss_cons (ps_if (pt_cmpR op_eq (pv 0) pe_int (nomark _)) (pss_one (ps_raise (W := fun cls d _ H => E cls d H) rfl (takes_of rfl rfl rfl rfl) (SkE.pmk_own1 PySem.F.excBase_ValueError (L.x 0 (by decide)) (T.g 0 (by decide)) (T.kC 0 (by decide)) (raises_own (T.ask 0 (by decide)).be (T.typ 0 (by decide))) rfl (pv 1)))) pss_nil)
      (pss_cons (ps_if (pt_cmpR op_eq (pv 0) pe_int (nomark _)) (pss_one (ps_raise (W := fun cls d _ H => E cls d H) rfl (takes_of rfl rfl rfl rfl) (SkE.pmk_own1 PySem.F.excBase_ValueError (L.x 1 (by decide)) (T.g 1 (by decide)) (T.kC 1 (by decide)) (raises_own (T.ask 1 (by decide)).be (T.typ 1 (by decide))) rfl (pv 1)))) pss_nil)
      (pss_cons (ps_if (pt_cmpR op_eq (pv 0) pe_int (nomark _)) (pss_one (ps_raise (W := fun cls d _ H => E cls d H) rfl (takes_of rfl rfl rfl rfl) (SkE.pmk_own1 PySem.F.excBase_ValueError (L.x 2 (by decide)) (T.g 2 (by decide)) (T.kC 2 (by decide)) (raises_own (T.ask 2 (by decide)).be (T.typ 2 (by decide))) rfl (pv 1)))) pss_nil)
      (pss_cons (ps_if (pt_cmpR op_eq (pv 0) pe_int (nomark _)) (pss_one (ps_raise (W := fun cls d _ H => E cls d H) rfl (takes_of rfl rfl rfl rfl) (SkE.pmk_own1 PySem.F.excBase_ValueError (L.x 3 (by decide)) (T.g 3 (by decide)) (T.kC 3 (by decide)) (raises_own (T.ask 3 (by decide)).be (T.typ 3 (by decide))) rfl (pv 1)))) pss_nil)
      (pss_cons (ps_if (pt_cmpR op_eq (pv 0) pe_int (nomark _)) (pss_one (ps_raise (W := fun cls d _ H => E cls d H) rfl (takes_of rfl rfl rfl rfl) (SkE.pmk_own1 PySem.F.excBase_ValueError (L.x 4 (by decide)) (T.g 4 (by decide)) (T.kC 4 (by decide)) (raises_own (T.ask 4 (by decide)).be (T.typ 4 (by decide))) rfl (pv 1)))) pss_nil)
      (pss_cons (ps_if (pt_cmpR op_eq (pv 0) pe_int (nomark _)) (pss_one (ps_raise (W := fun cls d _ H => E cls d H) rfl (takes_of rfl rfl rfl rfl) (SkE.pmk_own1 PySem.F.excBase_ValueError (L.x 5 (by decide)) (T.g 5 (by decide)) (T.kC 5 (by decide)) (raises_own (T.ask 5 (by decide)).be (T.typ 5 (by decide))) rfl (pv 1)))) pss_nil)
      (pss_cons (ps_if (pt_cmpR op_eq (pv 0) pe_int (nomark _)) (pss_one (ps_raise (W := fun cls d _ H => E cls d H) rfl (takes_of rfl rfl rfl rfl) (SkE.pmk_own1 PySem.F.excBase_ValueError (L.x 6 (by decide)) (T.g 6 (by decide)) (T.kC 6 (by decide)) (raises_own (T.ask 6 (by decide)).be (T.typ 6 (by decide))) rfl (pv 1)))) pss_nil)
      (pss_cons (ps_if (pt_cmpR op_eq (pv 0) pe_int (nomark _)) (pss_one (ps_raise (W := fun cls d _ H => E cls d H) rfl (takes_of rfl rfl rfl rfl) (SkE.pmk_own1 PySem.F.excBase_ValueError (L.x 7 (by decide)) (T.g 7 (by decide)) (T.kC 7 (by decide)) (raises_own (T.ask 7 (by decide)).be (T.typ 7 (by decide))) rfl (pv 1)))) pss_nil)
      (pss_cons (ps_if (pt_cmpR op_eq (pv 0) pe_int (nomark _)) (pss_one (ps_raise (W := fun cls d _ H => E cls d H) rfl (takes_of rfl rfl rfl rfl) (SkE.pmk_own1 PySem.F.excBase_ValueError (L.x 8 (by decide)) (T.g 8 (by decide)) (T.kC 8 (by decide)) (raises_own (T.ask 8 (by decide)).be (T.typ 8 (by decide))) rfl (pv 1)))) pss_nil)
      (pss_cons (ps_if (pt_cmpR op_eq (pv 0) pe_int (nomark _)) (pss_one (ps_raise (W := fun cls d _ H => E cls d H) rfl (takes_of rfl rfl rfl rfl) (SkE.pmk_own1 PySem.F.excBase_ValueError (L.x 9 (by decide)) (T.g 9 (by decide)) (T.kC 9 (by decide)) (raises_own (T.ask 9 (by decide)).be (T.typ 9 (by decide))) rfl (pv 1)))) pss_nil)
      (pss_cons (ps_if (pt_cmpR op_eq (pv 0) pe_int (nomark _)) (pss_one (ps_raise (W := fun cls d _ H => E cls d H) rfl (takes_of rfl rfl rfl rfl) (SkE.pmk_own1 PySem.F.excBase_ValueError (L.x 10 (by decide)) (T.g 10 (by decide)) (T.kC 10 (by decide)) (raises_own (T.ask 10 (by decide)).be (T.typ 10 (by decide))) rfl (pv 1)))) pss_nil)
      (pss_cons (ps_if (pt_cmpR op_eq (pv 0) pe_int (nomark _)) (pss_one (ps_raise (W := fun cls d _ H => E cls d H) rfl (takes_of rfl rfl rfl rfl) (SkE.pmk_own1 PySem.F.excBase_ValueError (L.x 11 (by decide)) (T.g 11 (by decide)) (T.kC 11 (by decide)) (raises_own (T.ask 11 (by decide)).be (T.typ 11 (by decide))) rfl (pv 1)))) pss_nil)
      (pss_one (ps_raise (W := fun cls d _ H => E cls d H) rfl (takes_of rfl rfl rfl rfl) (SkE.pmk_own1 PySem.F.excBase_ValueError (L.x 12 (by decide)) (T.g 12 (by decide)) (T.kC 12 (by decide)) (raises_own (T.ask 12 (by decide)).be (T.typ 12 (by decide))) rfl (pv 1)))))))))))))))), ?_⟩
    refine ⟨_, rfl, rfl, _, rfl, ite2 (fun h => ?_) (fun h0 => ?_)⟩
    · obtain rfl := int_eq (k := 0) h
      exact ⟨_, rfl, k⟩
    refine ⟨_, rfl, rfl, _, rfl, ite2 (fun h => ?_) (fun h1 => ?_)⟩
    · obtain rfl := int_eq (k := 1) h
      exact ⟨_, rfl, k⟩
    refine ⟨_, rfl, rfl, _, rfl, ite2 (fun h => ?_) (fun h2 => ?_)⟩
    · obtain rfl := int_eq (k := 2) h
      exact ⟨_, rfl, k⟩
    refine ⟨_, rfl, rfl, _, rfl, ite2 (fun h => ?_) (fun h3 => ?_)⟩
    · obtain rfl := int_eq (k := 3) h
      exact ⟨_, rfl, k⟩
    refine ⟨_, rfl, rfl, _, rfl, ite2 (fun h => ?_) (fun h4 => ?_)⟩
    · obtain rfl := int_eq (k := 4) h
      exact ⟨_, rfl, k⟩
    refine ⟨_, rfl, rfl, _, rfl, ite2 (fun h => ?_) (fun h5 => ?_)⟩
    · obtain rfl := int_eq (k := 5) h
      exact ⟨_, rfl, k⟩
    refine ⟨_, rfl, rfl, _, rfl, ite2 (fun h => ?_) (fun h6 => ?_)⟩
    · obtain rfl := int_eq (k := 6) h
      exact ⟨_, rfl, k⟩
    refine ⟨_, rfl, rfl, _, rfl, ite2 (fun h => ?_) (fun h7 => ?_)⟩
    · obtain rfl := int_eq (k := 7) h
      exact ⟨_, rfl, k⟩
    refine ⟨_, rfl, rfl, _, rfl, ite2 (fun h => ?_) (fun h8 => ?_)⟩
    · obtain rfl := int_eq (k := 8) h
      exact ⟨_, rfl, k⟩
    refine ⟨_, rfl, rfl, _, rfl, ite2 (fun h => ?_) (fun h9 => ?_)⟩
    · obtain rfl := int_eq (k := 9) h
      exact ⟨_, rfl, k⟩
    refine ⟨_, rfl, rfl, _, rfl, ite2 (fun h => ?_) (fun h10 => ?_)⟩
    · obtain rfl := int_eq (k := 10) h
      exact ⟨_, rfl, k⟩
    refine ⟨_, rfl, rfl, _, rfl, ite2 (fun h => ?_) (fun h11 => ?_)⟩
    · obtain rfl := int_eq (k := 11) h
      exact ⟨_, rfl, k⟩
    have e12 : i = 12 := by
      have n0 : i ≠ 0 := fun z => h0 (decide_eq_true (by rw [z]; rfl))
      have n1 : i ≠ 1 := fun z => h1 (decide_eq_true (by rw [z]; rfl))
      have n2 : i ≠ 2 := fun z => h2 (decide_eq_true (by rw [z]; rfl))
      have n3 : i ≠ 3 := fun z => h3 (decide_eq_true (by rw [z]; rfl))
      have n4 : i ≠ 4 := fun z => h4 (decide_eq_true (by rw [z]; rfl))
      have n5 : i ≠ 5 := fun z => h5 (decide_eq_true (by rw [z]; rfl))
      have n6 : i ≠ 6 := fun z => h6 (decide_eq_true (by rw [z]; rfl))
      have n7 : i ≠ 7 := fun z => h7 (decide_eq_true (by rw [z]; rfl))
      have n8 : i ≠ 8 := fun z => h8 (decide_eq_true (by rw [z]; rfl))
      have n9 : i ≠ 9 := fun z => h9 (decide_eq_true (by rw [z]; rfl))
      have n10 : i ≠ 10 := fun z => h10 (decide_eq_true (by rw [z]; rfl))
      have n11 : i ≠ 11 := fun z => h11 (decide_eq_true (by rw [z]; rfl))
      omega
    subst e12
    exact ⟨_, rfl, k⟩
end
end Q
set_option Elab.async false
set_option linter.all false
set_option maxRecDepth 100000
set_option maxHeartbeats 4000000
namespace Q
open PySem L2 PySem.OwnX L2H
def valsOf (i : Nat) (text : Str) (number : Int) (rows : Addr) (point : V) : List V :=
  if i = 25 then [.str text, .ref rows, point] else if i = 19 ∨ i = 20 ∨ i = 22 ∨ i = 23 then [.int number] else [.str text]
section
variable {P : Program} {w : World} {K : PySem.W.Frag} {mg : Str → Option Value} {Cs : Nat → Addr} {base : Heap}
def spSecond (Cs : Nat → Addr) : Sp := fun vs H Q E => ∃ (i : Nat) (text : Str) (number : Int) (rows : Addr) (point : V), vs = [.int i, .str text, .int number, .ref rows, point] ∧ 13 ≤ i ∧ i < 26 ∧
  (i < 18 → E (.ref (Cs i)) none H) ∧ (18 ≤ i → ∀ d, H d = none → E (.ref (Cs i)) (some d) (upd H d (.xd (fldOf i (valsOf i text number rows point)))))
theorem scSecond : FnScope ["which", "text", "number", "rows", "point"] ["which", "text", "number", "rows", "point"] (defScope sSecond) := ⟨rfl, rfl, rfl, by decide +kernel, rfl, by decide +kernel, by decide +kernel⟩
theorem ok_second {f : Addr} {fd : FuncData} (F : Fun K "_law_second" "_law_second" sSecond f fd) (T : Errs K mg Cs) (L : Plain K Cs) (L8 : Held P w K Cs) : FnOk P w K mg base (L2.CX P w) 3 f fd ["which", "text", "number", "rows", "point"] (spSecond Cs) := by
  obtain ⟨f18, n18, t18, ⟨q18, m18, b18⟩, h18, k18⟩ := L8.t 18 (by decide) (by decide)
  obtain ⟨f19, n19, t19, ⟨q19, m19, b19⟩, h19, k19⟩ := L8.t 19 (by decide) (by decide)
  obtain ⟨f20, n20, t20, ⟨q20, m20, b20⟩, h20, k20⟩ := L8.t 20 (by decide) (by decide)
  obtain ⟨f21, n21, t21, ⟨q21, m21, b21⟩, h21, k21⟩ := L8.t 21 (by decide) (by decide)
  obtain ⟨f22, n22, t22, ⟨q22, m22, b22⟩, h22, k22⟩ := L8.t 22 (by decide) (by decide)
  obtain ⟨f23, n23, t23, ⟨q23, m23, b23⟩, h23, k23⟩ := L8.t 23 (by decide) (by decide)
  obtain ⟨f24, n24, t24, ⟨q24, m24, b24⟩, h24, k24⟩ := L8.t 24 (by decide) (by decide)
  obtain ⟨f25, n25, t25, ⟨q25, m25, b25⟩, h25, k25⟩ := L8.t 25 (by decide) (by decide)
  refine F.okX scSecond (fun vs H Q E h => ?_) (fun cdv A outer s H vs Q E hr h => ?_)
  · obtain ⟨i, text, number, rows, point, rfl, _⟩ := h
    rfl
  · obtain ⟨i, text, number, rows, point, rfl, hi1, hi2, kP, kH⟩ := h
    refine ⟨_, (pss_cons (ps_if (pt_cmpR op_eq (pv 0) pe_int (nomark _)) (pss_one (ps_raise (W := fun cls d _ H => E cls d H) rfl (takes_of rfl rfl rfl rfl) (SkE.pmk_own1 PySem.F.excBase_ValueError (L.x 13 (by decide)) (T.g 13 (by decide)) (T.kC 13 (by decide)) (raises_own (T.ask 13 (by decide)).be (T.typ 13 (by decide))) rfl (pv 1)))) pss_nil)
      (pss_cons (ps_if (pt_cmpR op_eq (pv 0) pe_int (nomark _)) (pss_one (ps_raise (W := fun cls d _ H => E cls d H) rfl (takes_of rfl rfl rfl rfl) (SkE.pmk_own1 PySem.F.excBase_ValueError (L.x 14 (by decide)) (T.g 14 (by decide)) (T.kC 14 (by decide)) (raises_own (T.ask 14 (by decide)).be (T.typ 14 (by decide))) rfl (pv 1)))) pss_nil)
      (pss_cons (ps_if (pt_cmpR op_eq (pv 0) pe_int (nomark _)) (pss_one (ps_raise (W := fun cls d _ H => E cls d H) rfl (takes_of rfl rfl rfl rfl) (SkE.pmk_own1 PySem.F.excBase_ValueError (L.x 15 (by decide)) (T.g 15 (by decide)) (T.kC 15 (by decide)) (raises_own (T.ask 15 (by decide)).be (T.typ 15 (by decide))) rfl (pv 1)))) pss_nil)
      (pss_cons (ps_if (pt_cmpR op_eq (pv 0) pe_int (nomark _)) (pss_one (ps_raise (W := fun cls d _ H => E cls d H) rfl (takes_of rfl rfl rfl rfl) (SkE.pmk_own1 PySem.F.excBase_ValueError (L.x 16 (by decide)) (T.g 16 (by decide)) (T.kC 16 (by decide)) (raises_own (T.ask 16 (by decide)).be (T.typ 16 (by decide))) rfl (pv 1)))) pss_nil)
      (pss_cons (ps_if (pt_cmpR op_eq (pv 0) pe_int (nomark _)) (pss_one (ps_raise (W := fun cls d _ H => E cls d H) rfl (takes_of rfl rfl rfl rfl) (SkE.pmk_own1 PySem.F.excBase_ValueError (L.x 17 (by decide)) (T.g 17 (by decide)) (T.kC 17 (by decide)) (raises_own (T.ask 17 (by decide)).be (T.typ 17 (by decide))) rfl (pv 1)))) pss_nil)
      (pss_cons (ps_if (pt_cmpR op_eq (pv 0) pe_int (nomark _)) (pss_one (ps_raise (W := fun cls d _ H => E cls d H) rfl (takes_of rfl rfl rfl rfl) (pmk_keep b18 h18 t18 (T.g 18 (by decide)) (by decide) k18 hr (by exact (pa_cons (pv 1) pa_nil))))) pss_nil)
      (pss_cons (ps_if (pt_cmpR op_eq (pv 0) pe_int (nomark _)) (pss_one (ps_raise (W := fun cls d _ H => E cls d H) rfl (takes_of rfl rfl rfl rfl) (pmk_keep b19 h19 t19 (T.g 19 (by decide)) (by decide) k19 hr (by exact (pa_cons (pv 2) pa_nil))))) pss_nil)
      (pss_cons (ps_if (pt_cmpR op_eq (pv 0) pe_int (nomark _)) (pss_one (ps_raise (W := fun cls d _ H => E cls d H) rfl (takes_of rfl rfl rfl rfl) (pmk_keep b20 h20 t20 (T.g 20 (by decide)) (by decide) k20 hr (by exact (pa_cons (pv 2) pa_nil))))) pss_nil)
      (pss_cons (ps_if (pt_cmpR op_eq (pv 0) pe_int (nomark _)) (pss_one (ps_raise (W := fun cls d _ H => E cls d H) rfl (takes_of rfl rfl rfl rfl) (pmk_keep b21 h21 t21 (T.g 21 (by decide)) (by decide) k21 hr (by exact (pa_cons (pv 1) pa_nil))))) pss_nil)
      (pss_cons (ps_if (pt_cmpR op_eq (pv 0) pe_int (nomark _)) (pss_one (ps_raise (W := fun cls d _ H => E cls d H) rfl (takes_of rfl rfl rfl rfl) (pmk_keep b22 h22 t22 (T.g 22 (by decide)) (by decide) k22 hr (by exact (pa_cons (pv 2) pa_nil))))) pss_nil)
      (pss_cons (ps_if (pt_cmpR op_eq (pv 0) pe_int (nomark _)) (pss_one (ps_raise (W := fun cls d _ H => E cls d H) rfl (takes_of rfl rfl rfl rfl) (pmk_keep b23 h23 t23 (T.g 23 (by decide)) (by decide) k23 hr (by exact (pa_cons (pv 2) pa_nil))))) pss_nil)
      (pss_cons (ps_if (pt_cmpR op_eq (pv 0) pe_int (nomark _)) (pss_one (ps_raise (W := fun cls d _ H => E cls d H) rfl (takes_of rfl rfl rfl rfl) (pmk_keep b24 h24 t24 (T.g 24 (by decide)) (by decide) k24 hr (by exact (pa_cons (pv 1) pa_nil))))) pss_nil)
      (pss_one (ps_raise (W := fun cls d _ H => E cls d H) rfl (takes_of rfl rfl rfl rfl) (pmk_keep b25 h25 t25 (T.g 25 (by decide)) (by decide) k25 hr (by exact (pa_cons (pv 1) (pa_cons (pv 3) (pa_cons (pv 4) pa_nil))))))))))))))))))), ?_⟩
    refine ⟨_, rfl, rfl, _, rfl, ite2 (fun h => ?_) (fun g13 => ?_)⟩
    · obtain rfl := int_eq (k := 13) h
      exact ⟨_, rfl, kP (by decide)⟩
    refine ⟨_, rfl, rfl, _, rfl, ite2 (fun h => ?_) (fun g14 => ?_)⟩
    · obtain rfl := int_eq (k := 14) h
      exact ⟨_, rfl, kP (by decide)⟩
    refine ⟨_, rfl, rfl, _, rfl, ite2 (fun h => ?_) (fun g15 => ?_)⟩
    · obtain rfl := int_eq (k := 15) h
      exact ⟨_, rfl, kP (by decide)⟩
    refine ⟨_, rfl, rfl, _, rfl, ite2 (fun h => ?_) (fun g16 => ?_)⟩
    · obtain rfl := int_eq (k := 16) h
      exact ⟨_, rfl, kP (by decide)⟩
    refine ⟨_, rfl, rfl, _, rfl, ite2 (fun h => ?_) (fun g17 => ?_)⟩
    · obtain rfl := int_eq (k := 17) h
      exact ⟨_, rfl, kP (by decide)⟩
    refine ⟨_, rfl, rfl, _, rfl, ite2 (fun h => ?_) (fun g18 => ?_)⟩
    · obtain rfl := int_eq (k := 18) h
      exact ⟨_, rfl, rfl, fun d hd => kH (by decide) d hd⟩
    refine ⟨_, rfl, rfl, _, rfl, ite2 (fun h => ?_) (fun g19 => ?_)⟩
    · obtain rfl := int_eq (k := 19) h
      exact ⟨_, rfl, rfl, fun d hd => kH (by decide) d hd⟩
    refine ⟨_, rfl, rfl, _, rfl, ite2 (fun h => ?_) (fun g20 => ?_)⟩
    · obtain rfl := int_eq (k := 20) h
      exact ⟨_, rfl, rfl, fun d hd => kH (by decide) d hd⟩
    refine ⟨_, rfl, rfl, _, rfl, ite2 (fun h => ?_) (fun g21 => ?_)⟩
    · obtain rfl := int_eq (k := 21) h
      exact ⟨_, rfl, rfl, fun d hd => kH (by decide) d hd⟩
    refine ⟨_, rfl, rfl, _, rfl, ite2 (fun h => ?_) (fun g22 => ?_)⟩
    · obtain rfl := int_eq (k := 22) h
      exact ⟨_, rfl, rfl, fun d hd => kH (by decide) d hd⟩
    refine ⟨_, rfl, rfl, _, rfl, ite2 (fun h => ?_) (fun g23 => ?_)⟩
    · obtain rfl := int_eq (k := 23) h
      exact ⟨_, rfl, rfl, fun d hd => kH (by decide) d hd⟩
    refine ⟨_, rfl, rfl, _, rfl, ite2 (fun h => ?_) (fun g24 => ?_)⟩
    · obtain rfl := int_eq (k := 24) h
      exact ⟨_, rfl, rfl, fun d hd => kH (by decide) d hd⟩
    have e25 : i = 25 := by
      have n13 : i ≠ 13 := fun z => g13 (decide_eq_true (by rw [z]; rfl))
      have n14 : i ≠ 14 := fun z => g14 (decide_eq_true (by rw [z]; rfl))
      have n15 : i ≠ 15 := fun z => g15 (decide_eq_true (by rw [z]; rfl))
      have n16 : i ≠ 16 := fun z => g16 (decide_eq_true (by rw [z]; rfl))
      have n17 : i ≠ 17 := fun z => g17 (decide_eq_true (by rw [z]; rfl))
      have n18 : i ≠ 18 := fun z => g18 (decide_eq_true (by rw [z]; rfl))
      have n19 : i ≠ 19 := fun z => g19 (decide_eq_true (by rw [z]; rfl))
      have n20 : i ≠ 20 := fun z => g20 (decide_eq_true (by rw [z]; rfl))
      have n21 : i ≠ 21 := fun z => g21 (decide_eq_true (by rw [z]; rfl))
      have n22 : i ≠ 22 := fun z => g22 (decide_eq_true (by rw [z]; rfl))
      have n23 : i ≠ 23 := fun z => g23 (decide_eq_true (by rw [z]; rfl))
      have n24 : i ≠ 24 := fun z => g24 (decide_eq_true (by rw [z]; rfl))
      omega
    subst e25
    exact ⟨_, rfl, _, rfl, _, rfl, rfl, fun d hd => kH (by decide) d hd⟩
end
end Q
set_option Elab.async false
set_option linter.all false
set_option maxRecDepth 100000
set_option maxHeartbeats 4000000
namespace Q
open PySem L2 PySem.OwnX L2H
abbrev sCaught : Stmt := top 34
/-- no class stands in the way of the names under which errors keep -/
structure Free (K : PySem.W.Frag) (Cs : Nat → Addr) : Prop where
  one : ∀ i, 18 ≤ i → i < 25 → PySem.W.findIn K (.ref (Cs i)) (parOf i) = some none
  lab : PySem.W.findIn K (.ref (Cs 25)) "rule_label" = some none
  row : PySem.W.findIn K (.ref (Cs 25)) "row_numbers" = some none
  poi : PySem.W.findIn K (.ref (Cs 25)) "point" = some none
section
variable {P : Program} {w : World} {K : PySem.W.Frag} {mg : Str → Option Value} {Cs : Nat → Addr} {base : Heap}
theorem exm_of (T : Errs K mg Cs) {i j : Nat} {b : Bool} (hi : i < 26) (hj : j < 26) (hb : dueB i j = b) : PySem.W.exmOne K (.ref (Cs i)) (.ref (Cs j)) = some b := by
  have e : dueB i j = (i == j || (decide (i < 20) && j == 0)) := by
    unfold dueB
    rw [if_pos hj]
  rw [← hb, e]
  show (if (PySem.W.subIn K (.ref (Cs j)) (.type "BaseException") == some true) = true then (if ((PySem.W.clsIn K (Cs j)).isSome && PySem.W.typeIn K (.ref (Cs j)) == some (.type "type")) = true then PySem.W.subIn K (.ref (Cs i)) (.ref (Cs j)) else none) else none) = _
  rw [(T.ask j hj).be, if_pos (by rfl), (T.ask j hj).cl, T.typ j hj, if_pos (by simp), sub_of T hi, behind_ref T hi hj]
/-- what is kept, as a value -/
def KeptV (i : Nat) (text : Str) (number : Int) (rows : Addr) (point : V) (H : Hp) (v : V) : Prop :=
  if i < 18 then v = .non else if i = 25 then ∃ u, v = .ref u ∧ H u = some (.tup [.str text, .ref rows, point]) else if i = 19 ∨ i = 20 ∨ i = 22 ∨ i = 23 then v = .int number else v = .str text
def KeptAt (i : Nat) (text : Str) (number : Int) (rows : Addr) (point : V) (H : Hp) (t : Addr) : Prop := ∃ v, H t = some (.tup [.int i, v]) ∧ KeptV i text number rows point H v
def spCaught : Sp := fun vs H Q _ => ∃ (i : Nat) (text : Str) (number : Int) (rows : Addr) (point : V), vs = [.int i, .str text, .int number, .ref rows, point] ∧ 13 ≤ i ∧ i < 26 ∧
  ∀ (t : Addr) (H' : Hp), Same H H' → KeptAt i text number rows point H' t → Q (.ref t) H'
theorem scCaught : FnScope ["which", "text", "number", "rows", "point", "e"] ["which", "text", "number", "rows", "point"] (defScope sCaught) := ⟨rfl, rfl, rfl, by decide +kernel, rfl, by decide +kernel, by decide +kernel⟩
theorem w_no {ex : Value → Bool → Prop} {ts : Addr → Value → Option Addr → TS} {D : Ends} {Wr : WX} {cls : Value} {d : Option Addr} {σ : L2.St} {H : Hp} (h : ex cls false) (r : Wr cls d σ H) : wTest ex ts D Wr cls d σ H := ⟨false, h, fun q => Bool.noConfusion q, fun _ => r⟩
theorem w_yes {ex : Value → Bool → Prop} {ts : Addr → Value → Option Addr → TS} {D : Ends} {Wr : WX} {cls : Value} {d : Option Addr} {σ : L2.St} {H : Hp} (h : ex cls true) (r : ∀ a, H a = none → ts a cls d D σ H) : wTest ex ts D Wr cls d σ H := ⟨true, h, fun _ => r, fun q => Bool.noConfusion q⟩
theorem wa_no {ex : Value → Bool → Prop} {i : Nat} {ts : Addr → Value → Option Addr → TS} {D : Ends} {Wr : WX} {cls : Value} {d : Option Addr} {σ : L2.St} {H : Hp} (h : ex cls false) (r : Wr cls d σ H) : wTestAs ex i ts D Wr cls d σ H := ⟨false, h, fun q => Bool.noConfusion q, fun _ => r⟩
theorem wa_yes {ex : Value → Bool → Prop} {i : Nat} {ts : Addr → Value → Option Addr → TS} {D : Ends} {Wr : WX} {cls : Value} {d : Option Addr} {σ : L2.St} {H : Hp} (h : ex cls true) (r : ∀ a, H a = none → ts a cls d (endsAs i D) (σ.set i (some (.ref a))) H) : wTestAs ex i ts D Wr cls d σ H := ⟨true, h, fun _ => r, fun q => Bool.noConfusion q⟩
theorem names_of {X : Cx} (T : Errs X.K X.mg Cs) {i : Nat} {x : Str} (hi : i < 26) (hx : nameOf i = x) (hg : Gl X x := by rfl) (hd : (x == ("__debug__" : Str)) = false := by decide) : Names X x (.ref (Cs i)) := ⟨hg, hd, .inl (hx ▸ T.g i hi)⟩
theorem ok_caught {f fS : Addr} {fd fdS : FuncData} (F : Fun K "_law_caught_second" "_law_caught_second" sCaught f fd) (T : Errs K mg Cs) (L8 : Held P w K Cs) (N : Free K Cs)
    (GS : FnOk P w K mg base (L2.CX P w) 3 fS fdS ["which", "text", "number", "rows", "point"] (spSecond Cs)) (bS : Binds K fdS ["which", "text", "number", "rows", "point"] []) (gS : mg "_law_second" = some (.ref fS)) (kS : PySem.W.keepIn K (.ref fS) = true) :
    FnOk P w K mg base CX0 5 f fd ["which", "text", "number", "rows", "point"] spCaught := by
  obtain ⟨f18, n18, t18, ⟨q18, m18, b18⟩, h18, k18⟩ := L8.t 18 (by decide) (by decide)
  obtain ⟨f19, n19, t19, ⟨q19, m19, b19⟩, h19, k19⟩ := L8.t 19 (by decide) (by decide)
  obtain ⟨f20, n20, t20, ⟨q20, m20, b20⟩, h20, k20⟩ := L8.t 20 (by decide) (by decide)
  obtain ⟨f21, n21, t21, ⟨q21, m21, b21⟩, h21, k21⟩ := L8.t 21 (by decide) (by decide)
  obtain ⟨f22, n22, t22, ⟨q22, m22, b22⟩, h22, k22⟩ := L8.t 22 (by decide) (by decide)
  obtain ⟨f23, n23, t23, ⟨q23, m23, b23⟩, h23, k23⟩ := L8.t 23 (by decide) (by decide)
  obtain ⟨f24, n24, t24, ⟨q24, m24, b24⟩, h24, k24⟩ := L8.t 24 (by decide) (by decide)
  obtain ⟨f25, n25, t25, ⟨q25, m25, b25⟩, h25, k25⟩ := L8.t 25 (by decide) (by decide)
  refine F.ok scCaught (fun vs H Q E h => ?_) (fun cdv A outer s H vs Q E hr h => ?_)
  · obtain ⟨i, text, number, rows, point, rfl, _⟩ := h
    rfl
  · obtain ⟨i, text, number, rows, point, rfl, hi1, hi2, k⟩ := h
    have hr1 : Room 3 _ := hr.mono (by decide)
    refine ⟨_, pss_cons (ps_try_any (tb := fun W => tDrop (tCallS (spSecond Cs) (WE W) (tCons (tVar 0) (tCons (tVar 1) (tCons (tVar 2) (tCons (tVar 3) (tCons (tVar 4) tNil))))))) (Wout := fun _ _ _ _ => False) rfl rfl takes_none5
        (fun W pn xe tk _ => pss_one (ps_expr (by exact (pe_callS GS hr1 rfl gS kS bS (fun σ => passAt tk σ) (by exact (pa_cons (pv 0) (pa_cons (pv 1) (pa_cons (pv 2) (pa_cons (pv 3) (pa_cons (pv 4) pa_nil))))))))))
        (.cons (hd_only (ts := fun _ _ _ => tRet (tTup (tCons (tC (.int 13)) (tCons (tC .non) tNil)))) rfl (test_one (names_of T (i := 13) (by decide) rfl)) (fun a oe cls d pn hz hv => pss_one (ps_ret (pe_tup (pa_cons pe_int (pa_cons pe_non pa_nil))))))
        (.cons (hd_only (ts := fun _ _ _ => tRet (tTup (tCons (tC (.int 14)) (tCons (tC .non) tNil)))) rfl (test_one (names_of T (i := 14) (by decide) rfl)) (fun a oe cls d pn hz hv => pss_one (ps_ret (pe_tup (pa_cons pe_int (pa_cons pe_non pa_nil))))))
        (.cons (hd_only (ts := fun _ _ _ => tRet (tTup (tCons (tC (.int 15)) (tCons (tC .non) tNil)))) rfl (test_one (names_of T (i := 15) (by decide) rfl)) (fun a oe cls d pn hz hv => pss_one (ps_ret (pe_tup (pa_cons pe_int (pa_cons pe_non pa_nil))))))
        (.cons (hd_only (ts := fun _ _ _ => tRet (tTup (tCons (tC (.int 16)) (tCons (tC .non) tNil)))) rfl (test_one (names_of T (i := 16) (by decide) rfl)) (fun a oe cls d pn hz hv => pss_one (ps_ret (pe_tup (pa_cons pe_int (pa_cons pe_non pa_nil))))))
        (.cons (hd_only (ts := fun _ _ _ => tRet (tTup (tCons (tC (.int 17)) (tCons (tC .non) tNil)))) rfl (test_one (names_of T (i := 17) (by decide) rfl)) (fun a oe cls d pn hz hv => pss_one (ps_ret (pe_tup (pa_cons pe_int (pa_cons pe_non pa_nil))))))
        (.cons (hd_as (i := 5) (ts := fun a cls d => tRet (tTup (tCons (tC (.int 18)) (tCons (tByE (Cs 18) "name" a cls d (tVar 5)) tNil)))) rfl scCaught.nd rfl rfl (test_one (names_of T (i := 18) (by decide) rfl)) (fun a oe cls d pn hz hv => pss_one (ps_ret (pe_tup (pa_cons pe_int (pa_cons (by exact (pe_byE t18 (N.one 18 (by decide) (by decide)) hz hv (pv 5))) pa_nil))))))
        (.cons (hd_as (i := 5) (ts := fun a cls d => tRet (tTup (tCons (tC (.int 19)) (tCons (tByE (Cs 19) "index" a cls d (tVar 5)) tNil)))) rfl scCaught.nd rfl rfl (test_one (names_of T (i := 19) (by decide) rfl)) (fun a oe cls d pn hz hv => pss_one (ps_ret (pe_tup (pa_cons pe_int (pa_cons (by exact (pe_byE t19 (N.one 19 (by decide) (by decide)) hz hv (pv 5))) pa_nil))))))
        (.cons (hd_as (i := 5) (ts := fun a cls d => tRet (tTup (tCons (tC (.int 20)) (tCons (tByE (Cs 20) "value" a cls d (tVar 5)) tNil)))) rfl scCaught.nd rfl rfl (test_one (names_of T (i := 20) (by decide) rfl)) (fun a oe cls d pn hz hv => pss_one (ps_ret (pe_tup (pa_cons pe_int (pa_cons (by exact (pe_byE t20 (N.one 20 (by decide) (by decide)) hz hv (pv 5))) pa_nil))))))
        (.cons (hd_as (i := 5) (ts := fun a cls d => tRet (tTup (tCons (tC (.int 21)) (tCons (tByE (Cs 21) "name" a cls d (tVar 5)) tNil)))) rfl scCaught.nd rfl rfl (test_one (names_of T (i := 21) (by decide) rfl)) (fun a oe cls d pn hz hv => pss_one (ps_ret (pe_tup (pa_cons pe_int (pa_cons (by exact (pe_byE t21 (N.one 21 (by decide) (by decide)) hz hv (pv 5))) pa_nil))))))
        (.cons (hd_as (i := 5) (ts := fun a cls d => tRet (tTup (tCons (tC (.int 22)) (tCons (tByE (Cs 22) "limit" a cls d (tVar 5)) tNil)))) rfl scCaught.nd rfl rfl (test_one (names_of T (i := 22) (by decide) rfl)) (fun a oe cls d pn hz hv => pss_one (ps_ret (pe_tup (pa_cons pe_int (pa_cons (by exact (pe_byE t22 (N.one 22 (by decide) (by decide)) hz hv (pv 5))) pa_nil))))))
        (.cons (hd_as (i := 5) (ts := fun a cls d => tRet (tTup (tCons (tC (.int 23)) (tCons (tByE (Cs 23) "many" a cls d (tVar 5)) tNil)))) rfl scCaught.nd rfl rfl (test_one (names_of T (i := 23) (by decide) rfl)) (fun a oe cls d pn hz hv => pss_one (ps_ret (pe_tup (pa_cons pe_int (pa_cons (by exact (pe_byE t23 (N.one 23 (by decide) (by decide)) hz hv (pv 5))) pa_nil))))))
        (.cons (hd_as (i := 5) (ts := fun a cls d => tRet (tTup (tCons (tC (.int 24)) (tCons (tByE (Cs 24) "name" a cls d (tVar 5)) tNil)))) rfl scCaught.nd rfl rfl (test_one (names_of T (i := 24) (by decide) rfl)) (fun a oe cls d pn hz hv => pss_one (ps_ret (pe_tup (pa_cons pe_int (pa_cons (by exact (pe_byE t24 (N.one 24 (by decide) (by decide)) hz hv (pv 5))) pa_nil))))))
        (.cons (hd_as (i := 5) (ts := fun a cls d => tRet (tTup (tCons (tC (.int 25)) (tCons (tTup (tCons (tByE (Cs 25) "rule_label" a cls d (tVar 5)) (tCons (tByE (Cs 25) "row_numbers" a cls d (tVar 5)) (tCons (tByE (Cs 25) "point" a cls d (tVar 5)) tNil)))) tNil)))) rfl scCaught.nd rfl rfl (test_one (names_of T (i := 25) (by decide) rfl)) (fun a oe cls d pn hz hv => pss_one (ps_ret (pe_tup (pa_cons pe_int (pa_cons (pe_tup (pa_cons (by exact (pe_byE t25 N.lab hz hv (pv 5))) (pa_cons (by exact (pe_byE t25 N.row hz hv (pv 5))) (pa_cons (by exact (pe_byE t25 N.poi hz hv (pv 5))) pa_nil)))) pa_nil))))))
        .nil)))))))))))))) (pss_one (ps_ret pe_non)), ?_⟩
    refine ⟨_, rfl, _, rfl, _, rfl, _, rfl, _, rfl, i, text, number, rows, point, rfl, hi1, hi2, fun hlt => ?_, fun hge d hd => ?_⟩
    · have c : i = 13 ∨ i = 14 ∨ i = 15 ∨ i = 16 ∨ i = 17 := by omega
      rcases c with rfl | rfl | rfl | rfl | rfl
      · exact w_yes (exm_of T (i := 13) (j := 13) (by decide) (by decide) (by decide)) fun a ha => ⟨(by show 2 ≤ sizeLine; decide), fun t ht => k t _ (same_new (Same.refl H) ht) ⟨.non, upd_same, rfl⟩⟩
      · exact w_no (exm_of T (i := 14) (j := 13) (by decide) (by decide) (by decide)) (w_yes (exm_of T (i := 14) (j := 14) (by decide) (by decide) (by decide)) fun a ha => ⟨(by show 2 ≤ sizeLine; decide), fun t ht => k t _ (same_new (Same.refl H) ht) ⟨.non, upd_same, rfl⟩⟩)
      · exact w_no (exm_of T (i := 15) (j := 13) (by decide) (by decide) (by decide)) (w_no (exm_of T (i := 15) (j := 14) (by decide) (by decide) (by decide)) (w_yes (exm_of T (i := 15) (j := 15) (by decide) (by decide) (by decide)) fun a ha => ⟨(by show 2 ≤ sizeLine; decide), fun t ht => k t _ (same_new (Same.refl H) ht) ⟨.non, upd_same, rfl⟩⟩))
      · exact w_no (exm_of T (i := 16) (j := 13) (by decide) (by decide) (by decide)) (w_no (exm_of T (i := 16) (j := 14) (by decide) (by decide) (by decide)) (w_no (exm_of T (i := 16) (j := 15) (by decide) (by decide) (by decide)) (w_yes (exm_of T (i := 16) (j := 16) (by decide) (by decide) (by decide)) fun a ha => ⟨(by show 2 ≤ sizeLine; decide), fun t ht => k t _ (same_new (Same.refl H) ht) ⟨.non, upd_same, rfl⟩⟩)))
      · exact w_no (exm_of T (i := 17) (j := 13) (by decide) (by decide) (by decide)) (w_no (exm_of T (i := 17) (j := 14) (by decide) (by decide) (by decide)) (w_no (exm_of T (i := 17) (j := 15) (by decide) (by decide) (by decide)) (w_no (exm_of T (i := 17) (j := 16) (by decide) (by decide) (by decide)) (w_yes (exm_of T (i := 17) (j := 17) (by decide) (by decide) (by decide)) fun a ha => ⟨(by show 2 ≤ sizeLine; decide), fun t ht => k t _ (same_new (Same.refl H) ht) ⟨.non, upd_same, rfl⟩⟩))))
    · have c : i = 18 ∨ i = 19 ∨ i = 20 ∨ i = 21 ∨ i = 22 ∨ i = 23 ∨ i = 24 ∨ i = 25 := by omega
      have s1 : ∀ fs, Same H (upd H d (.xd fs)) := fun fs => same_new (Same.refl H) hd
      rcases c with rfl | rfl | rfl | rfl | rfl | rfl | rfl | rfl
      · exact w_no (exm_of T (i := 18) (j := 13) (by decide) (by decide) (by decide)) (w_no (exm_of T (i := 18) (j := 14) (by decide) (by decide) (by decide)) (w_no (exm_of T (i := 18) (j := 15) (by decide) (by decide) (by decide)) (w_no (exm_of T (i := 18) (j := 16) (by decide) (by decide) (by decide)) (w_no (exm_of T (i := 18) (j := 17) (by decide) (by decide) (by decide)) (wa_yes (exm_of T (i := 18) (j := 18) (by decide) (by decide) (by decide)) fun a ha => ⟨_, rfl, rfl, rfl, d, _, _, rfl, upd_same, rfl, (by show 2 ≤ sizeLine; decide), fun t ht => k t _ (same_new (s1 _) ht) ⟨_, upd_same, rfl⟩⟩)))))
      · exact w_no (exm_of T (i := 19) (j := 13) (by decide) (by decide) (by decide)) (w_no (exm_of T (i := 19) (j := 14) (by decide) (by decide) (by decide)) (w_no (exm_of T (i := 19) (j := 15) (by decide) (by decide) (by decide)) (w_no (exm_of T (i := 19) (j := 16) (by decide) (by decide) (by decide)) (w_no (exm_of T (i := 19) (j := 17) (by decide) (by decide) (by decide)) (wa_no (exm_of T (i := 19) (j := 18) (by decide) (by decide) (by decide)) (wa_yes (exm_of T (i := 19) (j := 19) (by decide) (by decide) (by decide)) fun a ha => ⟨_, rfl, rfl, rfl, d, _, _, rfl, upd_same, rfl, (by show 2 ≤ sizeLine; decide), fun t ht => k t _ (same_new (s1 _) ht) ⟨_, upd_same, rfl⟩⟩))))))
      · exact w_no (exm_of T (i := 20) (j := 13) (by decide) (by decide) (by decide)) (w_no (exm_of T (i := 20) (j := 14) (by decide) (by decide) (by decide)) (w_no (exm_of T (i := 20) (j := 15) (by decide) (by decide) (by decide)) (w_no (exm_of T (i := 20) (j := 16) (by decide) (by decide) (by decide)) (w_no (exm_of T (i := 20) (j := 17) (by decide) (by decide) (by decide)) (wa_no (exm_of T (i := 20) (j := 18) (by decide) (by decide) (by decide)) (wa_no (exm_of T (i := 20) (j := 19) (by decide) (by decide) (by decide)) (wa_yes (exm_of T (i := 20) (j := 20) (by decide) (by decide) (by decide)) fun a ha => ⟨_, rfl, rfl, rfl, d, _, _, rfl, upd_same, rfl, (by show 2 ≤ sizeLine; decide), fun t ht => k t _ (same_new (s1 _) ht) ⟨_, upd_same, rfl⟩⟩)))))))
      · exact w_no (exm_of T (i := 21) (j := 13) (by decide) (by decide) (by decide)) (w_no (exm_of T (i := 21) (j := 14) (by decide) (by decide) (by decide)) (w_no (exm_of T (i := 21) (j := 15) (by decide) (by decide) (by decide)) (w_no (exm_of T (i := 21) (j := 16) (by decide) (by decide) (by decide)) (w_no (exm_of T (i := 21) (j := 17) (by decide) (by decide) (by decide)) (wa_no (exm_of T (i := 21) (j := 18) (by decide) (by decide) (by decide)) (wa_no (exm_of T (i := 21) (j := 19) (by decide) (by decide) (by decide)) (wa_no (exm_of T (i := 21) (j := 20) (by decide) (by decide) (by decide)) (wa_yes (exm_of T (i := 21) (j := 21) (by decide) (by decide) (by decide)) fun a ha => ⟨_, rfl, rfl, rfl, d, _, _, rfl, upd_same, rfl, (by show 2 ≤ sizeLine; decide), fun t ht => k t _ (same_new (s1 _) ht) ⟨_, upd_same, rfl⟩⟩))))))))
      · exact w_no (exm_of T (i := 22) (j := 13) (by decide) (by decide) (by decide)) (w_no (exm_of T (i := 22) (j := 14) (by decide) (by decide) (by decide)) (w_no (exm_of T (i := 22) (j := 15) (by decide) (by decide) (by decide)) (w_no (exm_of T (i := 22) (j := 16) (by decide) (by decide) (by decide)) (w_no (exm_of T (i := 22) (j := 17) (by decide) (by decide) (by decide)) (wa_no (exm_of T (i := 22) (j := 18) (by decide) (by decide) (by decide)) (wa_no (exm_of T (i := 22) (j := 19) (by decide) (by decide) (by decide)) (wa_no (exm_of T (i := 22) (j := 20) (by decide) (by decide) (by decide)) (wa_no (exm_of T (i := 22) (j := 21) (by decide) (by decide) (by decide)) (wa_yes (exm_of T (i := 22) (j := 22) (by decide) (by decide) (by decide)) fun a ha => ⟨_, rfl, rfl, rfl, d, _, _, rfl, upd_same, rfl, (by show 2 ≤ sizeLine; decide), fun t ht => k t _ (same_new (s1 _) ht) ⟨_, upd_same, rfl⟩⟩)))))))))
      · exact w_no (exm_of T (i := 23) (j := 13) (by decide) (by decide) (by decide)) (w_no (exm_of T (i := 23) (j := 14) (by decide) (by decide) (by decide)) (w_no (exm_of T (i := 23) (j := 15) (by decide) (by decide) (by decide)) (w_no (exm_of T (i := 23) (j := 16) (by decide) (by decide) (by decide)) (w_no (exm_of T (i := 23) (j := 17) (by decide) (by decide) (by decide)) (wa_no (exm_of T (i := 23) (j := 18) (by decide) (by decide) (by decide)) (wa_no (exm_of T (i := 23) (j := 19) (by decide) (by decide) (by decide)) (wa_no (exm_of T (i := 23) (j := 20) (by decide) (by decide) (by decide)) (wa_no (exm_of T (i := 23) (j := 21) (by decide) (by decide) (by decide)) (wa_no (exm_of T (i := 23) (j := 22) (by decide) (by decide) (by decide)) (wa_yes (exm_of T (i := 23) (j := 23) (by decide) (by decide) (by decide)) fun a ha => ⟨_, rfl, rfl, rfl, d, _, _, rfl, upd_same, rfl, (by show 2 ≤ sizeLine; decide), fun t ht => k t _ (same_new (s1 _) ht) ⟨_, upd_same, rfl⟩⟩))))))))))
      · exact w_no (exm_of T (i := 24) (j := 13) (by decide) (by decide) (by decide)) (w_no (exm_of T (i := 24) (j := 14) (by decide) (by decide) (by decide)) (w_no (exm_of T (i := 24) (j := 15) (by decide) (by decide) (by decide)) (w_no (exm_of T (i := 24) (j := 16) (by decide) (by decide) (by decide)) (w_no (exm_of T (i := 24) (j := 17) (by decide) (by decide) (by decide)) (wa_no (exm_of T (i := 24) (j := 18) (by decide) (by decide) (by decide)) (wa_no (exm_of T (i := 24) (j := 19) (by decide) (by decide) (by decide)) (wa_no (exm_of T (i := 24) (j := 20) (by decide) (by decide) (by decide)) (wa_no (exm_of T (i := 24) (j := 21) (by decide) (by decide) (by decide)) (wa_no (exm_of T (i := 24) (j := 22) (by decide) (by decide) (by decide)) (wa_no (exm_of T (i := 24) (j := 23) (by decide) (by decide) (by decide)) (wa_yes (exm_of T (i := 24) (j := 24) (by decide) (by decide) (by decide)) fun a ha => ⟨_, rfl, rfl, rfl, d, _, _, rfl, upd_same, rfl, (by show 2 ≤ sizeLine; decide), fun t ht => k t _ (same_new (s1 _) ht) ⟨_, upd_same, rfl⟩⟩)))))))))))
      · exact w_no (exm_of T (i := 25) (j := 13) (by decide) (by decide) (by decide)) (w_no (exm_of T (i := 25) (j := 14) (by decide) (by decide) (by decide)) (w_no (exm_of T (i := 25) (j := 15) (by decide) (by decide) (by decide)) (w_no (exm_of T (i := 25) (j := 16) (by decide) (by decide) (by decide)) (w_no (exm_of T (i := 25) (j := 17) (by decide) (by decide) (by decide)) (wa_no (exm_of T (i := 25) (j := 18) (by decide) (by decide) (by decide)) (wa_no (exm_of T (i := 25) (j := 19) (by decide) (by decide) (by decide)) (wa_no (exm_of T (i := 25) (j := 20) (by decide) (by decide) (by decide)) (wa_no (exm_of T (i := 25) (j := 21) (by decide) (by decide) (by decide)) (wa_no (exm_of T (i := 25) (j := 22) (by decide) (by decide) (by decide)) (wa_no (exm_of T (i := 25) (j := 23) (by decide) (by decide) (by decide)) (wa_no (exm_of T (i := 25) (j := 24) (by decide) (by decide) (by decide)) (wa_yes (exm_of T (i := 25) (j := 25) (by decide) (by decide) (by decide)) fun a ha => ⟨_, rfl, rfl, rfl, d, _, _, rfl, upd_same, rfl, _, rfl, rfl, rfl, d, _, _, rfl, upd_same, rfl, _, rfl, rfl, rfl, d, _, _, rfl, upd_same, rfl, (by show 3 ≤ sizeLine; decide), fun u hu => ⟨(by show 2 ≤ sizeLine; decide), fun t ht => k t _ (same_new (same_new (s1 _) hu) ht) ⟨.ref u, upd_same, u, rfl, (upd_ne (ne_of_none upd_same ht)).trans upd_same⟩⟩⟩))))))))))))
end
end Q
set_option Elab.async false
set_option linter.all false
set_option maxRecDepth 100000
set_option maxHeartbeats 4000000
namespace Q
open PySem L2 PySem.OwnX L2H
abbrev sClassesOf : Stmt := top 36
section
variable {P : Program} {w : World} {K : PySem.W.Frag} {mg : Str → Option Value} {Cs : Nat → Addr} {base : Heap}
def spClsOf : Sp := fun vs H Q _ => ∃ (i : Nat) (text : Str) (number : Int) (rows : Addr) (point : V), vs = [.int i, .str text, .int number, .ref rows, point] ∧ i < 26 ∧
  ∀ (l : Addr) (H' : Hp), Same H H' → H' l = some (.lst (dues i 33)) → Q (.ref l) H'
theorem scClassesOf : FnScope ["which", "text", "number", "rows", "point", "e"] ["which", "text", "number", "rows", "point"] (defScope sClassesOf) := ⟨rfl, rfl, rfl, by decide +kernel, rfl, by decide +kernel, by decide +kernel⟩
theorem due0 {i : Nat} (h : i < 20) : dueB i 0 = true := by
  unfold dueB
  rw [if_pos (by decide), decide_eq_true h]
  cases (i == 0) <;> rfl
theorem due0_no {i : Nat} (h : 20 ≤ i) : dueB i 0 = false := by
  unfold dueB
  have e : decide (i < 20) = false := decide_eq_false (by omega)
  have e2 : (i == 0) = false := by
    apply Bool.eq_false_iff.mpr
    intro q
    have := beq_iff_eq.mp q
    omega
  rw [if_pos (by decide), e, e2]
  rfl
theorem due6 {i : Nat} (h : 20 ≤ i) (h2 : i < 26) : true = (dueB i 20 || (dueB i 21 || (dueB i 22 || (dueB i 23 || (dueB i 24 || dueB i 25))))) := by
  have c : i = 20 ∨ i = 21 ∨ i = 22 ∨ i = 23 ∨ i = 24 ∨ i = 25 := by omega
  rcases c with rfl | rfl | rfl | rfl | rfl | rfl <;> decide
theorem dict_none {H : Hp} : DictOk none H := fun _ e => nomatch e
theorem dict_at {H : Hp} {d : Addr} {fs : List (Str × V)} : DictOk (some d) (upd H d (.xd fs)) := fun dd e => by
  cases e
  exact ⟨fs, upd_same⟩
theorem ok_clsof {f fF fS fC : Addr} {fd fdF fdS fdC : FuncData} (F : Fun K "_law_classes_of" "_law_classes_of" sClassesOf f fd) (T : Errs K mg Cs)
    (GF : FnOk P w K mg base (L2.CX P w) 3 fF fdF ["which", "text"] (spFirst Cs)) (bF : Binds K fdF ["which", "text"] []) (gF : mg "_law_first" = some (.ref fF)) (kF : PySem.W.keepIn K (.ref fF) = true)
    (GS : FnOk P w K mg base (L2.CX P w) 3 fS fdS ["which", "text", "number", "rows", "point"] (spSecond Cs)) (bS : Binds K fdS ["which", "text", "number", "rows", "point"] []) (gS : mg "_law_second" = some (.ref fS)) (kS : PySem.W.keepIn K (.ref fS) = true)
    (GC : FnE P w K mg base 1 fC fdC "error" (spCls Cs)) (bC : Binds K fdC ["error"] []) (gC : mg "_law_classes" = some (.ref fC)) (kC : PySem.W.keepIn K (.ref fC) = true) :
    FnOk P w K mg base CX0 5 f fd ["which", "text", "number", "rows", "point"] spClsOf := by
  refine F.ok scClassesOf (fun vs H Q E h => ?_) (fun cdv A outer s H vs Q E hr h => ?_)
  · obtain ⟨i, text, number, rows, point, rfl, _⟩ := h
    rfl
  · obtain ⟨i, text, number, rows, point, rfl, hi, k⟩ := h
    have hr1 : Room 3 _ := hr.mono (by decide)
    have hr2 : Room 1 _ := hr.mono (by decide)
    have hrH := roomH_of hr2
    refine ⟨_, pss_cons (ps_try_any (tb := fun W => tIfS (tTest (tOp (rI0 fun i j => .bl (decide (i < j))) (tVar 0) (tC (.int 13)))) (tDrop (tCallS (spFirst Cs) (WE W) (tCons (tVar 0) (tCons (tVar 1) tNil))))
          (tDrop (tCallS (spSecond Cs) (WE W) (tCons (tVar 0) (tCons (tVar 1) (tCons (tVar 2) (tCons (tVar 3) (tCons (tVar 4) tNil)))))))) (Wout := fun _ _ _ _ => False) rfl rfl takes_none5
        (fun W pn xe tk _ => pss_one (ps_if (pt_cmpR op_lt (pv 0) pe_int (nomark _))
          (pss_one (ps_expr (by exact (pe_callS GF hr1 rfl gF kF bF (fun σ => passAt tk σ) (by exact (pa_cons (pv 0) (pa_cons (pv 1) pa_nil)))))))
          (pss_one (ps_expr (by exact (pe_callS GS hr1 rfl gS kS bS (fun σ => passAt tk σ) (by exact (pa_cons (pv 0) (pa_cons (pv 1) (pa_cons (pv 2) (pa_cons (pv 3) (pa_cons (pv 4) pa_nil))))))))))))
        (.cons (hd_as (i := 5) (ts := fun a cls d => tRet (tCallE 5 a cls d (spCls Cs))) rfl scClassesOf.nd rfl rfl (test_one (names_of T (i := 0) (by decide) rfl))
            (fun a oe cls d pn hz hv => pss_one (ps_ret (by exact (pe_callE GC hrH gC kC bC hz hv rfl)))))
        (.cons (hd_as (i := 5) (ts := fun a cls d => tRet (tCallE 5 a cls d (spCls Cs))) rfl scClassesOf.nd rfl rfl
            (test_six (names_of T (i := 20) (by decide) rfl) (names_of T (i := 21) (by decide) rfl) (names_of T (i := 22) (by decide) rfl) (names_of T (i := 23) (by decide) rfl) (names_of T (i := 24) (by decide) rfl) (names_of T (i := 25) (by decide) rfl))
            (fun a oe cls d pn hz hv => pss_one (ps_ret (by exact (pe_callE GC hrH gC kC bC hz hv rfl)))))
        .nil)))
      (pss_one (ps_ret pe_non)), ?_⟩
    refine ⟨_, rfl, _, _, rfl, rfl, _, rfl, ite2 (fun h => ?_) (fun h => ?_)⟩
    · have hlt : i < 13 := by
        have := of_decide_eq_true h
        omega
      exact ⟨_, rfl, _, rfl, i, text, rfl, hlt, wa_yes (exm_of T hi (by decide) (due0 (by omega))) fun a ha => ⟨rfl, i, hi, rfl, dict_none, fun l H' s5 e => k l H' s5 e⟩⟩
    · have hge : 13 ≤ i := by
        have : ¬ ((i : Int) < 13) := fun z => h (decide_eq_true z)
        omega
      refine ⟨_, rfl, _, rfl, _, rfl, _, rfl, _, rfl, i, text, number, rows, point, rfl, hge, hi, fun hlt => ?_, fun h18 d hd => ?_⟩
      · exact wa_yes (exm_of T hi (by decide) (due0 (by omega))) fun a ha => ⟨rfl, i, hi, rfl, dict_none, fun l H' s5 e => k l H' s5 e⟩
      · have s1 := same_new (o := .xd (fldOf i (valsOf i text number rows point))) (Same.refl H) hd
        by_cases c : i < 20
        · exact wa_yes (exm_of T hi (by decide) (due0 c)) fun a ha => ⟨rfl, i, hi, rfl, dict_at, fun l H' s5 e => k l H' (s1.trans s5) e⟩
        · have c20 : 20 ≤ i := by omega
          exact wa_no (exm_of T hi (by decide) (due0_no c20)) (wa_yes ⟨_, _, _, _, _, _, exm_of T hi (j := 20) (by decide) rfl, exm_of T hi (j := 21) (by decide) rfl, exm_of T hi (j := 22) (by decide) rfl, exm_of T hi (j := 23) (by decide) rfl,
            exm_of T hi (j := 24) (by decide) rfl, exm_of T hi (j := 25) (by decide) rfl, due6 c20 hi⟩ fun a ha => ⟨rfl, i, hi, rfl, dict_at, fun l H' s5 e => k l H' (s1.trans s5) e⟩)
end
end Q
set_option Elab.async false
set_option linter.all false
set_option maxRecDepth 100000
set_option maxHeartbeats 4000000
namespace Q
open PySem L2 PySem.OwnX L2H
abbrev sDue : Stmt := top 37
abbrev sKept : Stmt := top 38
section
variable {P : Program} {w : World} {K : PySem.W.Frag} {mg : Str → Option Value} {base : Heap}
def moreOf (i : Nat) : List Int := if i = 20 then [27, 29] else if i = 21 then [28, 29] else if i = 22 then [30, 31] else if i = 23 then [29] else if i = 24 then [32] else [31]
def dueL (i : Nat) : List Int := if i < 20 then [0, (i : Int), 26] else (i : Int) :: moreOf i
theorem due_in : ∀ i, i < 26 → ∀ j, j < 33 → inV (.int ((j : Nat) : Int)) ((dueL i).map V.int) = dueB i j := by decide +kernel
theorem dues_next (i n : Nat) : dues i (n + 1) = dues i n ++ [V.bl (dueB i n)] := by
  unfold dues
  rw [List.range_succ, List.map_append]
  rfl
theorem dues_len (i n : Nat) : (dues i n).length = n := by
  unfold dues
  rw [List.length_map, List.length_range]
theorem flat_ints (l : List Int) : (l.map V.int).all flatV = true := by
  induction l with
  | nil => rfl
  | cons a l ih =>
    rw [List.map_cons, List.all_cons, ih]
    rfl
def spDue : Sp := fun vs H Q _ => ∃ i : Nat, vs = [.int i] ∧ i < 26 ∧ ∀ (l : Addr) (H' : Hp), Same H H' → H' l = some (.lst (dues i 33)) → Q (.ref l) H'
theorem scDue : FnScope ["which", "due", "at"] ["which"] (defScope sDue) := ⟨rfl, rfl, rfl, by decide +kernel, rfl, by decide +kernel, by decide +kernel⟩
theorem ok_due {f : Addr} {fd : FuncData} (F : Fun K "_law_due_classes" "_law_due_classes" sDue f fd) (T : TB mg) : FnOk P w K mg base CX0 1 f fd ["which"] spDue := by
  refine F.ok scDue (fun vs H Q E h => ?_) (fun cdv A outer s H vs Q E hr h => ?_)
  · obtain ⟨i, rfl, _⟩ := h
    rfl
  · obtain ⟨i, rfl, hi, k⟩ := h
    refine ⟨_, Evl.pss_cut (ps_set (i := 1) scDue.nd rfl (Or.inr rfl) (pe_lst (pa_cons pe_int (pa_cons (pv 0) (pa_cons pe_int pa_nil)))))
      (Evl.pss_cut (ps_if (pt_cmpR op_ge (pv 0) pe_int (nomark _)) (pss_one (ps_set (i := 1) scDue.nd rfl (Or.inr rfl) (pe_op op_cat (pe_lst (pa_cons (pv 0) pa_nil))
          (pe_ix ix_list (pe_lst (pa_cons (pe_lst (pa_cons pe_int (pa_cons pe_int pa_nil))) (pa_cons (pe_lst (pa_cons pe_int (pa_cons pe_int pa_nil))) (pa_cons (pe_lst (pa_cons pe_int (pa_cons pe_int pa_nil))) (pa_cons (pe_lst (pa_cons pe_int pa_nil))
            (pa_cons (pe_lst (pa_cons pe_int pa_nil)) (pa_cons (pe_lst (pa_cons pe_int pa_nil)) pa_nil))))))) (pe_op op_sub (pv 0) pe_int) (fun _ _ => rfl))))) pss_nil)
      (pss_one (ps_ret (pe_lc (own := [("at", 2)]) (g := gName 2) (by rfl) scDue.nd (pi_range1 rfl T.range (pa_cons pe_int pa_nil))
        (blkOk_by (own := [("at", 2)]) (N := ["which", "due", "at"]) (sc := defScope sDue) (by decide +kernel))
        (fun _ _ _ _ _ => pg_name (i := 2) scDue.nd rfl (Or.inl rfl)) (fun _ _ _ _ _ => pts_nil) (te := tOp (rIn K false) (tVar 2) (tVar 1))
        (fun _ _ _ _ _ => by exact (pe_cmpR op_in_seq (pv 2) (pv 1) (by rfl))))))), ?_⟩
    refine ⟨fun σ' H' => Same H H' ∧ ∃ l, σ' = [some (.int i), some (.ref l), none] ∧ H' l = some (.lst [.int 0, .int i, .int 26]), ?_, ?_⟩
    · exact ⟨_, rfl, (by show 3 ≤ sizeLine; decide), fun l hl => ⟨same_new (Same.refl H) hl, l, rfl, upd_same⟩⟩
    rintro σ1 H1 ⟨s1, l1, rfl, e1⟩
    refine ⟨fun σ' H' => Same H H' ∧ ∃ l, σ' = [some (.int i), some (.ref l), none] ∧ H' l = some (.lst ((dueL i).map V.int)), ?_, ?_⟩
    · refine ⟨_, rfl, _, _, rfl, rfl, _, rfl, ite2 (fun h => ?_) (fun h => ?_)⟩
      · have hge : 20 ≤ i := by
          have := of_decide_eq_true h
          omega
        refine ⟨_, rfl, (by show 1 ≤ sizeLine; decide), fun a ha => ?_⟩
        refine ⟨(by show 2 ≤ sizeLine; decide), fun b0 hb0 => ⟨(by show 2 ≤ sizeLine; decide), fun b1 hb1 => ⟨(by show 2 ≤ sizeLine; decide), fun b2 hb2 => ⟨(by show 1 ≤ sizeLine; decide), fun b3 hb3 => ⟨(by show 1 ≤ sizeLine; decide), fun b4 hb4 => ⟨(by show 1 ≤ sizeLine; decide), fun b5 hb5 => ⟨(by show 6 ≤ sizeLine; decide), fun t ht => ?_⟩⟩⟩⟩⟩⟩⟩
        refine ⟨_, rfl, _, _, rfl, rfl, ?_⟩
        have c : i = 20 ∨ i = 21 ∨ i = 22 ∨ i = 23 ∨ i = 24 ∨ i = 25 := by omega
        rcases c with rfl | rfl | rfl | rfl | rfl | rfl
        · refine ⟨t, _, _, .ref b0, rfl, rfl, SqL.of upd_same, rfl, a, b0, [.int ((20 : Nat) : Int)], [.int 27, .int 29], rfl, rfl, ?_, ?_, (by show 3 ≤ sizeLine; decide), fun l hl => ⟨same_new (same_new (same_new (same_new (same_new (same_new (same_new (same_new (same_new s1 ha) hb0) hb1) hb2) hb3) hb4) hb5) ht) hl, l, rfl, upd_same⟩⟩
          · refine same_new (Same.refl _) ht _ _ ?_; refine same_new (Same.refl _) hb5 _ _ ?_; refine same_new (Same.refl _) hb4 _ _ ?_; refine same_new (Same.refl _) hb3 _ _ ?_; refine same_new (Same.refl _) hb2 _ _ ?_; refine same_new (Same.refl _) hb1 _ _ ?_; refine same_new (Same.refl _) hb0 _ _ ?_; exact upd_same
          · refine same_new (Same.refl _) ht _ _ ?_; refine same_new (Same.refl _) hb5 _ _ ?_; refine same_new (Same.refl _) hb4 _ _ ?_; refine same_new (Same.refl _) hb3 _ _ ?_; refine same_new (Same.refl _) hb2 _ _ ?_; refine same_new (Same.refl _) hb1 _ _ ?_; exact upd_same
        · refine ⟨t, _, _, .ref b1, rfl, rfl, SqL.of upd_same, rfl, a, b1, [.int ((21 : Nat) : Int)], [.int 28, .int 29], rfl, rfl, ?_, ?_, (by show 3 ≤ sizeLine; decide), fun l hl => ⟨same_new (same_new (same_new (same_new (same_new (same_new (same_new (same_new (same_new s1 ha) hb0) hb1) hb2) hb3) hb4) hb5) ht) hl, l, rfl, upd_same⟩⟩
          · refine same_new (Same.refl _) ht _ _ ?_; refine same_new (Same.refl _) hb5 _ _ ?_; refine same_new (Same.refl _) hb4 _ _ ?_; refine same_new (Same.refl _) hb3 _ _ ?_; refine same_new (Same.refl _) hb2 _ _ ?_; refine same_new (Same.refl _) hb1 _ _ ?_; refine same_new (Same.refl _) hb0 _ _ ?_; exact upd_same
          · refine same_new (Same.refl _) ht _ _ ?_; refine same_new (Same.refl _) hb5 _ _ ?_; refine same_new (Same.refl _) hb4 _ _ ?_; refine same_new (Same.refl _) hb3 _ _ ?_; refine same_new (Same.refl _) hb2 _ _ ?_; exact upd_same
        · refine ⟨t, _, _, .ref b2, rfl, rfl, SqL.of upd_same, rfl, a, b2, [.int ((22 : Nat) : Int)], [.int 30, .int 31], rfl, rfl, ?_, ?_, (by show 3 ≤ sizeLine; decide), fun l hl => ⟨same_new (same_new (same_new (same_new (same_new (same_new (same_new (same_new (same_new s1 ha) hb0) hb1) hb2) hb3) hb4) hb5) ht) hl, l, rfl, upd_same⟩⟩
          · refine same_new (Same.refl _) ht _ _ ?_; refine same_new (Same.refl _) hb5 _ _ ?_; refine same_new (Same.refl _) hb4 _ _ ?_; refine same_new (Same.refl _) hb3 _ _ ?_; refine same_new (Same.refl _) hb2 _ _ ?_; refine same_new (Same.refl _) hb1 _ _ ?_; refine same_new (Same.refl _) hb0 _ _ ?_; exact upd_same
          · refine same_new (Same.refl _) ht _ _ ?_; refine same_new (Same.refl _) hb5 _ _ ?_; refine same_new (Same.refl _) hb4 _ _ ?_; refine same_new (Same.refl _) hb3 _ _ ?_; exact upd_same
        · refine ⟨t, _, _, .ref b3, rfl, rfl, SqL.of upd_same, rfl, a, b3, [.int ((23 : Nat) : Int)], [.int 29], rfl, rfl, ?_, ?_, (by show 2 ≤ sizeLine; decide), fun l hl => ⟨same_new (same_new (same_new (same_new (same_new (same_new (same_new (same_new (same_new s1 ha) hb0) hb1) hb2) hb3) hb4) hb5) ht) hl, l, rfl, upd_same⟩⟩
          · refine same_new (Same.refl _) ht _ _ ?_; refine same_new (Same.refl _) hb5 _ _ ?_; refine same_new (Same.refl _) hb4 _ _ ?_; refine same_new (Same.refl _) hb3 _ _ ?_; refine same_new (Same.refl _) hb2 _ _ ?_; refine same_new (Same.refl _) hb1 _ _ ?_; refine same_new (Same.refl _) hb0 _ _ ?_; exact upd_same
          · refine same_new (Same.refl _) ht _ _ ?_; refine same_new (Same.refl _) hb5 _ _ ?_; refine same_new (Same.refl _) hb4 _ _ ?_; exact upd_same
        · refine ⟨t, _, _, .ref b4, rfl, rfl, SqL.of upd_same, rfl, a, b4, [.int ((24 : Nat) : Int)], [.int 32], rfl, rfl, ?_, ?_, (by show 2 ≤ sizeLine; decide), fun l hl => ⟨same_new (same_new (same_new (same_new (same_new (same_new (same_new (same_new (same_new s1 ha) hb0) hb1) hb2) hb3) hb4) hb5) ht) hl, l, rfl, upd_same⟩⟩
          · refine same_new (Same.refl _) ht _ _ ?_; refine same_new (Same.refl _) hb5 _ _ ?_; refine same_new (Same.refl _) hb4 _ _ ?_; refine same_new (Same.refl _) hb3 _ _ ?_; refine same_new (Same.refl _) hb2 _ _ ?_; refine same_new (Same.refl _) hb1 _ _ ?_; refine same_new (Same.refl _) hb0 _ _ ?_; exact upd_same
          · refine same_new (Same.refl _) ht _ _ ?_; refine same_new (Same.refl _) hb5 _ _ ?_; exact upd_same
        · refine ⟨t, _, _, .ref b5, rfl, rfl, SqL.of upd_same, rfl, a, b5, [.int ((25 : Nat) : Int)], [.int 31], rfl, rfl, ?_, ?_, (by show 2 ≤ sizeLine; decide), fun l hl => ⟨same_new (same_new (same_new (same_new (same_new (same_new (same_new (same_new (same_new s1 ha) hb0) hb1) hb2) hb3) hb4) hb5) ht) hl, l, rfl, upd_same⟩⟩
          · refine same_new (Same.refl _) ht _ _ ?_; refine same_new (Same.refl _) hb5 _ _ ?_; refine same_new (Same.refl _) hb4 _ _ ?_; refine same_new (Same.refl _) hb3 _ _ ?_; refine same_new (Same.refl _) hb2 _ _ ?_; refine same_new (Same.refl _) hb1 _ _ ?_; refine same_new (Same.refl _) hb0 _ _ ?_; exact upd_same
          · refine same_new (Same.refl _) ht _ _ ?_; exact upd_same
      · have hlt : i < 20 := by
          have : ¬ ((20 : Int) ≤ (i : Int)) := fun z => h (decide_eq_true z)
          omega
        refine ⟨s1, l1, rfl, ?_⟩
        unfold dueL
        rw [if_pos hlt]
        exact e1
    rintro σ2 H2 ⟨s2, l2, rfl, e2⟩
    refine ⟨_, rfl, by decide, by decide, fun D hD => ?_⟩
    have hDH : H D = none := s2.free hD
    refine lc_range (lo := 0) (n := 33) (fun j H' => Same H H' ∧ H' l2 = some (.lst ((dueL i).map V.int)) ∧ H' D = some (.lst (dues i j))) ⟨same_new s2 hD, (upd_ne (ne_of_none e2 hD)).trans e2, upd_same⟩ ?_ ?_
    · rintro j H3 hj ⟨s3, e3, eD⟩
      refine ⟨rfl, yes_ite ?_⟩
      refine ⟨_, rfl, _, rfl, l2, _, rfl, .inl (SqL.of e3), rfl, flat_ints _, dues i j, eD, ?_, ?_⟩
      · rw [dues_len]
        exact Nat.lt_of_lt_of_le hj (by decide)
      · have ej : (0 : Int) + (j : Int) = (j : Int) := Int.zero_add _
        rw [ej, due_in i hi j hj, if_neg Bool.false_ne_true, ← dues_next]
        refine ⟨fun b u q => ?_, ?_, upd_same⟩
        · rw [upd_ne (ne_of_none q hDH)]
          exact s3 b u q
        · rw [upd_ne ?_]
          · exact e3
          · intro z
            rw [z, hD] at e2
            cases e2
    · rintro H3 ⟨s3, e3, eD⟩
      exact k D H3 s3 eD
def spKept : Sp := fun vs H Q _ => ∃ (i : Nat) (text : Str) (number : Int) (rows : Addr) (point : V), vs = [.int i, .str text, .int number, .ref rows, point] ∧ i < 26 ∧ ∀ (v : V) (H' : Hp), Same H H' → KeptV i text number rows point H' v → Q v H'
theorem scKept : FnScope ["which", "text", "number", "rows", "point"] ["which", "text", "number", "rows", "point"] (defScope sKept) := ⟨rfl, rfl, rfl, by decide +kernel, rfl, by decide +kernel, by decide +kernel⟩
theorem ok_kept {f : Addr} {fd : FuncData} (F : Fun K "_law_kept" "_law_kept" sKept f fd) : FnOk P w K mg base CX0 1 f fd ["which", "text", "number", "rows", "point"] spKept := by
  refine F.ok scKept (fun vs H Q E h => ?_) (fun cdv A outer s H vs Q E hr h => ?_)
  · obtain ⟨i, text, number, rows, point, rfl, _⟩ := h
    rfl
  · obtain ⟨i, text, number, rows, point, rfl, hi, k⟩ := h
    refine ⟨_, pss_cons (ps_if (pt_cmpR op_lt (pv 0) pe_int (nomark _)) (pss_one (ps_ret pe_non)) pss_nil)
      (pss_cons (ps_if (pt_cmpR op_in_seq (pv 0) (pe_tup (pa_cons pe_int (pa_cons pe_int (pa_cons pe_int pa_nil)))) (by rfl)) (pss_one (ps_ret (pv 1))) pss_nil)
      (pss_one (ps_ret (pe_ifExp (pt_cmpR op_eq (pv 0) pe_int (nomark _)) (pe_tup (pa_cons (pv 1) (pa_cons (pv 3) (pa_cons (pv 4) pa_nil)))) (pv 2))))), ?_⟩
    refine ⟨_, rfl, _, _, rfl, rfl, _, rfl, ite2 (fun h => ?_) (fun h => ?_)⟩
    · have hlt : i < 18 := by
        have := of_decide_eq_true h
        omega
      refine k _ H (Same.refl H) ?_
      unfold KeptV
      rw [if_pos hlt]
    have hge : 18 ≤ i := by
      have : ¬ ((i : Int) < 18) := fun z => h (decide_eq_true z)
      omega
    refine ⟨_, rfl, (by show 3 ≤ sizeLine; decide), fun t ht => ⟨t, _, rfl, .inr (SqT.of upd_same), rfl, rfl, _, rfl, ?_⟩⟩
    have sT := same_new (o := .tup [.int 18, .int 21, .int 24]) (Same.refl H) ht
    have c : i = 18 ∨ i = 19 ∨ i = 20 ∨ i = 21 ∨ i = 22 ∨ i = 23 ∨ i = 24 ∨ i = 25 := by omega
    rcases c with rfl | rfl | rfl | rfl | rfl | rfl | rfl | rfl
    · exact ite2 (fun _ => ⟨_, rfl, k _ _ sT rfl⟩) (fun g => absurd (show inV _ _ = true by rfl) g)
    · exact ite2 (fun g => absurd g (by decide)) (fun _ => ⟨_, rfl, rfl, _, rfl, ite2 (fun g => absurd g (by decide)) (fun _ => ⟨_, rfl, k _ _ sT rfl⟩)⟩)
    · exact ite2 (fun g => absurd g (by decide)) (fun _ => ⟨_, rfl, rfl, _, rfl, ite2 (fun g => absurd g (by decide)) (fun _ => ⟨_, rfl, k _ _ sT rfl⟩)⟩)
    · exact ite2 (fun _ => ⟨_, rfl, k _ _ sT rfl⟩) (fun g => absurd (show inV _ _ = true by rfl) g)
    · exact ite2 (fun g => absurd g (by decide)) (fun _ => ⟨_, rfl, rfl, _, rfl, ite2 (fun g => absurd g (by decide)) (fun _ => ⟨_, rfl, k _ _ sT rfl⟩)⟩)
    · exact ite2 (fun g => absurd g (by decide)) (fun _ => ⟨_, rfl, rfl, _, rfl, ite2 (fun g => absurd g (by decide)) (fun _ => ⟨_, rfl, k _ _ sT rfl⟩)⟩)
    · exact ite2 (fun _ => ⟨_, rfl, k _ _ sT rfl⟩) (fun g => absurd (show inV _ _ = true by rfl) g)
    · exact ite2 (fun g => absurd g (by decide)) (fun _ => ⟨_, rfl, rfl, _, rfl, ite2 (fun _ => ⟨_, rfl, _, rfl, _, rfl, (by show 3 ≤ sizeLine; decide), fun u hu => k _ _ (same_new sT hu) ⟨u, rfl, upd_same⟩⟩) (fun g => absurd rfl g)⟩)
end
end Q
set_option Elab.async false
set_option linter.all false
set_option maxRecDepth 100000
set_option maxHeartbeats 4000000
namespace Q
open PySem L2 PySem.OwnX L2H TL
abbrev sLaw : Stmt := top 39
def OkT (z : Str) : Prop := PyData.strOk z = true
theorem okT_iff (z : Str) : OkT z ↔ ∀ c ∈ z.cps.toList, c < 0x110000 := by
  unfold OkT PyData.strOk
  rw [← Array.all_toList, List.all_eq_true]
  constructor
  · intro h c hc
    exact of_decide_eq_true (h c hc)
  · intro h c hc
    exact decide_eq_true (h c hc)
theorem joinL_mem (c : Nat) : ∀ ps : List (List Nat), c ∈ joinL [] ps → ∃ p ∈ ps, c ∈ p
  | [], h => absurd h (by simp [joinL])
  | [p], h => ⟨p, List.mem_cons_self, h⟩
  | p :: q :: r, h => by
    have h' : c ∈ p ++ ([] ++ joinL [] (q :: r)) := h
    rw [List.nil_append] at h'
    rcases List.mem_append.mp h' with h | h
    · exact ⟨p, List.mem_cons_self, h⟩
    · obtain ⟨x, hx, hc⟩ := joinL_mem c (q :: r) h
      exact ⟨x, List.mem_cons_of_mem _ hx, hc⟩
theorem okT_join {ys : List Str} (h : ∀ y ∈ ys, OkT y) : OkT (Txt.join "" ys) := by
  rw [okT_iff, join_eq]
  intro c hc
  have e := tl_join ("" : Str) ys
  have e0 : tl ("" : Str) = [] := by decide +kernel
  rw [e0] at e
  have hc' : c ∈ joinL [] (ys.map tl) := e ▸ hc
  obtain ⟨p, hp, hcp⟩ := joinL_mem c _ hc'
  obtain ⟨y, hy, rfl⟩ := List.mem_map.mp hp
  exact (okT_iff y).mp (h y hy) c hcp
/-- what is drawn for Broken's point -/
def PointOk (H : Hp) (v : V) : Prop := v = .non ∨ ∃ (t : Addr) (a b c : Int), v = .ref t ∧ H t = some (.tup [.int a, .int b, .int c])
theorem PointOk.same {H H' : Hp} {v : V} (s : Same H H') (h : PointOk H v) : PointOk H' v := by
  rcases h with h | ⟨t, a, b, c, e, q⟩
  · exact .inl h
  · exact .inr ⟨t, a, b, c, e, s _ _ q⟩
section
variable {K : PySem.W.Frag}
theorem dp_ints {H : Hp} : ∀ l : List Int, DpAll K H (l.map V.int) (l.map PyData.int)
  | [] => .nil
  | a :: l => .cons (.int a) (dp_ints l)
theorem dp_bools {H : Hp} : ∀ l : List Bool, DpAll K H (l.map V.bl) (l.map PyData.bool)
  | [] => .nil
  | a :: l => .cons (.bl a) (dp_bools l)
theorem lay_ints : ∀ l : List Int, PyData.canLayAll0 (l.map PyData.int) = true ∧ PyData.depthAll (l.map PyData.int) = 0
  | [] => ⟨rfl, rfl⟩
  | a :: l => by
    obtain ⟨h1, h2⟩ := lay_ints l
    refine ⟨?_, ?_⟩
    · rw [List.map_cons, PyData.canLayAll0, h1]
      rfl
    · rw [List.map_cons, PyData.depthAll, h2]
      rfl
theorem lay_bools : ∀ l : List Bool, PyData.canLayAll0 (l.map PyData.bool) = true ∧ PyData.depthAll (l.map PyData.bool) = 0
  | [] => ⟨rfl, rfl⟩
  | a :: l => by
    obtain ⟨h1, h2⟩ := lay_bools l
    refine ⟨?_, ?_⟩
    · rw [List.map_cons, PyData.canLayAll0, h1]
      rfl
    · rw [List.map_cons, PyData.depthAll, h2]
      rfl
theorem dp_point {H : Hp} {v : V} (h : PointOk H v) : ∃ d, (∀ H', Same H H' → Dp K H' v d) ∧ d.canLay0 = true ∧ d.depth ≤ 1 := by
  rcases h with rfl | ⟨t, a, b, c, rfl, q⟩
  · exact ⟨.none, fun _ _ => .non, rfl, Nat.zero_le _⟩
  · exact ⟨.tuple [.int a, .int b, .int c], fun H' s => .tup (SqT.of (s _ _ q)) (.cons (.int a) (.cons (.int b) (.cons (.int c) .nil))), rfl, Nat.le_refl _⟩
/-- what is kept, as data -/
def dKept (i : Nat) (text : Str) (number : Int) (rs : List Int) (dp : PyData) : PyData :=
  if i < 18 then .none else if i = 25 then .tuple [.str text, .tuple (rs.map .int), dp] else if i = 19 ∨ i = 20 ∨ i = 22 ∨ i = 23 then .int number else .str text
theorem dp_kept {H : Hp} {i : Nat} {text : Str} {number : Int} {rows : Addr} {rs : List Int} {point v : V} {dp : PyData} (hr : H rows = some (.tup (rs.map V.int))) (hp : Dp K H point dp) (h : KeptV i text number rows point H v) : Dp K H v (dKept i text number rs dp) := by
  unfold KeptV at h
  unfold dKept
  split
  · rename_i c
    rw [if_pos c] at h
    subst h
    exact .non
  · rename_i c
    rw [if_neg c] at h
    split
    · rename_i c2
      rw [if_pos c2] at h
      obtain ⟨u, rfl, e⟩ := h
      exact .tup (SqT.of e) (.cons (.str text) (.cons (.tup (SqT.of hr) (dp_ints rs)) (.cons hp .nil)))
    · rename_i c2
      rw [if_neg c2] at h
      split
      · rename_i c3
        rw [if_pos c3] at h
        subst h
        exact .int number
      · rename_i c3
        rw [if_neg c3] at h
        subst h
        exact .str text
theorem lay_kept {i : Nat} {text : Str} {number : Int} {rs : List Int} {dp : PyData} (ht : OkT text) (h1 : dp.canLay0 = true) (h2 : dp.depth ≤ 1) : (dKept i text number rs dp).canLay0 = true ∧ (dKept i text number rs dp).depth ≤ 2 := by
  unfold dKept
  split
  · exact ⟨rfl, Nat.zero_le _⟩
  · split
    · obtain ⟨z1, z2⟩ := lay_ints rs
      refine ⟨?_, ?_⟩
      · show (PyData.strOk text && (PyData.canLayAll0 (rs.map .int) && (dp.canLay0 && true))) = true
        rw [h1, z1, show PyData.strOk text = true from ht]
        rfl
      · show max 0 (max (PyData.depthAll (rs.map .int) + 1) (max dp.depth 0)) + 1 ≤ 2
        rw [z2]
        omega
    · split
      · exact ⟨rfl, Nat.zero_le _⟩
      · exact ⟨ht, Nat.zero_le _⟩
theorem shaped_pair {i : Nat} {d : PyData} (h1 : d.canLay0 = true) (h2 : d.depth ≤ 2) : SeqAt.shaped (.tuple [.int ((i : Nat) : Int), d]) = true := by
  unfold SeqAt.shaped
  have e1 : (PyData.tuple [.int ((i : Nat) : Int), d]).canLay0 = true := by
    show (true && (d.canLay0 && true)) = true
    rw [h1]
    rfl
  have e2 : (PyData.tuple [.int ((i : Nat) : Int), d]).depth ≤ 64 := by
    show max 0 (max d.depth 0) + 1 ≤ 64
    omega
  rw [e1, decide_eq_true e2]
  rfl
theorem shaped_bools (l : List Bool) : SeqAt.shaped (.list (l.map PyData.bool)) = true := by
  obtain ⟨h1, h2⟩ := lay_bools l
  unfold SeqAt.shaped
  have e1 : (PyData.list (l.map PyData.bool)).canLay0 = true := h1
  have e2 : (PyData.list (l.map PyData.bool)).depth ≤ 64 := by
    show PyData.depthAll (l.map PyData.bool) + 1 ≤ 64
    rw [h2]
    decide
  rw [e1, decide_eq_true e2]
  rfl
theorem dues_bools (i : Nat) : dues i 33 = ((List.range 33).map (dueB i)).map V.bl := by
  unfold dues
  rw [List.map_map]
  rfl
end
end Q
set_option Elab.async false
set_option linter.all false
set_option maxRecDepth 100000
set_option maxHeartbeats 8000000
namespace Q
open PySem L2 PySem.OwnX L2H
structure TL2 (mg : Str → Option Value) : Prop extends TB mg where
  min : mg "min" = none
  tuple : mg "tuple" = none
/-- a def as callers meet it -/
structure Called (P : Program) (w : World) (K : PySem.W.Frag) (mg : Str → Option Value) (base : Heap) (k : Nat) (x : Str) (ps : List Str) (sp : Sp) (f : Addr) (fd : FuncData) : Prop where
  ok : FnOk P w K mg base CX0 k f fd ps sp
  b : Binds K fd ps []
  g : mg x = some (.ref f)
  kp : PySem.W.keepIn K (.ref f) = true
def spLaw (K : PySem.W.Frag) : Sp := fun vs H Q _ => ∃ (a : Addr) (ns : List Int), vs = [.ref a] ∧ SqL K H a (ns.map V.int) ∧ ns.length ≤ 63 ∧ ∀ H', Q (.bl true) H'
/-- behind the first draws: what stood stands, and a bag at p -/
structure BagAt (H0 H : Hp) (p : Addr) : Prop where
  s : Same H0 H
  n : H0 p = none
  b : ∃ a b c : Int, H p = some (.lst [.int a, .int b, .int c])
theorem BagAt.drawn {H0 H H1 : Hp} {p : Addr} (x : BagAt H0 H p) (y : Bgd p H H1) : BagAt H0 H1 p := ⟨Bgd.same x.s x.n y, x.n, y.bag⟩
theorem BagAt.ne {H0 H : Hp} {p q : Addr} (x : BagAt H0 H p) (h : H q = none) : q ≠ p := fun z => by
  obtain ⟨a, b, c, e⟩ := x.b
  rw [z, e] at h
  cases h
theorem bgd_refl {H0 H : Hp} {p : Addr} (x : BagAt H0 H p) : Bgd p H H := ⟨x.b, fun _ _ _ e => e⟩
def signs : List V := [.str "a", .str "b", .str "e", .str "k", .str "q", .str "w", .str "z", .str "y"]
theorem signs_at {i : Nat} {v : V} (h : signs[i]? = some v) : ∃ z : Str, v = .str z ∧ z.length = 1 ∧ OkT z := by
  have hi : i < 8 := (List.getElem?_eq_some_iff.mp h).1
  have c : i = 0 ∨ i = 1 ∨ i = 2 ∨ i = 3 ∨ i = 4 ∨ i = 5 ∨ i = 6 ∨ i = 7 := by omega
  rcases c with rfl | rfl | rfl | rfl | rfl | rfl | rfl | rfl <;> (cases h; exact ⟨_, rfl, by decide +kernel, by unfold OkT; decide +kernel⟩)
theorem sum_ones : ∀ ys : List Str, (∀ y ∈ ys, y.length = 1) → (ys.map (·.length)).sum = ys.length
  | [], _ => rfl
  | y :: ys, h => by
    rw [List.map_cons, List.sum_cons, h y List.mem_cons_self, sum_ones ys fun z hz => h z (List.mem_cons_of_mem _ hz), List.length_cons]
    omega
theorem which_of {x : V} (h : x ∈ rgV 0 26) : ∃ n : Nat, n < 26 ∧ x = .int n := by
  unfold rgV at h
  obtain ⟨n, hn, rfl⟩ := List.mem_map.mp h
  exact ⟨n, List.mem_range.mp hn, by rw [Int.zero_add]⟩
theorem KeptV.same {i : Nat} {text : Str} {number : Int} {rows : Addr} {point v : V} {H H' : Hp} (h : KeptV i text number rows point H v) (s : Same H H') : KeptV i text number rows point H' v := by
  unfold KeptV at h ⊢
  split
  · rename_i c
    rw [if_pos c] at h
    exact h
  · rename_i c
    rw [if_neg c] at h
    split
    · rename_i c2
      rw [if_pos c2] at h
      obtain ⟨u, e, q⟩ := h
      exact ⟨u, e, s _ _ q⟩
    · rename_i c2
      rw [if_neg c2] at h
      exact h
section
variable {P : Program} {w : World} {K : PySem.W.Frag} {mg : Str → Option Value} {base : Heap}
theorem scL : FnScope ["script", "at", "bag", "text", "number", "rows", "point", "which", "kept", "turn"] ["script"] (defScope sLaw) := ⟨rfl, rfl, rfl, by decide +kernel, rfl, by decide +kernel, by decide +kernel⟩
theorem ok_law {f fB fD fO fS fK fC fL fU : Addr} {fd dB dD dO dS dK dC dL dU : FuncData} (F : Fun K "law" "law" sLaw f fd) (T : TL2 mg)
    (B : Called P w K mg base 1 "_law_bag" ["script", "at"] (spBag K) fB dB) (D : Called P w K mg base 1 "_law_draw" ["bag", "total"] spDraw fD dD) (O : Called P w K mg base 2 "_law_one_of" ["bag", "items"] spOne fO dO)
    (S : Called P w K mg base 2 "_law_shuffled" ["bag", "items"] spShuf fS dS) (KK : Called P w K mg base 1 "_law_kept" ["which", "text", "number", "rows", "point"] spKept fK dK)
    (C : Called P w K mg base 5 "_law_caught_second" ["which", "text", "number", "rows", "point"] spCaught fC dC) (L : Called P w K mg base 5 "_law_classes_of" ["which", "text", "number", "rows", "point"] spClsOf fL dL)
    (U : Called P w K mg base 1 "_law_due_classes" ["which"] spDue fU dU) : FnOk P w K mg base CX0 6 f fd ["script"] (spLaw K) := by
  refine F.ok scL (fun vs H Q E h => ?_) (fun cdv A outer s H0 vs Q E hr h => ?_)
  · obtain ⟨a, ns, rfl, _⟩ := h
    rfl
  · obtain ⟨a, ns, rfl, hS, hlen, k⟩ := h
    have hr1 : Room 1 _ := hr.mono (by decide)
    have hr2 : Room 2 _ := hr.mono (by decide)
    have hu := hr.units
    refine ⟨_, pss_cons (ps_for PassesOwn.never rfl
        (pi_range1 rfl T.range (pa_cons (pe_callB (call_max2 rfl) (by rfl) T.max (by decide +kernel) (pa_cons pe_int (pa_cons (pe_callB (call_min2 rfl) (by rfl) T.min (by decide +kernel) (pa_cons pe_int (pa_cons (pe_callB call_len_seq (by rfl) T.len PySem.boot_len (pa_cons (pv 0) pa_nil)) pa_nil))) pa_nil))) pa_nil))
        (pg_name (i := 1) scL.nd rfl (Or.inl rfl))
        (Evl.pss_cut (ps_set (i := 2) scL.nd rfl (Or.inr rfl) (pe_call B.ok hr1 (by rfl) B.g B.kp B.b .nil pass0 (pa_cons (pv 0) (pa_cons (pv 1) pa_nil))))
        (Evl.pss_cut (ps_set (i := 3) scL.nd rfl (Or.inl rfl) (pe_join pe_str (pe_lc (own := [("turn", 9)]) (g := gName 9) (by rfl) scL.nd
            (pi_range1 rfl T.range (pa_cons (pe_op op_add pe_int (pe_call D.ok hr1 (by rfl) D.g D.kp D.b .nil pass0 (pa_cons (pv 2) (pa_cons pe_int pa_nil)))) pa_nil))
            (blkOk_by (own := [("turn", 9)]) (N := ["script", "at", "bag", "text", "number", "rows", "point", "which", "kept", "turn"]) (sc := defScope sLaw) (by decide +kernel))
            (fun _ _ _ _ _ => pg_name (i := 9) scL.nd rfl (Or.inl rfl)) (fun _ _ _ _ _ => pts_nil)
            (te := tCall spOne [] E0 (tCons (tVar 2) (tCons (tLst (tCons (tC (.str "a")) (tCons (tC (.str "b")) (tCons (tC (.str "e")) (tCons (tC (.str "k")) (tCons (tC (.str "q")) (tCons (tC (.str "w")) (tCons (tC (.str "z")) (tCons (tC (.str "y")) tNil))))))))) tNil)))
            (fun _ _ _ _ _ => by exact (pe_call O.ok hr2 (by rfl) O.g O.kp O.b .nil pass0 (pa_cons (pv 2) (pa_cons (pe_lst (pa_cons pe_str (pa_cons pe_str (pa_cons pe_str (pa_cons pe_str (pa_cons pe_str (pa_cons pe_str (pa_cons pe_str (pa_cons pe_str pa_nil))))))))) pa_nil)))))))
        (Evl.pss_cut (ps_set (i := 4) scL.nd rfl (Or.inl rfl) (pe_op op_sub (pe_call D.ok hr1 (by rfl) D.g D.kp D.b .nil pass0 (pa_cons (pv 2) (pa_cons (pe_op op_pow pe_int pe_int) pa_nil))) (pe_call D.ok hr1 (by rfl) D.g D.kp D.b .nil pass0 (pa_cons (pv 2) (pa_cons (pe_op op_pow pe_int pe_int) pa_nil)))))
        (Evl.pss_cut (ps_set (i := 5) scL.nd rfl (Or.inl rfl) (pe_callTy call_tuple_of (by rfl) T.tuple (by decide +kernel) (pa_cons (pe_lc (own := [("turn", 9)]) (g := gName 9) (by rfl) scL.nd
            (pi_range1 rfl T.range (pa_cons (pe_call D.ok hr1 (by rfl) D.g D.kp D.b .nil pass0 (pa_cons (pv 2) (pa_cons pe_int pa_nil))) pa_nil))
            (blkOk_by (own := [("turn", 9)]) (N := ["script", "at", "bag", "text", "number", "rows", "point", "which", "kept", "turn"]) (sc := defScope sLaw) (by decide +kernel))
            (fun _ _ _ _ _ => pg_name (i := 9) scL.nd rfl (Or.inl rfl)) (fun _ _ _ _ _ => pts_nil)
            (te := tOp (rI0 fun i j => .int (i + j)) (tC (.int 1)) (tCall spDraw [] E0 (tCons (tVar 2) (tCons (tC (.int 60)) tNil))))
            (fun _ _ _ _ _ => by exact (pe_op op_add pe_int (pe_call D.ok hr1 (by rfl) D.g D.kp D.b .nil pass0 (pa_cons (pv 2) (pa_cons pe_int pa_nil)))))) pa_nil)))
        (Evl.pss_cut (ps_set (i := 6) scL.nd rfl (Or.inl rfl) (pe_call O.ok hr2 (by rfl) O.g O.kp O.b .nil pass0 (pa_cons (pv 2) (pa_cons (pe_lst (pa_cons pe_non (pa_cons (pe_tup (pa_cons pe_int (pa_cons pe_int (pa_cons pe_int pa_nil))))
            (pa_cons (pe_tup (pa_cons (pe_call D.ok hr1 (by rfl) D.g D.kp D.b .nil pass0 (pa_cons (pv 2) (pa_cons (pe_op op_pow pe_int pe_int) pa_nil))) (pa_cons pe_int (pa_cons (pe_op op_add pe_int (pe_call D.ok hr1 (by rfl) D.g D.kp D.b .nil pass0 (pa_cons (pv 2) (pa_cons pe_int pa_nil)))) pa_nil)))) pa_nil)))) pa_nil))))
        (pss_one (ps_for PassesOwn.never rfl (pi_list (pe_call S.ok hr2 (by rfl) S.g S.kp S.b .nil pass0 (pa_cons (pv 2) (pa_cons (pe_listRg rfl rfl T.list (prg_1 rfl T.range pe_int)) pa_nil)))) (pg_name (i := 7) scL.nd rfl (Or.inl rfl))
          (pss_cons (ps_set (i := 8) scL.nd rfl (Or.inl rfl) (pe_call KK.ok hr1 (by rfl) KK.g KK.kp KK.b .nil pass0 (pa_cons (pv 7) (pa_cons (pv 3) (pa_cons (pv 4) (pa_cons (pv 5) (pa_cons (pv 6) pa_nil)))))))
          (pss_cons (ps_if (PW.pt (pw_and (pt_cmpR op_ge (pv 7) pe_int (nomark _)) (pw_and1 (pt_cmpR (op_neD hu) (pe_call C.ok hr (by rfl) C.g C.kp C.b .nil pass0 (pa_cons (pv 7) (pa_cons (pv 3) (pa_cons (pv 4) (pa_cons (pv 5) (pa_cons (pv 6) pa_nil)))))) (pe_tup (pa_cons (pv 7) (pa_cons (pv 8) pa_nil))) (nomark _))))) (pss_one (ps_ret pe_bl)) pss_nil)
          (pss_one (ps_if (pt_cmpR (op_neD hu) (pe_call L.ok hr (by rfl) L.g L.kp L.b .nil pass0 (pa_cons (pv 7) (pa_cons (pv 3) (pa_cons (pv 4) (pa_cons (pv 5) (pa_cons (pv 6) pa_nil)))))) (pe_call U.ok hr1 (by rfl) U.g U.kp U.b .nil pass0 (pa_cons (pv 7) pa_nil)) (nomark _)) (pss_one (ps_ret pe_bl)) pss_nil))))))))))))
      (pss_one (ps_ret pe_bl)), ?_⟩
    refine ⟨_, rfl, a, _, rfl, .inl hS, _, _, rfl, _, _, rfl, _, rfl, ?b1, ?b2, for_range (lo := 0) (n := _) (fun i σ H' => Same H0 H' ∧ ∃ r1 r2 r3 r4 r5 r6 r7 r8 r9 : Option V, σ = [some (.ref a), r1, r2, r3, r4, r5, r6, r7, r8, r9]) ?h0 ?hs ?hd⟩
    case b1 => split <;> split <;> omega
    case b2 => split <;> split <;> omega
    case h0 => exact ⟨Same.refl H0, _, _, _, _, _, _, _, _, _, rfl⟩
    case hd => exact fun σ H' _ => k _
    case hs =>
      rintro i σ H1 hi ⟨s1, r1, r2, r3, r4, r5, r6, r7, r8, r9, rfl⟩
      have hi2 : i < 1000 := by
        have hn : ∀ x : Int, (if (if x < 2 then x else 2) > 1 then (if x < 2 then x else 2) else 1).toNat ≤ 2 := fun x => by split <;> split <;> omega
        exact Nat.lt_of_lt_of_le hi (Nat.le_trans (hn _) (by decide))
      rw [show (0 : Int) + (i : Int) = (i : Int) from Int.zero_add _]
      refine ⟨fun σ' H' => ∃ p, BagAt H0 H' p ∧ σ' = [some (.ref a), some (.int i), some (.ref p), r3, r4, r5, r6, r7, r8, r9], ?_, ?_⟩
      · exact ⟨_, rfl, _, rfl, a, ns, i, rfl, s1.seq hS, hi2, fun p H2 hp sm hb => ⟨p, ⟨s1.trans sm, s1.free hp, hb⟩, rfl⟩⟩
      rintro σ2 H2 ⟨p, B2, rfl⟩
      refine ⟨fun σ' H' => ∃ text, BagAt H0 H' p ∧ OkT text ∧ σ' = [some (.ref a), some (.int i), some (.ref p), some (.str text), r4, r5, r6, r7, r8, r9], ?_, ?_⟩
      · obtain ⟨x0, x1, x2, ex⟩ := B2.b
        refine ⟨⟨_, rfl⟩, _, rfl, p, x0, x1, x2, 20, rfl, ex, by decide, by decide, fun r H3 h1 h2 bg3 => ?_⟩
        have B3 := B2.drawn bg3
        refine ⟨_, _, rfl, rfl, _, rfl, by omega, by omega, fun Dl hD => ?_⟩
        have nDp := B3.ne hD
        refine lc_range (lo := 0) (n := (1 + r).toNat) (fun j H' => Bgd p H3 H' ∧ ∃ ys : List Str, H' Dl = some (.lst (ys.map V.str)) ∧ ys.length = j ∧ ∀ y ∈ ys, y.length = 1 ∧ OkT y) ⟨(bgd_refl B3).new hD, [], upd_same, rfl, fun y hy => absurd hy (by simp)⟩ ?_ ?_
        · rintro j H4 hj ⟨bg4, ys, eD, ly, hy⟩
          refine ⟨rfl, yes_ite ?_⟩
          obtain ⟨y0, y1, y2, ey⟩ := bg4.bag
          refine ⟨_, rfl, (by show 8 ≤ sizeLine; decide), fun q hq => ?_⟩
          have nqp : q ≠ p := fun z => by
            rw [z, ey] at hq
            cases hq
          refine ⟨p, q, y0, y1, y2, signs, rfl, (upd_ne (Ne.symm nqp)).trans ey, nqp, upd_same, by decide, by decide, fun idx v H5 hv bg5 => ?_⟩
          obtain ⟨z, rfl, z1, z2⟩ := signs_at hv
          have bg35 := (bg4.new (o := .lst signs) hq).trans bg5
          have eD5 := bg5.keep Dl _ nDp ((upd_ne (ne_of_none eD hq)).trans eD)
          refine ⟨_, eD5, ?_, bg35.old hD nDp, ys ++ [z], ?_, ?_, ?_⟩
          · rw [List.length_map, ly]
            exact Nat.lt_of_le_of_lt (show j ≤ 1000 by omega) (by decide)
          · rw [List.map_append]
            exact upd_same
          · rw [List.length_append, ly]
            rfl
          · intro y hyy
            rcases List.mem_append.mp hyy with hyy | hyy
            · exact hy y hyy
            · obtain rfl : y = z := by simpa using hyy
              exact ⟨z1, z2⟩
        · rintro H4 ⟨bg4, ys, eD, ly, hy⟩
          refine ⟨"", Dl, ys, rfl, rfl, .inl (SqL.of eD), ?_, _, B3.drawn bg4, okT_join fun y h => (hy y h).2, rfl⟩
          rw [sum_ones ys fun y h => (hy y h).1, ly]
          have e0 : ("" : Str).length = 0 := by decide +kernel
          rw [e0]
          omega
      rintro σ3 H3 ⟨text, B3, okt, rfl⟩
      refine ⟨fun σ' H' => ∃ number : Int, BagAt H0 H' p ∧ σ' = [some (.ref a), some (.int i), some (.ref p), some (.str text), some (.int number), r5, r6, r7, r8, r9], ?_, ?_⟩
      · obtain ⟨x0, x1, x2, ex⟩ := B3.b
        refine ⟨_, rfl, _, _, rfl, rfl, ⟨by decide, by decide, by decide⟩, p, x0, x1, x2, _, rfl, ex, by decide +kernel, by decide +kernel, fun r H4 h1 h2 bg4 => ?_⟩
        have B4 := B3.drawn bg4
        obtain ⟨y0, y1, y2, ey⟩ := B4.b
        refine ⟨_, rfl, _, _, rfl, rfl, ⟨by decide, by decide, by decide⟩, p, y0, y1, y2, _, rfl, ey, by decide +kernel, by decide +kernel, fun r' H5 h1' h2' bg5 => ?_⟩
        exact ⟨_, _, rfl, rfl, _, B4.drawn bg5, rfl⟩
      rintro σ4 H4 ⟨number, B4, rfl⟩
      refine ⟨fun σ' H' => ∃ (rw : Addr) (rs : List Int), BagAt H0 H' p ∧ H' rw = some (.tup (rs.map V.int)) ∧ rw ≠ p ∧ σ' = [some (.ref a), some (.int i), some (.ref p), some (.str text), some (.int number), some (.ref rw), r6, r7, r8, r9], ?_, ?_⟩
      · obtain ⟨x0, x1, x2, ex⟩ := B4.b
        refine ⟨_, rfl, p, x0, x1, x2, 3, rfl, ex, by decide, by decide, fun r H5 h1 h2 bg5 => ?_⟩
        have B5 := B4.drawn bg5
        refine ⟨_, rfl, by omega, by omega, fun Dl hD => ?_⟩
        have nDp := B5.ne hD
        refine lc_range (lo := 0) (n := r.toNat) (fun j H' => Bgd p H5 H' ∧ ∃ ys : List Int, H' Dl = some (.lst (ys.map V.int)) ∧ ys.length = j) ⟨(bgd_refl B5).new hD, [], upd_same, rfl⟩ ?_ ?_
        · rintro j H6 hj ⟨bg6, ys, eD, ly⟩
          refine ⟨rfl, yes_ite ?_⟩
          obtain ⟨y0, y1, y2, ey⟩ := bg6.bag
          refine ⟨_, rfl, p, y0, y1, y2, 60, rfl, ey, by decide, by decide, fun r' H7 h1' h2' bg7 => ?_⟩
          have bg57 := bg6.trans bg7
          refine ⟨_, _, rfl, rfl, _, bg7.keep Dl _ nDp eD, ?_, bg57.old hD nDp, ys ++ [1 + r'], ?_, ?_⟩
          · rw [List.length_map, ly]
            exact Nat.lt_of_le_of_lt (show j ≤ 1000 by omega) (by decide)
          · rw [List.map_append]
            exact upd_same
          · rw [List.length_append, ly]
            rfl
        · rintro H6 ⟨bg6, ys, eD, ly⟩
          have B6 := B5.drawn bg6
          refine ⟨Dl, _, rfl, .inl ⟨SqL.of eD, fun l hl => ⟨l, ys, B6.drawn ((bgd_refl B6).new hl), upd_same, B6.ne hl, rfl⟩⟩⟩
      rintro σ5 H5 ⟨rw, rs, B5, erw, nrw, rfl⟩
      refine ⟨fun σ' H' => ∃ v : V, BagAt H0 H' p ∧ H' rw = some (.tup (rs.map V.int)) ∧ PointOk H' v ∧ σ' = [some (.ref a), some (.int i), some (.ref p), some (.str text), some (.int number), some (.ref rw), some v, r7, r8, r9], ?_, ?_⟩
      · obtain ⟨x0, x1, x2, ex⟩ := B5.b
        refine ⟨_, rfl, (by show 3 ≤ sizeLine; decide), fun t0 ht0 => ?_⟩
        have n0 := B5.ne ht0
        have bg0 := (bgd_refl B5).new (o := .tup [.int 0, .int 0, .int 1]) ht0
        have ex0 := bg0.bag
        obtain ⟨y0, y1, y2, ey⟩ := ex0
        refine ⟨_, rfl, _, _, rfl, rfl, ⟨by decide, by decide, by decide⟩, p, y0, y1, y2, _, rfl, ey, by decide +kernel, by decide +kernel, fun u1 H6 h1 h2 bg6 => ?_⟩
        obtain ⟨z0, z1, z2, ez⟩ := bg6.bag
        refine ⟨_, rfl, p, z0, z1, z2, 9, rfl, ez, by decide, by decide, fun u2 H7 h3 h4 bg7 => ?_⟩
        have bg57 := bg6.trans bg7
        refine ⟨_, _, rfl, rfl, (by show 3 ≤ sizeLine; decide), fun t1 ht1 => ⟨(by show 3 ≤ sizeLine; decide), fun q hq => ?_⟩⟩
        have bg8 := (bg57.new (o := .tup [.int u1, .int 1, .int (1 + u2)]) ht1)
        have bg9 := bg8.new (o := .lst [.non, .ref t0, .ref t1]) hq
        obtain ⟨w0, w1, w2, ew⟩ := bg9.bag
        have et1 : upd H7 t1 (.tup [.int u1, .int 1, .int (1 + u2)]) t1 = some (.tup [.int u1, .int 1, .int (1 + u2)]) := upd_same
        have n1 : t1 ≠ p := fun z => by
          obtain ⟨c0, c1, c2, ec⟩ := bg57.bag
          rw [z, ec] at ht1
          cases ht1
        have nq : q ≠ p := fun z => by
          obtain ⟨c0, c1, c2, ec⟩ := bg8.bag
          rw [z, ec] at hq
          cases hq
        refine ⟨p, q, w0, w1, w2, [.non, .ref t0, .ref t1], rfl, ew, nq, upd_same, (by show 0 < 3; decide), (by show 3 ≤ 1000; decide), fun idx v H8 hv bgA => ?_⟩
        have all := bg0.trans (bg9.trans bgA)
        refine ⟨v, B5.drawn all, all.keep _ _ nrw erw, ?_, rfl⟩
        have hidx : idx < 3 := (List.getElem?_eq_some_iff.mp hv).1
        have c : idx = 0 ∨ idx = 1 ∨ idx = 2 := by omega
        rcases c with rfl | rfl | rfl
        · cases hv
          exact .inl rfl
        · cases hv
          exact .inr ⟨t0, _, _, _, rfl, (bg9.trans bgA).keep t0 _ n0 upd_same⟩
        · cases hv
          exact .inr ⟨t1, _, _, _, rfl, bgA.keep t1 _ n1 ((upd_ne (ne_of_none et1 hq)).trans et1)⟩
      rintro σ6 H6 ⟨point, B6, erw6, hp6, rfl⟩
      obtain ⟨x0, x1, x2, ex⟩ := B6.b
      refine ⟨_, rfl, _, rfl, RgOk.of_le (by decide) (by decide) (by decide) (by decide), fun q hq => ?_⟩
      have nq := B6.ne hq
      have bgq := (bgd_refl B6).new (o := .lst (rgV 0 26)) hq
      obtain ⟨y0, y1, y2, ey⟩ := bgq.bag
      refine ⟨p, q, y0, y1, y2, rgV 0 26, rfl, ey, nq, upd_same, by decide, fun l ys Hs pm el hl bgs => ?_⟩
      have Bs := B6.drawn (bgq.trans bgs)
      have nrw6 : rw ≠ p := fun z => by
        rw [z, ex] at erw6
        cases erw6
      have erwS := (bgq.trans bgs).keep rw _ nrw6 erw6
      have hpS : PointOk Hs point := by
        rcases hp6 with h | ⟨t, c0, c1, c2, e, q'⟩
        · exact .inl h
        · refine .inr ⟨t, c0, c1, c2, e, (bgq.trans bgs).keep t _ (fun z => ?_) q'⟩
          rw [z, ex] at q'
          cases q'
      refine ⟨l, rfl, ⟨_, SqL.of el⟩, for_list (K := K) (a := l) (xs := ys) (fun j σ' H' => Same Hs H' ∧ ∃ x7 x8 x9 : Option V, σ' = [some (.ref a), some (.int i), some (.ref p), some (.str text), some (.int number), some (.ref rw), some point, x7, x8, x9])
        ⟨Same.refl Hs, r7, r8, r9, rfl⟩ (fun j σ' H' _ h => h.1.seq (SqL.of el)) ?_ ?_⟩
      · rintro j x σ' H7 hx ⟨s7, x7, x8, x9, rfl⟩
        obtain ⟨n, hn, rfl⟩ := which_of (pm.mem_iff.mp (List.mem_of_getElem? hx))
        refine ⟨_, rfl, _, rfl, _, rfl, _, rfl, _, rfl, n, text, number, rw, point, rfl, hn, fun v H8 s8 kv => ?_⟩
        obtain ⟨dp, hdp, l1, l2⟩ := dp_point (K := K) (hpS.same (s7.trans s8))
        have erw8 := (s7.trans s8) _ _ erwS
        have last : ∀ H9, Same H8 H9 → (tIfS (tTest (tOp (rNeD K) (tCall spClsOf [] E0 (tCons (tVar 7) (tCons (tVar 3) (tCons (tVar 4) (tCons (tVar 5) (tCons (tVar 6) tNil)))))) (tCall spDue [] E0 (tCons (tVar 7) tNil)))) (tRet (tC (.bl false))) tNext)
            { nx := fun σ' H' => Same Hs H' ∧ ∃ x7 x8 x9 : Option V, σ' = [some (.ref a), some (.int i), some (.ref p), some (.str text), some (.int number), some (.ref rw), some point, x7, x8, x9], rt := Q, bk := fun _ _ => False, ct := fun _ _ => False }
            [some (.ref a), some (.int i), some (.ref p), some (.str text), some (.int number), some (.ref rw), some point, some (.int n), some v, x9] H9 := fun H9 s9 => by
          refine ⟨_, rfl, _, rfl, _, rfl, _, rfl, _, rfl, n, text, number, rw, point, rfl, hn, fun m1 G1 g1 e1 => ?_⟩
          refine ⟨_, rfl, n, rfl, hn, fun m2 G2 g2 e2 => ?_⟩
          have e1' := g2 _ _ e1
          rw [dues_bools] at e1' e2
          refine ⟨_, _, .lst (SqL.of e1') (dp_bools _), .lst (SqL.of e2) (dp_bools _), shaped_bools _, shaped_bools _, _, rfl, ?_⟩
          rw [SeqAt.eqv_refl _ (SeqAt.canLay_of_shaped (shaped_bools _))]
          exact iteF ⟨((s7.trans s8).trans s9).trans (g1.trans g2), _, _, _, rfl⟩
        refine ⟨_, rfl, _, _, rfl, rfl, _, rfl, ite2 (fun g => ?_) (fun g => ?_)⟩
        · have h13 : 13 ≤ n := by
            have := of_decide_eq_true g
            omega
          refine ⟨_, rfl, _, rfl, _, rfl, _, rfl, _, rfl, n, text, number, rw, point, rfl, h13, hn, fun t G1 g1 kt => ?_⟩
          obtain ⟨v2, et, kv2⟩ := kt
          refine ⟨_, rfl, _, rfl, (by show 2 ≤ sizeLine; decide), fun u hu2 => ?_⟩
          have gu := same_new (o := .tup [.int n, v]) g1 hu2
          have gu1 := same_new (o := .tup [.int n, v]) (Same.refl G1) hu2
          have dp1 := dp_kept (K := K) (rs := rs) (gu _ _ erw8) (hdp _ gu) (kv2.same gu1)
          have dp2 := dp_kept (K := K) (rs := rs) (gu _ _ erw8) (hdp _ gu) (kv.same gu)
          obtain ⟨k1, k2⟩ := lay_kept (i := n) (number := number) (rs := rs) okt l1 l2
          refine ⟨_, _, .tup (SqT.of (gu1 _ _ et)) (.cons (.int _) (.cons dp1 .nil)), .tup (SqT.of upd_same) (.cons (.int _) (.cons dp2 .nil)), shaped_pair k1 k2, shaped_pair k1 k2, _, rfl, ?_⟩
          rw [SeqAt.eqv_refl _ (SeqAt.canLay_of_shaped (shaped_pair k1 k2))]
          exact iteF (last _ gu)
        · exact last H8 (Same.refl H8)
      · rintro σ' H7 ⟨s7, x7, x8, x9, rfl⟩
        exact ⟨Bs.s.trans s7, _, _, _, _, _, _, _, _, _, rfl⟩
end
end Q
set_option Elab.async false
set_option linter.all false
set_option maxRecDepth 100000
set_option maxHeartbeats 8000000
namespace Q
open PySem L2 PySem.OwnX L2H
section
variable {P : Program} {w : World} {K : PySem.W.Frag} {C fI : Addr} {bmB : List Value} {newId B : String}
theorem keeps_name {i : Nat} (SF : StoreFacts B bmB "object.__setattr__" "object") (T : OwnTxt K C fI bmB newId) {qual : Str} (noN : PySem.W.findIn K (.ref C) "name" = some none)
    (fn : IsInit K fI qual (fun a => ∃ p1 p2, a = iArgs [argOf "self" p1, argOf "name" p2]) (fun b => ∃ q1 q2 q3 q4, b = [putSt "name" "name" q1 q2 q3 q4]) (iScope ["self", "name"])) (hp : parOf i = "name") : Keeps P w K C fI 1 (fldOf i) := by
  intro vs us r ln
  match vs, us, r, ln with
  | [v], [u], .cons rv .nil, _ =>
    refine ⟨fun y => if y = "name" then some u else none, fun f => ?_, fun X hl hx hnx hd hq => init_name SF T noN fn X hl hx hnx hd hq⟩
    show RelO (List.lookup f [(parOf i, v)]) _
    rw [hp]
    show RelO (List.lookup f [("name", v)]) (if f = "name" then some u else none)
    by_cases hf : f = "name"
    · subst hf
      rw [if_pos rfl]
      have e : List.lookup ("name" : Str) [(("name" : Str), v)] = some v := by simp [List.lookup]
      rw [e]
      exact rv
    · rw [if_neg hf]
      have q : (f == ("name" : Str)) = false := by simpa using hf
      have e : List.lookup f [(("name" : Str), v)] = none := by simp [List.lookup, q]
      rw [e]
      trivial
theorem keeps_index {i : Nat} (SF : StoreFacts B bmB "object.__setattr__" "object") (T : OwnTxt K C fI bmB newId) {qual : Str} (noN : PySem.W.findIn K (.ref C) "index" = some none)
    (fn : IsInit K fI qual (fun a => ∃ p1 p2, a = iArgs [argOf "self" p1, argOf "index" p2]) (fun b => ∃ q1 q2 q3 q4, b = [putSt "index" "index" q1 q2 q3 q4]) (iScope ["self", "index"])) (hp : parOf i = "index") : Keeps P w K C fI 1 (fldOf i) := by
  intro vs us r ln
  match vs, us, r, ln with
  | [v], [u], .cons rv .nil, _ =>
    refine ⟨fun y => if y = "index" then some u else none, fun f => ?_, fun X hl hx hnx hd hq => init_index SF T noN fn X hl hx hnx hd hq⟩
    show RelO (List.lookup f [(parOf i, v)]) _
    rw [hp]
    show RelO (List.lookup f [("index", v)]) (if f = "index" then some u else none)
    by_cases hf : f = "index"
    · subst hf
      rw [if_pos rfl]
      have e : List.lookup ("index" : Str) [(("index" : Str), v)] = some v := by simp [List.lookup]
      rw [e]
      exact rv
    · rw [if_neg hf]
      have q : (f == ("index" : Str)) = false := by simpa using hf
      have e : List.lookup f [(("index" : Str), v)] = none := by simp [List.lookup, q]
      rw [e]
      trivial
theorem keeps_value {i : Nat} (SF : StoreFacts B bmB "object.__setattr__" "object") (T : OwnTxt K C fI bmB newId) {qual : Str} (noN : PySem.W.findIn K (.ref C) "value" = some none)
    (fn : IsInit K fI qual (fun a => ∃ p1 p2, a = iArgs [argOf "self" p1, argOf "value" p2]) (fun b => ∃ q1 q2 q3 q4, b = [putSt "value" "value" q1 q2 q3 q4]) (iScope ["self", "value"])) (hp : parOf i = "value") : Keeps P w K C fI 1 (fldOf i) := by
  intro vs us r ln
  match vs, us, r, ln with
  | [v], [u], .cons rv .nil, _ =>
    refine ⟨fun y => if y = "value" then some u else none, fun f => ?_, fun X hl hx hnx hd hq => init_value SF T noN fn X hl hx hnx hd hq⟩
    show RelO (List.lookup f [(parOf i, v)]) _
    rw [hp]
    show RelO (List.lookup f [("value", v)]) (if f = "value" then some u else none)
    by_cases hf : f = "value"
    · subst hf
      rw [if_pos rfl]
      have e : List.lookup ("value" : Str) [(("value" : Str), v)] = some v := by simp [List.lookup]
      rw [e]
      exact rv
    · rw [if_neg hf]
      have q : (f == ("value" : Str)) = false := by simpa using hf
      have e : List.lookup f [(("value" : Str), v)] = none := by simp [List.lookup, q]
      rw [e]
      trivial
theorem keeps_limit {i : Nat} (SF : StoreFacts B bmB "object.__setattr__" "object") (T : OwnTxt K C fI bmB newId) {qual : Str} (noN : PySem.W.findIn K (.ref C) "limit" = some none)
    (fn : IsInit K fI qual (fun a => ∃ p1 p2, a = iArgs [argOf "self" p1, argOf "limit" p2]) (fun b => ∃ q1 q2 q3 q4, b = [putSt "limit" "limit" q1 q2 q3 q4]) (iScope ["self", "limit"])) (hp : parOf i = "limit") : Keeps P w K C fI 1 (fldOf i) := by
  intro vs us r ln
  match vs, us, r, ln with
  | [v], [u], .cons rv .nil, _ =>
    refine ⟨fun y => if y = "limit" then some u else none, fun f => ?_, fun X hl hx hnx hd hq => init_limit SF T noN fn X hl hx hnx hd hq⟩
    show RelO (List.lookup f [(parOf i, v)]) _
    rw [hp]
    show RelO (List.lookup f [("limit", v)]) (if f = "limit" then some u else none)
    by_cases hf : f = "limit"
    · subst hf
      rw [if_pos rfl]
      have e : List.lookup ("limit" : Str) [(("limit" : Str), v)] = some v := by simp [List.lookup]
      rw [e]
      exact rv
    · rw [if_neg hf]
      have q : (f == ("limit" : Str)) = false := by simpa using hf
      have e : List.lookup f [(("limit" : Str), v)] = none := by simp [List.lookup, q]
      rw [e]
      trivial
theorem keeps_many {i : Nat} (SF : StoreFacts B bmB "object.__setattr__" "object") (T : OwnTxt K C fI bmB newId) {qual : Str} (noN : PySem.W.findIn K (.ref C) "many" = some none)
    (fn : IsInit K fI qual (fun a => ∃ p1 p2, a = iArgs [argOf "self" p1, argOf "many" p2]) (fun b => ∃ q1 q2 q3 q4, b = [putSt "many" "many" q1 q2 q3 q4]) (iScope ["self", "many"])) (hp : parOf i = "many") : Keeps P w K C fI 1 (fldOf i) := by
  intro vs us r ln
  match vs, us, r, ln with
  | [v], [u], .cons rv .nil, _ =>
    refine ⟨fun y => if y = "many" then some u else none, fun f => ?_, fun X hl hx hnx hd hq => init_many SF T noN fn X hl hx hnx hd hq⟩
    show RelO (List.lookup f [(parOf i, v)]) _
    rw [hp]
    show RelO (List.lookup f [("many", v)]) (if f = "many" then some u else none)
    by_cases hf : f = "many"
    · subst hf
      rw [if_pos rfl]
      have e : List.lookup ("many" : Str) [(("many" : Str), v)] = some v := by simp [List.lookup]
      rw [e]
      exact rv
    · rw [if_neg hf]
      have q : (f == ("many" : Str)) = false := by simpa using hf
      have e : List.lookup f [(("many" : Str), v)] = none := by simp [List.lookup, q]
      rw [e]
      trivial
theorem keeps_broken (SF : StoreFacts B bmB "object.__setattr__" "object") (T : OwnTxt K C fI bmB newId) {qual : Str} (n1 : PySem.W.findIn K (.ref C) "rule_label" = some none) (n2 : PySem.W.findIn K (.ref C) "row_numbers" = some none) (n3 : PySem.W.findIn K (.ref C) "point" = some none)
    (fn : IsInit K fI qual (fun a => ∃ p1 p2 p3 p4, a = iArgs [argOf "self" p1, argOf "label" p2, argOf "rows" p3, argOf "point" p4])
      (fun b => ∃ q1 q2 q3 q4 r1 r2 r3 r4 u1 u2 u3 u4, b = [putSt "rule_label" "label" q1 q2 q3 q4, putSt "row_numbers" "rows" r1 r2 r3 r4, putSt "point" "point" u1 u2 u3 u4]) (iScope ["self", "label", "rows", "point"])) : Keeps P w K C fI 3 (fldOf 25) := by
  intro vs us r ln
  match vs, us, r, ln with
  | [v1, v2, v3], [u1, u2, u3], .cons x1 (.cons x2 (.cons x3 .nil)), _ =>
    refine ⟨m3 u1 u2 u3, fun f => ?_, fun X hl hx hnx hd hq => init_broken SF T n1 n2 n3 fn X hl hx hnx hd hq⟩
    show RelO (List.lookup f [("point", v3), ("row_numbers", v2), ("rule_label", v1)]) (m3 u1 u2 u3 f)
    rw [lookup_put, lookup_put, lookup_put]
    unfold m3
    split
    · exact x3
    · split
      · exact x2
      · split
        · exact x1
        · trivial
end
theorem nodup_inj : ∀ {l : List Nat}, l.Nodup → ∀ {i j : Nat}, i < l.length → j < l.length → l.getD i 0 = l.getD j 0 → i = j
  | [], _, i, _, hi, _, _ => absurd hi (by simp)
  | a :: l, h, 0, 0, _, _, _ => rfl
  | a :: l, h, 0, j + 1, _, hj, e => by
    have hj' : j < l.length := by simpa using hj
    have q : a = l.getD j 0 := e
    have m : l.getD j 0 ∈ l := by
      rw [List.getD_eq_getElem?_getD, List.getElem?_eq_getElem hj']
      exact List.getElem_mem hj'
    exact absurd (q ▸ m) (List.nodup_cons.mp h).1
  | a :: l, h, i + 1, 0, hi, _, e => by
    have hi' : i < l.length := by simpa using hi
    have q : l.getD i 0 = a := e
    have m : l.getD i 0 ∈ l := by
      rw [List.getD_eq_getElem?_getD, List.getElem?_eq_getElem hi']
      exact List.getElem_mem hi'
    exact absurd (q ▸ m) (List.nodup_cons.mp h).1
  | a :: l, h, i + 1, j + 1, hi, hj, e => by
    have ih := nodup_inj (List.nodup_cons.mp h).2 (i := i) (j := j) (by simpa using hi) (by simpa using hj) e
    rw [ih]
section
variable {K : PySem.W.Frag} {C : Addr} {nm q : Str} {N : Addr} {bs bm : List Value} {sn : List Str} {sub : List Value} {ab : Bool} {col : Option Bool} {dd : Option Addr} {k0 k1 k2 k3 k5 : Option Value} {newId : String}
theorem cls_of (e : K.lookup C = some (excClassObj nm q C N bs bm true sn sub ab col dd k0 k1 k2 k3 k5 newId)) : ∃ cd, PySem.W.clsIn K C = some cd ∧ cd.mro = .ref C :: bm := by
  refine ⟨{ name := nm, bases := bs, mro := .ref C :: bm, ns := N, qualname := q, hasDict := true, slotNames := sn, subclasses := sub, abstract := ab, collection := col, hasDel := false }, ?_, rfl⟩
  unfold PySem.W.clsIn
  rw [e]
  all_goals rfl
theorem mro_has (e : K.lookup C = some (excClassObj nm q C N bs bm true sn sub ab col dd k0 k1 k2 k3 k5 newId)) {v : Value} (h : bm.contains v = true) : PySem.W.mroIn K C v = some true := by
  obtain ⟨cd, e1, e2⟩ := cls_of e
  unfold PySem.W.mroIn
  rw [e1, Option.bind_some, e2]
  show some ((Value.ref C :: bm).contains v) = _
  rw [List.contains_cons, h, Bool.or_true]
theorem ask_of (e : K.lookup C = some (excClassObj nm q C N bs bm true sn sub ab col dd k0 k1 k2 k3 k5 newId)) (hb : bm.contains (.type "BaseException") = true) (ho : bm.contains (.type "object") = true)
    (ga : PySem.W.findIn K (.ref C) "__getattribute__" = some (some (.builtin "BaseException.__getattribute__"))) (gg : PySem.W.findIn K (.ref C) "__getattr__" = some none) (cs : PySem.W.findIn K (.ref C) "__class__" = some (some (.builtin "object.__class__")))
    (sg : PySem.W.specialIn K (.builtin "object.__class__") "__get__" = some (some (.builtin "getset_descriptor.__get__"))) (tk : PySem.W.takesIn K (.builtin "object.__class__") = some true) : AskE K C := by
  obtain ⟨cd, e1, e2⟩ := cls_of e
  exact ⟨by rw [e1]; rfl, ga, gg, mro_has e hb, cs, sg, tk, mro_has e ho⟩
theorem own_of {fI : Addr} {bmB : List Value} (e : K.lookup C = some (excClassObj nm q C N bs bm true sn sub ab col dd k0 k1 k2 k3 k5 newId)) (hx : PySem.W.excTail bmB bm = true) (hb : bm.contains (.type "BaseException") = true)
    (sa : PySem.W.findIn K (.ref C) "__setattr__" = some (some (.builtin "object.__setattr__"))) (ga : PySem.W.findIn K (.ref C) "__getattribute__" = some (some (.builtin "BaseException.__getattribute__"))) (gg : PySem.W.findIn K (.ref C) "__getattr__" = some none)
    (iC : PySem.W.findIn K (.ref C) "__init__" = some (some (.ref fI))) (tC : PySem.W.typeIn K (.ref fI) = some (.type "function")) (kC : PySem.W.keepIn K (.ref C) = true) (tyC : PySem.W.typeIn K (.ref C) = some (.type "type")) (hd : PySem.W.hasDictIn K C = true) : OwnTxt K C fI bmB newId :=
  ⟨⟨nm, q, N, bs, bm, sn, sub, ab, col, dd, k0, k1, k2, k3, k5, e, hx⟩, sa, ga, gg, iC, tC, kC, mro_has e hb, tyC, hd⟩
end
theorem all_mk {l : PySem.W.OpenLaw} {w : World} {K : PySem.W.Frag} {h : Heap} {mg : Str → Option Value} {fa : Addr} (XX : K.In h) (GG : h.Ns mainGlobals mg) (hfa : mg "law" = some (.ref fa))
    {c0 N0 : Addr} {nm0 qn0 : Str} {bs0 sb0 : List Value} {sn0 : List Str} {ab0 : Bool} {co0 : Option Bool} {dd0 : Option Addr} {ka0 kb0 kc0 kd0 ke0 : Option Value} {c1 N1 : Addr} {nm1 qn1 : Str} {bs1 sb1 : List Value} {sn1 : List Str} {ab1 : Bool} {co1 : Option Bool} {dd1 : Option Addr} {ka1 kb1 kc1 kd1 ke1 : Option Value} {c2 N2 : Addr} {nm2 qn2 : Str} {bs2 sb2 : List Value} {sn2 : List Str} {ab2 : Bool} {co2 : Option Bool} {dd2 : Option Addr} {ka2 kb2 kc2 kd2 ke2 : Option Value} {c3 N3 : Addr} {nm3 qn3 : Str} {bs3 sb3 : List Value} {sn3 : List Str} {ab3 : Bool} {co3 : Option Bool} {dd3 : Option Addr} {ka3 kb3 kc3 kd3 ke3 : Option Value} {c4 N4 : Addr} {nm4 qn4 : Str} {bs4 sb4 : List Value} {sn4 : List Str} {ab4 : Bool} {co4 : Option Bool} {dd4 : Option Addr} {ka4 kb4 kc4 kd4 ke4 : Option Value} {c5 N5 : Addr} {nm5 qn5 : Str} {bs5 sb5 : List Value} {sn5 : List Str} {ab5 : Bool} {co5 : Option Bool} {dd5 : Option Addr} {ka5 kb5 kc5 kd5 ke5 : Option Value} {c6 N6 : Addr} {nm6 qn6 : Str} {bs6 sb6 : List Value} {sn6 : List Str} {ab6 : Bool} {co6 : Option Bool} {dd6 : Option Addr} {ka6 kb6 kc6 kd6 ke6 : Option Value} {c7 N7 : Addr} {nm7 qn7 : Str} {bs7 sb7 : List Value} {sn7 : List Str} {ab7 : Bool} {co7 : Option Bool} {dd7 : Option Addr} {ka7 kb7 kc7 kd7 ke7 : Option Value} {c8 N8 : Addr} {nm8 qn8 : Str} {bs8 sb8 : List Value} {sn8 : List Str} {ab8 : Bool} {co8 : Option Bool} {dd8 : Option Addr} {ka8 kb8 kc8 kd8 ke8 : Option Value} {c9 N9 : Addr} {nm9 qn9 : Str} {bs9 sb9 : List Value} {sn9 : List Str} {ab9 : Bool} {co9 : Option Bool} {dd9 : Option Addr} {ka9 kb9 kc9 kd9 ke9 : Option Value} {c10 N10 : Addr} {nm10 qn10 : Str} {bs10 sb10 : List Value} {sn10 : List Str} {ab10 : Bool} {co10 : Option Bool} {dd10 : Option Addr} {ka10 kb10 kc10 kd10 ke10 : Option Value} {c11 N11 : Addr} {nm11 qn11 : Str} {bs11 sb11 : List Value} {sn11 : List Str} {ab11 : Bool} {co11 : Option Bool} {dd11 : Option Addr} {ka11 kb11 kc11 kd11 ke11 : Option Value} {c12 N12 : Addr} {nm12 qn12 : Str} {bs12 sb12 : List Value} {sn12 : List Str} {ab12 : Bool} {co12 : Option Bool} {dd12 : Option Addr} {ka12 kb12 kc12 kd12 ke12 : Option Value} {c13 N13 : Addr} {nm13 qn13 : Str} {bs13 sb13 : List Value} {sn13 : List Str} {ab13 : Bool} {co13 : Option Bool} {dd13 : Option Addr} {ka13 kb13 kc13 kd13 ke13 : Option Value} {c14 N14 : Addr} {nm14 qn14 : Str} {bs14 sb14 : List Value} {sn14 : List Str} {ab14 : Bool} {co14 : Option Bool} {dd14 : Option Addr} {ka14 kb14 kc14 kd14 ke14 : Option Value} {c15 N15 : Addr} {nm15 qn15 : Str} {bs15 sb15 : List Value} {sn15 : List Str} {ab15 : Bool} {co15 : Option Bool} {dd15 : Option Addr} {ka15 kb15 kc15 kd15 ke15 : Option Value} {c16 N16 : Addr} {nm16 qn16 : Str} {bs16 sb16 : List Value} {sn16 : List Str} {ab16 : Bool} {co16 : Option Bool} {dd16 : Option Addr} {ka16 kb16 kc16 kd16 ke16 : Option Value} {c17 N17 : Addr} {nm17 qn17 : Str} {bs17 sb17 : List Value} {sn17 : List Str} {ab17 : Bool} {co17 : Option Bool} {dd17 : Option Addr} {ka17 kb17 kc17 kd17 ke17 : Option Value} {c18 N18 : Addr} {nm18 qn18 : Str} {bs18 sb18 : List Value} {sn18 : List Str} {ab18 : Bool} {co18 : Option Bool} {dd18 : Option Addr} {ka18 kb18 kc18 kd18 ke18 : Option Value} {f18 : Addr} {oc18 dc18 pm18 cd18 ct18 : Value} {od18 an18 : Option Addr} {sl18 : Array (Option Value)} {pa18 pb18 qa18 qb18 qc18 qd18 : Pos} {c19 N19 : Addr} {nm19 qn19 : Str} {bs19 sb19 : List Value} {sn19 : List Str} {ab19 : Bool} {co19 : Option Bool} {dd19 : Option Addr} {ka19 kb19 kc19 kd19 ke19 : Option Value} {f19 : Addr} {oc19 dc19 pm19 cd19 ct19 : Value} {od19 an19 : Option Addr} {sl19 : Array (Option Value)} {pa19 pb19 qa19 qb19 qc19 qd19 : Pos} {c20 N20 : Addr} {nm20 qn20 : Str} {bs20 sb20 : List Value} {sn20 : List Str} {ab20 : Bool} {co20 : Option Bool} {dd20 : Option Addr} {ka20 kb20 kc20 kd20 ke20 : Option Value} {f20 : Addr} {oc20 dc20 pm20 cd20 ct20 : Value} {od20 an20 : Option Addr} {sl20 : Array (Option Value)} {pa20 pb20 qa20 qb20 qc20 qd20 : Pos} {c21 N21 : Addr} {nm21 qn21 : Str} {bs21 sb21 : List Value} {sn21 : List Str} {ab21 : Bool} {co21 : Option Bool} {dd21 : Option Addr} {ka21 kb21 kc21 kd21 ke21 : Option Value} {f21 : Addr} {oc21 dc21 pm21 cd21 ct21 : Value} {od21 an21 : Option Addr} {sl21 : Array (Option Value)} {pa21 pb21 qa21 qb21 qc21 qd21 : Pos} {c22 N22 : Addr} {nm22 qn22 : Str} {bs22 sb22 : List Value} {sn22 : List Str} {ab22 : Bool} {co22 : Option Bool} {dd22 : Option Addr} {ka22 kb22 kc22 kd22 ke22 : Option Value} {f22 : Addr} {oc22 dc22 pm22 cd22 ct22 : Value} {od22 an22 : Option Addr} {sl22 : Array (Option Value)} {pa22 pb22 qa22 qb22 qc22 qd22 : Pos} {c23 N23 : Addr} {nm23 qn23 : Str} {bs23 sb23 : List Value} {sn23 : List Str} {ab23 : Bool} {co23 : Option Bool} {dd23 : Option Addr} {ka23 kb23 kc23 kd23 ke23 : Option Value} {f23 : Addr} {oc23 dc23 pm23 cd23 ct23 : Value} {od23 an23 : Option Addr} {sl23 : Array (Option Value)} {pa23 pb23 qa23 qb23 qc23 qd23 : Pos} {c24 N24 : Addr} {nm24 qn24 : Str} {bs24 sb24 : List Value} {sn24 : List Str} {ab24 : Bool} {co24 : Option Bool} {dd24 : Option Addr} {ka24 kb24 kc24 kd24 ke24 : Option Value} {f24 : Addr} {oc24 dc24 pm24 cd24 ct24 : Value} {od24 an24 : Option Addr} {sl24 : Array (Option Value)} {pa24 pb24 qa24 qb24 qc24 qd24 : Pos} {c25 N25 : Addr} {nm25 qn25 : Str} {bs25 sb25 : List Value} {sn25 : List Str} {ab25 : Bool} {co25 : Option Bool} {dd25 : Option Addr} {ka25 kb25 kc25 kd25 ke25 : Option Value} {f25 : Addr} {oc25 dc25 pm25 cd25 ct25 : Value} {od25 an25 : Option Addr} {sl25 : Array (Option Value)} {pa25 pb25 pc25 pd25 qa25 qb25 qc25 qd25 ra25 rb25 rc25 rd25 ua25 ub25 uc25 ud25 : Pos} {g28 : Addr} {oc28 kV28 dc28 pm28 cd28 ct28 : Value} {od28 an28 : Option Addr} {sl28 : Array (Option Value)} {g29 : Addr} {oc29 kV29 dc29 pm29 cd29 ct29 : Value} {od29 an29 : Option Addr} {sl29 : Array (Option Value)} {g30 : Addr} {oc30 kV30 dc30 pm30 cd30 ct30 : Value} {od30 an30 : Option Addr} {sl30 : Array (Option Value)} {g31 : Addr} {oc31 kV31 dc31 pm31 cd31 ct31 : Value} {od31 an31 : Option Addr} {sl31 : Array (Option Value)} {g32 : Addr} {oc32 kV32 dc32 pm32 cd32 ct32 : Value} {od32 an32 : Option Addr} {sl32 : Array (Option Value)} {g33 : Addr} {oc33 kV33 dc33 pm33 cd33 ct33 : Value} {od33 an33 : Option Addr} {sl33 : Array (Option Value)} {g34 : Addr} {oc34 kV34 dc34 pm34 cd34 ct34 : Value} {od34 an34 : Option Addr} {sl34 : Array (Option Value)} {g35 : Addr} {oc35 kV35 dc35 pm35 cd35 ct35 : Value} {od35 an35 : Option Addr} {sl35 : Array (Option Value)} {g36 : Addr} {oc36 kV36 dc36 pm36 cd36 ct36 : Value} {od36 an36 : Option Addr} {sl36 : Array (Option Value)} {g37 : Addr} {oc37 kV37 dc37 pm37 cd37 ct37 : Value} {od37 an37 : Option Addr} {sl37 : Array (Option Value)} {g38 : Addr} {oc38 kV38 dc38 pm38 cd38 ct38 : Value} {od38 an38 : Option Addr} {sl38 : Array (Option Value)} {g39 : Addr} {oc39 kV39 dc39 pm39 cd39 ct39 : Value} {od39 an39 : Option Addr} {sl39 : Array (Option Value)}
    (A0 : PySem.W.nsIn K mainGlobals "WhereError" = some (some (.ref c0)))
    (X0 : K.lookup c0 = some (excClassObj nm0 qn0 c0 N0 bs0 [.type "ValueError", .type "Exception", .type "BaseException", .type "object"] true sn0 sb0 ab0 co0 dd0 ka0 kb0 kc0 kd0 ke0 "ValueError.__new__"))
    (G0 : PySem.W.findIn K (.ref c0) "__getattribute__" = some (some (.builtin "BaseException.__getattribute__")))
    (H0 : PySem.W.findIn K (.ref c0) "__getattr__" = some none)
    (Z0 : PySem.W.findIn K (.ref c0) "__class__" = some (some (.builtin "object.__class__")))
    (T0 : PySem.W.typeIn K (.ref c0) = some (.type "type"))
    (K0 : PySem.W.keepIn K (.ref c0) = true)
    (P0 : PySem.W.excIn K c0 [.type "ValueError", .type "Exception", .type "BaseException", .type "object"] "ValueError.__new__" = true)
    (A1 : PySem.W.nsIn K mainGlobals "InvalidPoint" = some (some (.ref c1)))
    (X1 : K.lookup c1 = some (excClassObj nm1 qn1 c1 N1 bs1 (.ref c0 :: [.type "ValueError", .type "Exception", .type "BaseException", .type "object"]) true sn1 sb1 ab1 co1 dd1 ka1 kb1 kc1 kd1 ke1 "ValueError.__new__"))
    (G1 : PySem.W.findIn K (.ref c1) "__getattribute__" = some (some (.builtin "BaseException.__getattribute__")))
    (H1 : PySem.W.findIn K (.ref c1) "__getattr__" = some none)
    (Z1 : PySem.W.findIn K (.ref c1) "__class__" = some (some (.builtin "object.__class__")))
    (T1 : PySem.W.typeIn K (.ref c1) = some (.type "type"))
    (K1 : PySem.W.keepIn K (.ref c1) = true)
    (P1 : PySem.W.excIn K c1 [.type "ValueError", .type "Exception", .type "BaseException", .type "object"] "ValueError.__new__" = true)
    (A2 : PySem.W.nsIn K mainGlobals "InvalidShape" = some (some (.ref c2)))
    (X2 : K.lookup c2 = some (excClassObj nm2 qn2 c2 N2 bs2 (.ref c0 :: [.type "ValueError", .type "Exception", .type "BaseException", .type "object"]) true sn2 sb2 ab2 co2 dd2 ka2 kb2 kc2 kd2 ke2 "ValueError.__new__"))
    (G2 : PySem.W.findIn K (.ref c2) "__getattribute__" = some (some (.builtin "BaseException.__getattribute__")))
    (H2 : PySem.W.findIn K (.ref c2) "__getattr__" = some none)
    (Z2 : PySem.W.findIn K (.ref c2) "__class__" = some (some (.builtin "object.__class__")))
    (T2 : PySem.W.typeIn K (.ref c2) = some (.type "type"))
    (K2 : PySem.W.keepIn K (.ref c2) = true)
    (P2 : PySem.W.excIn K c2 [.type "ValueError", .type "Exception", .type "BaseException", .type "object"] "ValueError.__new__" = true)
    (A3 : PySem.W.nsIn K mainGlobals "InvalidCell" = some (some (.ref c3)))
    (X3 : K.lookup c3 = some (excClassObj nm3 qn3 c3 N3 bs3 (.ref c0 :: [.type "ValueError", .type "Exception", .type "BaseException", .type "object"]) true sn3 sb3 ab3 co3 dd3 ka3 kb3 kc3 kd3 ke3 "ValueError.__new__"))
    (G3 : PySem.W.findIn K (.ref c3) "__getattribute__" = some (some (.builtin "BaseException.__getattribute__")))
    (H3 : PySem.W.findIn K (.ref c3) "__getattr__" = some none)
    (Z3 : PySem.W.findIn K (.ref c3) "__class__" = some (some (.builtin "object.__class__")))
    (T3 : PySem.W.typeIn K (.ref c3) = some (.type "type"))
    (K3 : PySem.W.keepIn K (.ref c3) = true)
    (P3 : PySem.W.excIn K c3 [.type "ValueError", .type "Exception", .type "BaseException", .type "object"] "ValueError.__new__" = true)
    (A4 : PySem.W.nsIn K mainGlobals "InvalidDrawing" = some (some (.ref c4)))
    (X4 : K.lookup c4 = some (excClassObj nm4 qn4 c4 N4 bs4 (.ref c0 :: [.type "ValueError", .type "Exception", .type "BaseException", .type "object"]) true sn4 sb4 ab4 co4 dd4 ka4 kb4 kc4 kd4 ke4 "ValueError.__new__"))
    (G4 : PySem.W.findIn K (.ref c4) "__getattribute__" = some (some (.builtin "BaseException.__getattribute__")))
    (H4 : PySem.W.findIn K (.ref c4) "__getattr__" = some none)
    (Z4 : PySem.W.findIn K (.ref c4) "__class__" = some (some (.builtin "object.__class__")))
    (T4 : PySem.W.typeIn K (.ref c4) = some (.type "type"))
    (K4 : PySem.W.keepIn K (.ref c4) = true)
    (P4 : PySem.W.excIn K c4 [.type "ValueError", .type "Exception", .type "BaseException", .type "object"] "ValueError.__new__" = true)
    (A5 : PySem.W.nsIn K mainGlobals "InvalidMap" = some (some (.ref c5)))
    (X5 : K.lookup c5 = some (excClassObj nm5 qn5 c5 N5 bs5 (.ref c0 :: [.type "ValueError", .type "Exception", .type "BaseException", .type "object"]) true sn5 sb5 ab5 co5 dd5 ka5 kb5 kc5 kd5 ke5 "ValueError.__new__"))
    (G5 : PySem.W.findIn K (.ref c5) "__getattribute__" = some (some (.builtin "BaseException.__getattribute__")))
    (H5 : PySem.W.findIn K (.ref c5) "__getattr__" = some none)
    (Z5 : PySem.W.findIn K (.ref c5) "__class__" = some (some (.builtin "object.__class__")))
    (T5 : PySem.W.typeIn K (.ref c5) = some (.type "type"))
    (K5 : PySem.W.keepIn K (.ref c5) = true)
    (P5 : PySem.W.excIn K c5 [.type "ValueError", .type "Exception", .type "BaseException", .type "object"] "ValueError.__new__" = true)
    (A6 : PySem.W.nsIn K mainGlobals "InvalidLayer" = some (some (.ref c6)))
    (X6 : K.lookup c6 = some (excClassObj nm6 qn6 c6 N6 bs6 (.ref c0 :: [.type "ValueError", .type "Exception", .type "BaseException", .type "object"]) true sn6 sb6 ab6 co6 dd6 ka6 kb6 kc6 kd6 ke6 "ValueError.__new__"))
    (G6 : PySem.W.findIn K (.ref c6) "__getattribute__" = some (some (.builtin "BaseException.__getattribute__")))
    (H6 : PySem.W.findIn K (.ref c6) "__getattr__" = some none)
    (Z6 : PySem.W.findIn K (.ref c6) "__class__" = some (some (.builtin "object.__class__")))
    (T6 : PySem.W.typeIn K (.ref c6) = some (.type "type"))
    (K6 : PySem.W.keepIn K (.ref c6) = true)
    (P6 : PySem.W.excIn K c6 [.type "ValueError", .type "Exception", .type "BaseException", .type "object"] "ValueError.__new__" = true)
    (A7 : PySem.W.nsIn K mainGlobals "InvalidArcs" = some (some (.ref c7)))
    (X7 : K.lookup c7 = some (excClassObj nm7 qn7 c7 N7 bs7 (.ref c0 :: [.type "ValueError", .type "Exception", .type "BaseException", .type "object"]) true sn7 sb7 ab7 co7 dd7 ka7 kb7 kc7 kd7 ke7 "ValueError.__new__"))
    (G7 : PySem.W.findIn K (.ref c7) "__getattribute__" = some (some (.builtin "BaseException.__getattribute__")))
    (H7 : PySem.W.findIn K (.ref c7) "__getattr__" = some none)
    (Z7 : PySem.W.findIn K (.ref c7) "__class__" = some (some (.builtin "object.__class__")))
    (T7 : PySem.W.typeIn K (.ref c7) = some (.type "type"))
    (K7 : PySem.W.keepIn K (.ref c7) = true)
    (P7 : PySem.W.excIn K c7 [.type "ValueError", .type "Exception", .type "BaseException", .type "object"] "ValueError.__new__" = true)
    (A8 : PySem.W.nsIn K mainGlobals "InvalidBox" = some (some (.ref c8)))
    (X8 : K.lookup c8 = some (excClassObj nm8 qn8 c8 N8 bs8 (.ref c0 :: [.type "ValueError", .type "Exception", .type "BaseException", .type "object"]) true sn8 sb8 ab8 co8 dd8 ka8 kb8 kc8 kd8 ke8 "ValueError.__new__"))
    (G8 : PySem.W.findIn K (.ref c8) "__getattribute__" = some (some (.builtin "BaseException.__getattribute__")))
    (H8 : PySem.W.findIn K (.ref c8) "__getattr__" = some none)
    (Z8 : PySem.W.findIn K (.ref c8) "__class__" = some (some (.builtin "object.__class__")))
    (T8 : PySem.W.typeIn K (.ref c8) = some (.type "type"))
    (K8 : PySem.W.keepIn K (.ref c8) = true)
    (P8 : PySem.W.excIn K c8 [.type "ValueError", .type "Exception", .type "BaseException", .type "object"] "ValueError.__new__" = true)
    (A9 : PySem.W.nsIn K mainGlobals "InvalidName" = some (some (.ref c9)))
    (X9 : K.lookup c9 = some (excClassObj nm9 qn9 c9 N9 bs9 (.ref c0 :: [.type "ValueError", .type "Exception", .type "BaseException", .type "object"]) true sn9 sb9 ab9 co9 dd9 ka9 kb9 kc9 kd9 ke9 "ValueError.__new__"))
    (G9 : PySem.W.findIn K (.ref c9) "__getattribute__" = some (some (.builtin "BaseException.__getattribute__")))
    (H9 : PySem.W.findIn K (.ref c9) "__getattr__" = some none)
    (Z9 : PySem.W.findIn K (.ref c9) "__class__" = some (some (.builtin "object.__class__")))
    (T9 : PySem.W.typeIn K (.ref c9) = some (.type "type"))
    (K9 : PySem.W.keepIn K (.ref c9) = true)
    (P9 : PySem.W.excIn K c9 [.type "ValueError", .type "Exception", .type "BaseException", .type "object"] "ValueError.__new__" = true)
    (A10 : PySem.W.nsIn K mainGlobals "InvalidTree" = some (some (.ref c10)))
    (X10 : K.lookup c10 = some (excClassObj nm10 qn10 c10 N10 bs10 (.ref c0 :: [.type "ValueError", .type "Exception", .type "BaseException", .type "object"]) true sn10 sb10 ab10 co10 dd10 ka10 kb10 kc10 kd10 ke10 "ValueError.__new__"))
    (G10 : PySem.W.findIn K (.ref c10) "__getattribute__" = some (some (.builtin "BaseException.__getattribute__")))
    (H10 : PySem.W.findIn K (.ref c10) "__getattr__" = some none)
    (Z10 : PySem.W.findIn K (.ref c10) "__class__" = some (some (.builtin "object.__class__")))
    (T10 : PySem.W.typeIn K (.ref c10) = some (.type "type"))
    (K10 : PySem.W.keepIn K (.ref c10) = true)
    (P10 : PySem.W.excIn K c10 [.type "ValueError", .type "Exception", .type "BaseException", .type "object"] "ValueError.__new__" = true)
    (A11 : PySem.W.nsIn K mainGlobals "InvalidTable" = some (some (.ref c11)))
    (X11 : K.lookup c11 = some (excClassObj nm11 qn11 c11 N11 bs11 (.ref c0 :: [.type "ValueError", .type "Exception", .type "BaseException", .type "object"]) true sn11 sb11 ab11 co11 dd11 ka11 kb11 kc11 kd11 ke11 "ValueError.__new__"))
    (G11 : PySem.W.findIn K (.ref c11) "__getattribute__" = some (some (.builtin "BaseException.__getattribute__")))
    (H11 : PySem.W.findIn K (.ref c11) "__getattr__" = some none)
    (Z11 : PySem.W.findIn K (.ref c11) "__class__" = some (some (.builtin "object.__class__")))
    (T11 : PySem.W.typeIn K (.ref c11) = some (.type "type"))
    (K11 : PySem.W.keepIn K (.ref c11) = true)
    (P11 : PySem.W.excIn K c11 [.type "ValueError", .type "Exception", .type "BaseException", .type "object"] "ValueError.__new__" = true)
    (A12 : PySem.W.nsIn K mainGlobals "InvalidRow" = some (some (.ref c12)))
    (X12 : K.lookup c12 = some (excClassObj nm12 qn12 c12 N12 bs12 (.ref c0 :: [.type "ValueError", .type "Exception", .type "BaseException", .type "object"]) true sn12 sb12 ab12 co12 dd12 ka12 kb12 kc12 kd12 ke12 "ValueError.__new__"))
    (G12 : PySem.W.findIn K (.ref c12) "__getattribute__" = some (some (.builtin "BaseException.__getattribute__")))
    (H12 : PySem.W.findIn K (.ref c12) "__getattr__" = some none)
    (Z12 : PySem.W.findIn K (.ref c12) "__class__" = some (some (.builtin "object.__class__")))
    (T12 : PySem.W.typeIn K (.ref c12) = some (.type "type"))
    (K12 : PySem.W.keepIn K (.ref c12) = true)
    (P12 : PySem.W.excIn K c12 [.type "ValueError", .type "Exception", .type "BaseException", .type "object"] "ValueError.__new__" = true)
    (A13 : PySem.W.nsIn K mainGlobals "InvalidCondition" = some (some (.ref c13)))
    (X13 : K.lookup c13 = some (excClassObj nm13 qn13 c13 N13 bs13 (.ref c0 :: [.type "ValueError", .type "Exception", .type "BaseException", .type "object"]) true sn13 sb13 ab13 co13 dd13 ka13 kb13 kc13 kd13 ke13 "ValueError.__new__"))
    (G13 : PySem.W.findIn K (.ref c13) "__getattribute__" = some (some (.builtin "BaseException.__getattribute__")))
    (H13 : PySem.W.findIn K (.ref c13) "__getattr__" = some none)
    (Z13 : PySem.W.findIn K (.ref c13) "__class__" = some (some (.builtin "object.__class__")))
    (T13 : PySem.W.typeIn K (.ref c13) = some (.type "type"))
    (K13 : PySem.W.keepIn K (.ref c13) = true)
    (P13 : PySem.W.excIn K c13 [.type "ValueError", .type "Exception", .type "BaseException", .type "object"] "ValueError.__new__" = true)
    (A14 : PySem.W.nsIn K mainGlobals "InvalidQuestion" = some (some (.ref c14)))
    (X14 : K.lookup c14 = some (excClassObj nm14 qn14 c14 N14 bs14 (.ref c0 :: [.type "ValueError", .type "Exception", .type "BaseException", .type "object"]) true sn14 sb14 ab14 co14 dd14 ka14 kb14 kc14 kd14 ke14 "ValueError.__new__"))
    (G14 : PySem.W.findIn K (.ref c14) "__getattribute__" = some (some (.builtin "BaseException.__getattribute__")))
    (H14 : PySem.W.findIn K (.ref c14) "__getattr__" = some none)
    (Z14 : PySem.W.findIn K (.ref c14) "__class__" = some (some (.builtin "object.__class__")))
    (T14 : PySem.W.typeIn K (.ref c14) = some (.type "type"))
    (K14 : PySem.W.keepIn K (.ref c14) = true)
    (P14 : PySem.W.excIn K c14 [.type "ValueError", .type "Exception", .type "BaseException", .type "object"] "ValueError.__new__" = true)
    (A15 : PySem.W.nsIn K mainGlobals "InvalidPlan" = some (some (.ref c15)))
    (X15 : K.lookup c15 = some (excClassObj nm15 qn15 c15 N15 bs15 (.ref c0 :: [.type "ValueError", .type "Exception", .type "BaseException", .type "object"]) true sn15 sb15 ab15 co15 dd15 ka15 kb15 kc15 kd15 ke15 "ValueError.__new__"))
    (G15 : PySem.W.findIn K (.ref c15) "__getattribute__" = some (some (.builtin "BaseException.__getattribute__")))
    (H15 : PySem.W.findIn K (.ref c15) "__getattr__" = some none)
    (Z15 : PySem.W.findIn K (.ref c15) "__class__" = some (some (.builtin "object.__class__")))
    (T15 : PySem.W.typeIn K (.ref c15) = some (.type "type"))
    (K15 : PySem.W.keepIn K (.ref c15) = true)
    (P15 : PySem.W.excIn K c15 [.type "ValueError", .type "Exception", .type "BaseException", .type "object"] "ValueError.__new__" = true)
    (A16 : PySem.W.nsIn K mainGlobals "InvalidRule" = some (some (.ref c16)))
    (X16 : K.lookup c16 = some (excClassObj nm16 qn16 c16 N16 bs16 (.ref c0 :: [.type "ValueError", .type "Exception", .type "BaseException", .type "object"]) true sn16 sb16 ab16 co16 dd16 ka16 kb16 kc16 kd16 ke16 "ValueError.__new__"))
    (G16 : PySem.W.findIn K (.ref c16) "__getattribute__" = some (some (.builtin "BaseException.__getattribute__")))
    (H16 : PySem.W.findIn K (.ref c16) "__getattr__" = some none)
    (Z16 : PySem.W.findIn K (.ref c16) "__class__" = some (some (.builtin "object.__class__")))
    (T16 : PySem.W.typeIn K (.ref c16) = some (.type "type"))
    (K16 : PySem.W.keepIn K (.ref c16) = true)
    (P16 : PySem.W.excIn K c16 [.type "ValueError", .type "Exception", .type "BaseException", .type "object"] "ValueError.__new__" = true)
    (A17 : PySem.W.nsIn K mainGlobals "InvalidOperation" = some (some (.ref c17)))
    (X17 : K.lookup c17 = some (excClassObj nm17 qn17 c17 N17 bs17 (.ref c0 :: [.type "ValueError", .type "Exception", .type "BaseException", .type "object"]) true sn17 sb17 ab17 co17 dd17 ka17 kb17 kc17 kd17 ke17 "ValueError.__new__"))
    (G17 : PySem.W.findIn K (.ref c17) "__getattribute__" = some (some (.builtin "BaseException.__getattribute__")))
    (H17 : PySem.W.findIn K (.ref c17) "__getattr__" = some none)
    (Z17 : PySem.W.findIn K (.ref c17) "__class__" = some (some (.builtin "object.__class__")))
    (T17 : PySem.W.typeIn K (.ref c17) = some (.type "type"))
    (K17 : PySem.W.keepIn K (.ref c17) = true)
    (P17 : PySem.W.excIn K c17 [.type "ValueError", .type "Exception", .type "BaseException", .type "object"] "ValueError.__new__" = true)
    (A18 : PySem.W.nsIn K mainGlobals "TakenName" = some (some (.ref c18)))
    (X18 : K.lookup c18 = some (excClassObj nm18 qn18 c18 N18 bs18 (.ref c0 :: [.type "ValueError", .type "Exception", .type "BaseException", .type "object"]) true sn18 sb18 ab18 co18 dd18 ka18 kb18 kc18 kd18 ke18 "ValueError.__new__"))
    (G18 : PySem.W.findIn K (.ref c18) "__getattribute__" = some (some (.builtin "BaseException.__getattribute__")))
    (H18 : PySem.W.findIn K (.ref c18) "__getattr__" = some none)
    (Z18 : PySem.W.findIn K (.ref c18) "__class__" = some (some (.builtin "object.__class__")))
    (T18 : PySem.W.typeIn K (.ref c18) = some (.type "type"))
    (K18 : PySem.W.keepIn K (.ref c18) = true)
    (S18 : PySem.W.findIn K (.ref c18) "__setattr__" = some (some (.builtin "object.__setattr__")))
    (I18 : PySem.W.findIn K (.ref c18) "__init__" = some (some (.ref f18)))
    (F18 : PySem.W.typeIn K (.ref f18) = some (.type "function"))
    (L18 : K.lookup f18 = some ⟨oc18, od18, .func (PySem.W.fnOf "__init__" "TakenName.__init__" (iArgs [argOf "self" pa18, argOf "name" pb18]) [putSt "name" "name" qa18 qb18 qc18 qd18] (iScope ["self", "name"]) .none .none dc18 pm18 an18 cd18 ct18), sl18⟩)
    (D18 : PySem.W.codeIn K cd18 "TakenName.__init__" = true)
    (Y18 : PySem.W.hasDictIn K c18 = true)
    (N18x : PySem.W.findIn K (.ref c18) "name" = some none)
    (A19 : PySem.W.nsIn K mainGlobals "ParseError" = some (some (.ref c19)))
    (X19 : K.lookup c19 = some (excClassObj nm19 qn19 c19 N19 bs19 (.ref c0 :: [.type "ValueError", .type "Exception", .type "BaseException", .type "object"]) true sn19 sb19 ab19 co19 dd19 ka19 kb19 kc19 kd19 ke19 "ValueError.__new__"))
    (G19 : PySem.W.findIn K (.ref c19) "__getattribute__" = some (some (.builtin "BaseException.__getattribute__")))
    (H19 : PySem.W.findIn K (.ref c19) "__getattr__" = some none)
    (Z19 : PySem.W.findIn K (.ref c19) "__class__" = some (some (.builtin "object.__class__")))
    (T19 : PySem.W.typeIn K (.ref c19) = some (.type "type"))
    (K19 : PySem.W.keepIn K (.ref c19) = true)
    (S19 : PySem.W.findIn K (.ref c19) "__setattr__" = some (some (.builtin "object.__setattr__")))
    (I19 : PySem.W.findIn K (.ref c19) "__init__" = some (some (.ref f19)))
    (F19 : PySem.W.typeIn K (.ref f19) = some (.type "function"))
    (L19 : K.lookup f19 = some ⟨oc19, od19, .func (PySem.W.fnOf "__init__" "ParseError.__init__" (iArgs [argOf "self" pa19, argOf "index" pb19]) [putSt "index" "index" qa19 qb19 qc19 qd19] (iScope ["self", "index"]) .none .none dc19 pm19 an19 cd19 ct19), sl19⟩)
    (D19 : PySem.W.codeIn K cd19 "ParseError.__init__" = true)
    (Y19 : PySem.W.hasDictIn K c19 = true)
    (N19x : PySem.W.findIn K (.ref c19) "index" = some none)
    (A20 : PySem.W.nsIn K mainGlobals "InvalidNumber" = some (some (.ref c20)))
    (X20 : K.lookup c20 = some (excClassObj nm20 qn20 c20 N20 bs20 [.type "IndexError", .type "LookupError", .type "Exception", .type "BaseException", .type "object"] true sn20 sb20 ab20 co20 dd20 ka20 kb20 kc20 kd20 ke20 "IndexError.__new__"))
    (G20 : PySem.W.findIn K (.ref c20) "__getattribute__" = some (some (.builtin "BaseException.__getattribute__")))
    (H20 : PySem.W.findIn K (.ref c20) "__getattr__" = some none)
    (Z20 : PySem.W.findIn K (.ref c20) "__class__" = some (some (.builtin "object.__class__")))
    (T20 : PySem.W.typeIn K (.ref c20) = some (.type "type"))
    (K20 : PySem.W.keepIn K (.ref c20) = true)
    (S20 : PySem.W.findIn K (.ref c20) "__setattr__" = some (some (.builtin "object.__setattr__")))
    (I20 : PySem.W.findIn K (.ref c20) "__init__" = some (some (.ref f20)))
    (F20 : PySem.W.typeIn K (.ref f20) = some (.type "function"))
    (L20 : K.lookup f20 = some ⟨oc20, od20, .func (PySem.W.fnOf "__init__" "InvalidNumber.__init__" (iArgs [argOf "self" pa20, argOf "value" pb20]) [putSt "value" "value" qa20 qb20 qc20 qd20] (iScope ["self", "value"]) .none .none dc20 pm20 an20 cd20 ct20), sl20⟩)
    (D20 : PySem.W.codeIn K cd20 "InvalidNumber.__init__" = true)
    (Y20 : PySem.W.hasDictIn K c20 = true)
    (N20x : PySem.W.findIn K (.ref c20) "value" = some none)
    (A21 : PySem.W.nsIn K mainGlobals "UnknownName" = some (some (.ref c21)))
    (X21 : K.lookup c21 = some (excClassObj nm21 qn21 c21 N21 bs21 [.type "KeyError", .type "LookupError", .type "Exception", .type "BaseException", .type "object"] true sn21 sb21 ab21 co21 dd21 ka21 kb21 kc21 kd21 ke21 "LookupError.__new__"))
    (G21 : PySem.W.findIn K (.ref c21) "__getattribute__" = some (some (.builtin "BaseException.__getattribute__")))
    (H21 : PySem.W.findIn K (.ref c21) "__getattr__" = some none)
    (Z21 : PySem.W.findIn K (.ref c21) "__class__" = some (some (.builtin "object.__class__")))
    (T21 : PySem.W.typeIn K (.ref c21) = some (.type "type"))
    (K21 : PySem.W.keepIn K (.ref c21) = true)
    (S21 : PySem.W.findIn K (.ref c21) "__setattr__" = some (some (.builtin "object.__setattr__")))
    (I21 : PySem.W.findIn K (.ref c21) "__init__" = some (some (.ref f21)))
    (F21 : PySem.W.typeIn K (.ref f21) = some (.type "function"))
    (L21 : K.lookup f21 = some ⟨oc21, od21, .func (PySem.W.fnOf "__init__" "UnknownName.__init__" (iArgs [argOf "self" pa21, argOf "name" pb21]) [putSt "name" "name" qa21 qb21 qc21 qd21] (iScope ["self", "name"]) .none .none dc21 pm21 an21 cd21 ct21), sl21⟩)
    (D21 : PySem.W.codeIn K cd21 "UnknownName.__init__" = true)
    (Y21 : PySem.W.hasDictIn K c21 = true)
    (N21x : PySem.W.findIn K (.ref c21) "name" = some none)
    (A22 : PySem.W.nsIn K mainGlobals "TooMany" = some (some (.ref c22)))
    (X22 : K.lookup c22 = some (excClassObj nm22 qn22 c22 N22 bs22 [.type "OverflowError", .type "ArithmeticError", .type "Exception", .type "BaseException", .type "object"] true sn22 sb22 ab22 co22 dd22 ka22 kb22 kc22 kd22 ke22 "OverflowError.__new__"))
    (G22 : PySem.W.findIn K (.ref c22) "__getattribute__" = some (some (.builtin "BaseException.__getattribute__")))
    (H22 : PySem.W.findIn K (.ref c22) "__getattr__" = some none)
    (Z22 : PySem.W.findIn K (.ref c22) "__class__" = some (some (.builtin "object.__class__")))
    (T22 : PySem.W.typeIn K (.ref c22) = some (.type "type"))
    (K22 : PySem.W.keepIn K (.ref c22) = true)
    (S22 : PySem.W.findIn K (.ref c22) "__setattr__" = some (some (.builtin "object.__setattr__")))
    (I22 : PySem.W.findIn K (.ref c22) "__init__" = some (some (.ref f22)))
    (F22 : PySem.W.typeIn K (.ref f22) = some (.type "function"))
    (L22 : K.lookup f22 = some ⟨oc22, od22, .func (PySem.W.fnOf "__init__" "TooMany.__init__" (iArgs [argOf "self" pa22, argOf "limit" pb22]) [putSt "limit" "limit" qa22 qb22 qc22 qd22] (iScope ["self", "limit"]) .none .none dc22 pm22 an22 cd22 ct22), sl22⟩)
    (D22 : PySem.W.codeIn K cd22 "TooMany.__init__" = true)
    (Y22 : PySem.W.hasDictIn K c22 = true)
    (N22x : PySem.W.findIn K (.ref c22) "limit" = some none)
    (A23 : PySem.W.nsIn K mainGlobals "NothingToUndo" = some (some (.ref c23)))
    (X23 : K.lookup c23 = some (excClassObj nm23 qn23 c23 N23 bs23 [.type "LookupError", .type "Exception", .type "BaseException", .type "object"] true sn23 sb23 ab23 co23 dd23 ka23 kb23 kc23 kd23 ke23 "LookupError.__new__"))
    (G23 : PySem.W.findIn K (.ref c23) "__getattribute__" = some (some (.builtin "BaseException.__getattribute__")))
    (H23 : PySem.W.findIn K (.ref c23) "__getattr__" = some none)
    (Z23 : PySem.W.findIn K (.ref c23) "__class__" = some (some (.builtin "object.__class__")))
    (T23 : PySem.W.typeIn K (.ref c23) = some (.type "type"))
    (K23 : PySem.W.keepIn K (.ref c23) = true)
    (S23 : PySem.W.findIn K (.ref c23) "__setattr__" = some (some (.builtin "object.__setattr__")))
    (I23 : PySem.W.findIn K (.ref c23) "__init__" = some (some (.ref f23)))
    (F23 : PySem.W.typeIn K (.ref f23) = some (.type "function"))
    (L23 : K.lookup f23 = some ⟨oc23, od23, .func (PySem.W.fnOf "__init__" "NothingToUndo.__init__" (iArgs [argOf "self" pa23, argOf "many" pb23]) [putSt "many" "many" qa23 qb23 qc23 qd23] (iScope ["self", "many"]) .none .none dc23 pm23 an23 cd23 ct23), sl23⟩)
    (D23 : PySem.W.codeIn K cd23 "NothingToUndo.__init__" = true)
    (Y23 : PySem.W.hasDictIn K c23 = true)
    (N23x : PySem.W.findIn K (.ref c23) "many" = some none)
    (A24 : PySem.W.nsIn K mainGlobals "Conflict" = some (some (.ref c24)))
    (X24 : K.lookup c24 = some (excClassObj nm24 qn24 c24 N24 bs24 [.type "RuntimeError", .type "Exception", .type "BaseException", .type "object"] true sn24 sb24 ab24 co24 dd24 ka24 kb24 kc24 kd24 ke24 "RuntimeError.__new__"))
    (G24 : PySem.W.findIn K (.ref c24) "__getattribute__" = some (some (.builtin "BaseException.__getattribute__")))
    (H24 : PySem.W.findIn K (.ref c24) "__getattr__" = some none)
    (Z24 : PySem.W.findIn K (.ref c24) "__class__" = some (some (.builtin "object.__class__")))
    (T24 : PySem.W.typeIn K (.ref c24) = some (.type "type"))
    (K24 : PySem.W.keepIn K (.ref c24) = true)
    (S24 : PySem.W.findIn K (.ref c24) "__setattr__" = some (some (.builtin "object.__setattr__")))
    (I24 : PySem.W.findIn K (.ref c24) "__init__" = some (some (.ref f24)))
    (F24 : PySem.W.typeIn K (.ref f24) = some (.type "function"))
    (L24 : K.lookup f24 = some ⟨oc24, od24, .func (PySem.W.fnOf "__init__" "Conflict.__init__" (iArgs [argOf "self" pa24, argOf "name" pb24]) [putSt "name" "name" qa24 qb24 qc24 qd24] (iScope ["self", "name"]) .none .none dc24 pm24 an24 cd24 ct24), sl24⟩)
    (D24 : PySem.W.codeIn K cd24 "Conflict.__init__" = true)
    (Y24 : PySem.W.hasDictIn K c24 = true)
    (N24x : PySem.W.findIn K (.ref c24) "name" = some none)
    (A25 : PySem.W.nsIn K mainGlobals "Broken" = some (some (.ref c25)))
    (X25 : K.lookup c25 = some (excClassObj nm25 qn25 c25 N25 bs25 [.type "ArithmeticError", .type "Exception", .type "BaseException", .type "object"] true sn25 sb25 ab25 co25 dd25 ka25 kb25 kc25 kd25 ke25 "ArithmeticError.__new__"))
    (G25 : PySem.W.findIn K (.ref c25) "__getattribute__" = some (some (.builtin "BaseException.__getattribute__")))
    (H25 : PySem.W.findIn K (.ref c25) "__getattr__" = some none)
    (Z25 : PySem.W.findIn K (.ref c25) "__class__" = some (some (.builtin "object.__class__")))
    (T25 : PySem.W.typeIn K (.ref c25) = some (.type "type"))
    (K25 : PySem.W.keepIn K (.ref c25) = true)
    (S25 : PySem.W.findIn K (.ref c25) "__setattr__" = some (some (.builtin "object.__setattr__")))
    (I25 : PySem.W.findIn K (.ref c25) "__init__" = some (some (.ref f25)))
    (F25 : PySem.W.typeIn K (.ref f25) = some (.type "function"))
    (L25 : K.lookup f25 = some ⟨oc25, od25, .func (PySem.W.fnOf "__init__" "Broken.__init__" (iArgs [argOf "self" pa25, argOf "label" pb25, argOf "rows" pc25, argOf "point" pd25]) [putSt "rule_label" "label" qa25 qb25 qc25 qd25, putSt "row_numbers" "rows" ra25 rb25 rc25 rd25, putSt "point" "point" ua25 ub25 uc25 ud25] (iScope ["self", "label", "rows", "point"]) .none .none dc25 pm25 an25 cd25 ct25), sl25⟩)
    (D25 : PySem.W.codeIn K cd25 "Broken.__init__" = true)
    (Y25 : PySem.W.hasDictIn K c25 = true)
    (N25a : PySem.W.findIn K (.ref c25) "rule_label" = some none)
    (N25b : PySem.W.findIn K (.ref c25) "row_numbers" = some none)
    (N25c : PySem.W.findIn K (.ref c25) "point" = some none)
    (sg : PySem.W.specialIn K (.builtin "object.__class__") "__get__" = some (some (.builtin "getset_descriptor.__get__")))
    (tk : PySem.W.takesIn K (.builtin "object.__class__") = some true)
    (nd : ([c0, c1, c2, c3, c4, c5, c6, c7, c8, c9, c10, c11, c12, c13, c14, c15, c16, c17, c18, c19, c20, c21, c22, c23, c24, c25] : List Nat).Nodup)
    (a28 : PySem.W.nsIn K mainGlobals "_law_bag" = some (some (.ref g28)))
    (l28 : K.lookup g28 = some ⟨oc28, od28, .func (PySem.W.fnOf "_law_bag" "_law_bag" (defArgs sBag) (defBody sBag) (defScope sBag) .none kV28 dc28 pm28 an28 cd28 ct28), sl28⟩)
    (c28d : PySem.W.codeIn K cd28 "_law_bag" = true)
    (k28 : PySem.W.keepIn K (.ref g28) = true)
    (a29 : PySem.W.nsIn K mainGlobals "_law_draw" = some (some (.ref g29)))
    (l29 : K.lookup g29 = some ⟨oc29, od29, .func (PySem.W.fnOf "_law_draw" "_law_draw" (defArgs sDraw) (defBody sDraw) (defScope sDraw) .none kV29 dc29 pm29 an29 cd29 ct29), sl29⟩)
    (c29d : PySem.W.codeIn K cd29 "_law_draw" = true)
    (k29 : PySem.W.keepIn K (.ref g29) = true)
    (a30 : PySem.W.nsIn K mainGlobals "_law_one_of" = some (some (.ref g30)))
    (l30 : K.lookup g30 = some ⟨oc30, od30, .func (PySem.W.fnOf "_law_one_of" "_law_one_of" (defArgs sOne) (defBody sOne) (defScope sOne) .none kV30 dc30 pm30 an30 cd30 ct30), sl30⟩)
    (c30d : PySem.W.codeIn K cd30 "_law_one_of" = true)
    (k30 : PySem.W.keepIn K (.ref g30) = true)
    (a31 : PySem.W.nsIn K mainGlobals "_law_shuffled" = some (some (.ref g31)))
    (l31 : K.lookup g31 = some ⟨oc31, od31, .func (PySem.W.fnOf "_law_shuffled" "_law_shuffled" (defArgs sShuf) (defBody sShuf) (defScope sShuf) .none kV31 dc31 pm31 an31 cd31 ct31), sl31⟩)
    (c31d : PySem.W.codeIn K cd31 "_law_shuffled" = true)
    (k31 : PySem.W.keepIn K (.ref g31) = true)
    (a32 : PySem.W.nsIn K mainGlobals "_law_first" = some (some (.ref g32)))
    (l32 : K.lookup g32 = some ⟨oc32, od32, .func (PySem.W.fnOf "_law_first" "_law_first" (defArgs sFirst) (defBody sFirst) (defScope sFirst) .none kV32 dc32 pm32 an32 cd32 ct32), sl32⟩)
    (c32d : PySem.W.codeIn K cd32 "_law_first" = true)
    (k32 : PySem.W.keepIn K (.ref g32) = true)
    (a33 : PySem.W.nsIn K mainGlobals "_law_second" = some (some (.ref g33)))
    (l33 : K.lookup g33 = some ⟨oc33, od33, .func (PySem.W.fnOf "_law_second" "_law_second" (defArgs sSecond) (defBody sSecond) (defScope sSecond) .none kV33 dc33 pm33 an33 cd33 ct33), sl33⟩)
    (c33d : PySem.W.codeIn K cd33 "_law_second" = true)
    (k33 : PySem.W.keepIn K (.ref g33) = true)
    (a34 : PySem.W.nsIn K mainGlobals "_law_caught_second" = some (some (.ref g34)))
    (l34 : K.lookup g34 = some ⟨oc34, od34, .func (PySem.W.fnOf "_law_caught_second" "_law_caught_second" (defArgs sCaught) (defBody sCaught) (defScope sCaught) .none kV34 dc34 pm34 an34 cd34 ct34), sl34⟩)
    (c34d : PySem.W.codeIn K cd34 "_law_caught_second" = true)
    (k34 : PySem.W.keepIn K (.ref g34) = true)
    (a35 : PySem.W.nsIn K mainGlobals "_law_classes" = some (some (.ref g35)))
    (l35 : K.lookup g35 = some ⟨oc35, od35, .func (PySem.W.fnOf "_law_classes" "_law_classes" (defArgs sClasses) (defBody sClasses) (defScope sClasses) .none kV35 dc35 pm35 an35 cd35 ct35), sl35⟩)
    (c35d : PySem.W.codeIn K cd35 "_law_classes" = true)
    (k35 : PySem.W.keepIn K (.ref g35) = true)
    (a36 : PySem.W.nsIn K mainGlobals "_law_classes_of" = some (some (.ref g36)))
    (l36 : K.lookup g36 = some ⟨oc36, od36, .func (PySem.W.fnOf "_law_classes_of" "_law_classes_of" (defArgs sClassesOf) (defBody sClassesOf) (defScope sClassesOf) .none kV36 dc36 pm36 an36 cd36 ct36), sl36⟩)
    (c36d : PySem.W.codeIn K cd36 "_law_classes_of" = true)
    (k36 : PySem.W.keepIn K (.ref g36) = true)
    (a37 : PySem.W.nsIn K mainGlobals "_law_due_classes" = some (some (.ref g37)))
    (l37 : K.lookup g37 = some ⟨oc37, od37, .func (PySem.W.fnOf "_law_due_classes" "_law_due_classes" (defArgs sDue) (defBody sDue) (defScope sDue) .none kV37 dc37 pm37 an37 cd37 ct37), sl37⟩)
    (c37d : PySem.W.codeIn K cd37 "_law_due_classes" = true)
    (k37 : PySem.W.keepIn K (.ref g37) = true)
    (a38 : PySem.W.nsIn K mainGlobals "_law_kept" = some (some (.ref g38)))
    (l38 : K.lookup g38 = some ⟨oc38, od38, .func (PySem.W.fnOf "_law_kept" "_law_kept" (defArgs sKept) (defBody sKept) (defScope sKept) .none kV38 dc38 pm38 an38 cd38 ct38), sl38⟩)
    (c38d : PySem.W.codeIn K cd38 "_law_kept" = true)
    (k38 : PySem.W.keepIn K (.ref g38) = true)
    (a39 : PySem.W.nsIn K mainGlobals "law" = some (some (.ref g39)))
    (l39 : K.lookup g39 = some ⟨oc39, od39, .func (PySem.W.fnOf "law" "law" (defArgs sLaw) (defBody sLaw) (defScope sLaw) .none kV39 dc39 pm39 an39 cd39 ct39), sl39⟩)
    (c39d : PySem.W.codeIn K cd39 "law" = true)
    (k39 : PySem.W.keepIn K (.ref g39) = true)
    (z_isinstance : PySem.W.nsIn K mainGlobals "isinstance" = some none)
    (z_len : PySem.W.nsIn K mainGlobals "len" = some none)
    (z_sum : PySem.W.nsIn K mainGlobals "sum" = some none)
    (z_int : PySem.W.nsIn K mainGlobals "int" = some none)
    (z_abs : PySem.W.nsIn K mainGlobals "abs" = some none)
    (z_max : PySem.W.nsIn K mainGlobals "max" = some none)
    (z_min : PySem.W.nsIn K mainGlobals "min" = some none)
    (z_range : PySem.W.nsIn K mainGlobals "range" = some none)
    (z_list : PySem.W.nsIn K mainGlobals "list" = some none)
    (z_tuple : PySem.W.nsIn K mainGlobals "tuple" = some none)
    (z_ValueError : PySem.W.nsIn K mainGlobals "ValueError" = some none)
    (z_IndexError : PySem.W.nsIn K mainGlobals "IndexError" = some none)
    (z_KeyError : PySem.W.nsIn K mainGlobals "KeyError" = some none)
    (z_LookupError : PySem.W.nsIn K mainGlobals "LookupError" = some none)
    (z_OverflowError : PySem.W.nsIn K mainGlobals "OverflowError" = some none)
    (z_ArithmeticError : PySem.W.nsIn K mainGlobals "ArithmeticError" = some none)
    (z_RuntimeError : PySem.W.nsIn K mainGlobals "RuntimeError" = some none)
    : ∃ fd : FuncData, (∀ (s : Shared) (v : Value), BindsTo s fd ⟨[v], []⟩ [("script", v)]) ∧ ∀ base : Heap, K.In base → base.Ns mainGlobals mg → FnOk l.prog w K mg base CX0 6 fa fd ["script"] (spLaw K) := by
  have e := hfa.symm.trans (PySem.W.mg_of XX GG a39)
  cases e
  have mgn : ∀ {x : Str}, PySem.W.nsIn K mainGlobals x = some none → mg x = none := fun e => PySem.W.mg_none_of XX GG e
  obtain ⟨Cs, hCs⟩ : ∃ Cs : Nat → Addr, Cs = fun n => ([c0, c1, c2, c3, c4, c5, c6, c7, c8, c9, c10, c11, c12, c13, c14, c15, c16, c17, c18, c19, c20, c21, c22, c23, c24, c25] : List Nat).getD n 0 := ⟨_, rfl⟩
  have inj : ∀ i j, i < 26 → j < 26 → Cs i = Cs j → i = j := fun i j hi hj e => by
    subst hCs
    exact nodup_inj nd hi hj e
  have hg : ∀ i, i < 26 → mg (nameOf i) = some (.ref (Cs i)) := fun i hi => by
    subst hCs
    match i, hi with
    | 0, _ => exact PySem.W.mg_of XX GG A0
    | 1, _ => exact PySem.W.mg_of XX GG A1
    | 2, _ => exact PySem.W.mg_of XX GG A2
    | 3, _ => exact PySem.W.mg_of XX GG A3
    | 4, _ => exact PySem.W.mg_of XX GG A4
    | 5, _ => exact PySem.W.mg_of XX GG A5
    | 6, _ => exact PySem.W.mg_of XX GG A6
    | 7, _ => exact PySem.W.mg_of XX GG A7
    | 8, _ => exact PySem.W.mg_of XX GG A8
    | 9, _ => exact PySem.W.mg_of XX GG A9
    | 10, _ => exact PySem.W.mg_of XX GG A10
    | 11, _ => exact PySem.W.mg_of XX GG A11
    | 12, _ => exact PySem.W.mg_of XX GG A12
    | 13, _ => exact PySem.W.mg_of XX GG A13
    | 14, _ => exact PySem.W.mg_of XX GG A14
    | 15, _ => exact PySem.W.mg_of XX GG A15
    | 16, _ => exact PySem.W.mg_of XX GG A16
    | 17, _ => exact PySem.W.mg_of XX GG A17
    | 18, _ => exact PySem.W.mg_of XX GG A18
    | 19, _ => exact PySem.W.mg_of XX GG A19
    | 20, _ => exact PySem.W.mg_of XX GG A20
    | 21, _ => exact PySem.W.mg_of XX GG A21
    | 22, _ => exact PySem.W.mg_of XX GG A22
    | 23, _ => exact PySem.W.mg_of XX GG A23
    | 24, _ => exact PySem.W.mg_of XX GG A24
    | 25, _ => exact PySem.W.mg_of XX GG A25
    | n + 26, z => exact absurd z (by omega)
  have hm : ∀ i, i < 26 → ∃ cd, PySem.W.clsIn K (Cs i) = some cd ∧ cd.mro = .ref (Cs i) :: behindOf Cs i := fun i hi => by
    subst hCs
    match i, hi with
    | 0, _ => exact cls_of X0
    | 1, _ => exact cls_of X1
    | 2, _ => exact cls_of X2
    | 3, _ => exact cls_of X3
    | 4, _ => exact cls_of X4
    | 5, _ => exact cls_of X5
    | 6, _ => exact cls_of X6
    | 7, _ => exact cls_of X7
    | 8, _ => exact cls_of X8
    | 9, _ => exact cls_of X9
    | 10, _ => exact cls_of X10
    | 11, _ => exact cls_of X11
    | 12, _ => exact cls_of X12
    | 13, _ => exact cls_of X13
    | 14, _ => exact cls_of X14
    | 15, _ => exact cls_of X15
    | 16, _ => exact cls_of X16
    | 17, _ => exact cls_of X17
    | 18, _ => exact cls_of X18
    | 19, _ => exact cls_of X19
    | 20, _ => exact cls_of X20
    | 21, _ => exact cls_of X21
    | 22, _ => exact cls_of X22
    | 23, _ => exact cls_of X23
    | 24, _ => exact cls_of X24
    | 25, _ => exact cls_of X25
    | n + 26, z => exact absurd z (by omega)
  have hask : ∀ i, i < 26 → AskE K (Cs i) := fun i hi => by
    subst hCs
    match i, hi with
    | 0, _ => exact ask_of X0 rfl rfl G0 H0 Z0 sg tk
    | 1, _ => exact ask_of X1 rfl rfl G1 H1 Z1 sg tk
    | 2, _ => exact ask_of X2 rfl rfl G2 H2 Z2 sg tk
    | 3, _ => exact ask_of X3 rfl rfl G3 H3 Z3 sg tk
    | 4, _ => exact ask_of X4 rfl rfl G4 H4 Z4 sg tk
    | 5, _ => exact ask_of X5 rfl rfl G5 H5 Z5 sg tk
    | 6, _ => exact ask_of X6 rfl rfl G6 H6 Z6 sg tk
    | 7, _ => exact ask_of X7 rfl rfl G7 H7 Z7 sg tk
    | 8, _ => exact ask_of X8 rfl rfl G8 H8 Z8 sg tk
    | 9, _ => exact ask_of X9 rfl rfl G9 H9 Z9 sg tk
    | 10, _ => exact ask_of X10 rfl rfl G10 H10 Z10 sg tk
    | 11, _ => exact ask_of X11 rfl rfl G11 H11 Z11 sg tk
    | 12, _ => exact ask_of X12 rfl rfl G12 H12 Z12 sg tk
    | 13, _ => exact ask_of X13 rfl rfl G13 H13 Z13 sg tk
    | 14, _ => exact ask_of X14 rfl rfl G14 H14 Z14 sg tk
    | 15, _ => exact ask_of X15 rfl rfl G15 H15 Z15 sg tk
    | 16, _ => exact ask_of X16 rfl rfl G16 H16 Z16 sg tk
    | 17, _ => exact ask_of X17 rfl rfl G17 H17 Z17 sg tk
    | 18, _ => exact ask_of X18 rfl rfl G18 H18 Z18 sg tk
    | 19, _ => exact ask_of X19 rfl rfl G19 H19 Z19 sg tk
    | 20, _ => exact ask_of X20 rfl rfl G20 H20 Z20 sg tk
    | 21, _ => exact ask_of X21 rfl rfl G21 H21 Z21 sg tk
    | 22, _ => exact ask_of X22 rfl rfl G22 H22 Z22 sg tk
    | 23, _ => exact ask_of X23 rfl rfl G23 H23 Z23 sg tk
    | 24, _ => exact ask_of X24 rfl rfl G24 H24 Z24 sg tk
    | 25, _ => exact ask_of X25 rfl rfl G25 H25 Z25 sg tk
    | n + 26, z => exact absurd z (by omega)
  have hty : ∀ i, i < 26 → PySem.W.typeIn K (.ref (Cs i)) = some (.type "type") := fun i hi => by
    subst hCs
    match i, hi with
    | 0, _ => exact T0
    | 1, _ => exact T1
    | 2, _ => exact T2
    | 3, _ => exact T3
    | 4, _ => exact T4
    | 5, _ => exact T5
    | 6, _ => exact T6
    | 7, _ => exact T7
    | 8, _ => exact T8
    | 9, _ => exact T9
    | 10, _ => exact T10
    | 11, _ => exact T11
    | 12, _ => exact T12
    | 13, _ => exact T13
    | 14, _ => exact T14
    | 15, _ => exact T15
    | 16, _ => exact T16
    | 17, _ => exact T17
    | 18, _ => exact T18
    | 19, _ => exact T19
    | 20, _ => exact T20
    | 21, _ => exact T21
    | 22, _ => exact T22
    | 23, _ => exact T23
    | 24, _ => exact T24
    | 25, _ => exact T25
    | n + 26, z => exact absurd z (by omega)
  have hk : ∀ i, i < 26 → PySem.W.keepIn K (.ref (Cs i)) = true := fun i hi => by
    subst hCs
    match i, hi with
    | 0, _ => exact K0
    | 1, _ => exact K1
    | 2, _ => exact K2
    | 3, _ => exact K3
    | 4, _ => exact K4
    | 5, _ => exact K5
    | 6, _ => exact K6
    | 7, _ => exact K7
    | 8, _ => exact K8
    | 9, _ => exact K9
    | 10, _ => exact K10
    | 11, _ => exact K11
    | 12, _ => exact K12
    | 13, _ => exact K13
    | 14, _ => exact K14
    | 15, _ => exact K15
    | 16, _ => exact K16
    | 17, _ => exact K17
    | 18, _ => exact K18
    | 19, _ => exact K19
    | 20, _ => exact K20
    | 21, _ => exact K21
    | 22, _ => exact K22
    | 23, _ => exact K23
    | 24, _ => exact K24
    | 25, _ => exact K25
    | n + 26, z => exact absurd z (by omega)
  have T : Errs K mg Cs := ⟨inj, hg, hm, hask, hty, hk, mgn z_isinstance, mgn z_ValueError, mgn z_IndexError, mgn z_KeyError, mgn z_LookupError, mgn z_OverflowError, mgn z_ArithmeticError, mgn z_RuntimeError⟩
  have hp : ∀ i, i < 18 → PySem.W.excIn K (Cs i) (tailOf 0) "ValueError.__new__" = true := fun i hi => by
    subst hCs
    match i, hi with
    | 0, _ => exact P0
    | 1, _ => exact P1
    | 2, _ => exact P2
    | 3, _ => exact P3
    | 4, _ => exact P4
    | 5, _ => exact P5
    | 6, _ => exact P6
    | 7, _ => exact P7
    | 8, _ => exact P8
    | 9, _ => exact P9
    | 10, _ => exact P10
    | 11, _ => exact P11
    | 12, _ => exact P12
    | 13, _ => exact P13
    | 14, _ => exact P14
    | 15, _ => exact P15
    | 16, _ => exact P16
    | 17, _ => exact P17
    | n + 18, z => exact absurd z (by omega)
  have LP : Plain K Cs := ⟨hp⟩
  have o18 : OwnTxt K c18 f18 (tailOf 18) "ValueError.__new__" := own_of X18 (show PySem.W.excTail (tailOf 18) [.type "ValueError", .type "Exception", .type "BaseException", .type "object"] = true by decide +kernel) rfl S18 G18 H18 I18 F18 K18 T18 Y18
  have o19 : OwnTxt K c19 f19 (tailOf 19) "ValueError.__new__" := own_of X19 (show PySem.W.excTail (tailOf 19) [.type "ValueError", .type "Exception", .type "BaseException", .type "object"] = true by decide +kernel) rfl S19 G19 H19 I19 F19 K19 T19 Y19
  have o20 : OwnTxt K c20 f20 (tailOf 20) "IndexError.__new__" := own_of X20 (show PySem.W.excTail (tailOf 20) [.type "IndexError", .type "LookupError", .type "Exception", .type "BaseException", .type "object"] = true by decide +kernel) rfl S20 G20 H20 I20 F20 K20 T20 Y20
  have o21 : OwnTxt K c21 f21 (tailOf 21) "LookupError.__new__" := own_of X21 (show PySem.W.excTail (tailOf 21) [.type "KeyError", .type "LookupError", .type "Exception", .type "BaseException", .type "object"] = true by decide +kernel) rfl S21 G21 H21 I21 F21 K21 T21 Y21
  have o22 : OwnTxt K c22 f22 (tailOf 22) "OverflowError.__new__" := own_of X22 (show PySem.W.excTail (tailOf 22) [.type "OverflowError", .type "ArithmeticError", .type "Exception", .type "BaseException", .type "object"] = true by decide +kernel) rfl S22 G22 H22 I22 F22 K22 T22 Y22
  have o23 : OwnTxt K c23 f23 (tailOf 23) "LookupError.__new__" := own_of X23 (show PySem.W.excTail (tailOf 23) [.type "LookupError", .type "Exception", .type "BaseException", .type "object"] = true by decide +kernel) rfl S23 G23 H23 I23 F23 K23 T23 Y23
  have o24 : OwnTxt K c24 f24 (tailOf 24) "RuntimeError.__new__" := own_of X24 (show PySem.W.excTail (tailOf 24) [.type "RuntimeError", .type "Exception", .type "BaseException", .type "object"] = true by decide +kernel) rfl S24 G24 H24 I24 F24 K24 T24 Y24
  have o25 : OwnTxt K c25 f25 (tailOf 25) "ArithmeticError.__new__" := own_of X25 (show PySem.W.excTail (tailOf 25) [.type "ArithmeticError", .type "Exception", .type "BaseException", .type "object"] = true by decide +kernel) rfl S25 G25 H25 I25 F25 K25 T25 Y25
  have LH : Held l.prog w K Cs := by
    refine ⟨fun i h1 h2 => ?_⟩
    subst hCs
    have c : i = 18 ∨ i = 19 ∨ i = 20 ∨ i = 21 ∨ i = 22 ∨ i = 23 ∨ i = 24 ∨ i = 25 := by omega
    rcases c with rfl | rfl | rfl | rfl | rfl | rfl | rfl | rfl
    · exact ⟨f18, "ValueError.__new__", o18, ⟨_, _, PySem.F.excBase_ValueError⟩, ⟨rfl, rfl, rfl⟩, keeps_name (i := 18) PySem.F.store_ValueError o18 N18x ⟨_, _, _, _, _, _, _, _, _, _, L18, D18, ⟨_, _, rfl⟩, ⟨_, _, _, _, rfl⟩⟩ rfl⟩
    · exact ⟨f19, "ValueError.__new__", o19, ⟨_, _, PySem.F.excBase_ValueError⟩, ⟨rfl, rfl, rfl⟩, keeps_index (i := 19) PySem.F.store_ValueError o19 N19x ⟨_, _, _, _, _, _, _, _, _, _, L19, D19, ⟨_, _, rfl⟩, ⟨_, _, _, _, rfl⟩⟩ rfl⟩
    · exact ⟨f20, "IndexError.__new__", o20, ⟨_, _, PySem.F.excBase_IndexError⟩, ⟨rfl, rfl, rfl⟩, keeps_value (i := 20) PySem.F.store_IndexError o20 N20x ⟨_, _, _, _, _, _, _, _, _, _, L20, D20, ⟨_, _, rfl⟩, ⟨_, _, _, _, rfl⟩⟩ rfl⟩
    · exact ⟨f21, "LookupError.__new__", o21, ⟨_, _, PySem.F.excBase_LookupError⟩, ⟨rfl, rfl, rfl⟩, keeps_name (i := 21) storeKey o21 N21x ⟨_, _, _, _, _, _, _, _, _, _, L21, D21, ⟨_, _, rfl⟩, ⟨_, _, _, _, rfl⟩⟩ rfl⟩
    · exact ⟨f22, "OverflowError.__new__", o22, ⟨_, _, PySem.F.excBase_OverflowError⟩, ⟨rfl, rfl, rfl⟩, keeps_limit (i := 22) PySem.F.store_OverflowError o22 N22x ⟨_, _, _, _, _, _, _, _, _, _, L22, D22, ⟨_, _, rfl⟩, ⟨_, _, _, _, rfl⟩⟩ rfl⟩
    · exact ⟨f23, "LookupError.__new__", o23, ⟨_, _, PySem.F.excBase_LookupError⟩, ⟨rfl, rfl, rfl⟩, keeps_many (i := 23) PySem.F.store_LookupError o23 N23x ⟨_, _, _, _, _, _, _, _, _, _, L23, D23, ⟨_, _, rfl⟩, ⟨_, _, _, _, rfl⟩⟩ rfl⟩
    · exact ⟨f24, "RuntimeError.__new__", o24, ⟨_, _, PySem.F.excBase_RuntimeError⟩, ⟨rfl, rfl, rfl⟩, keeps_name (i := 24) PySem.F.store_RuntimeError o24 N24x ⟨_, _, _, _, _, _, _, _, _, _, L24, D24, ⟨_, _, rfl⟩, ⟨_, _, _, _, rfl⟩⟩ rfl⟩
    · exact ⟨f25, "ArithmeticError.__new__", o25, ⟨_, _, PySem.F.excBase_ArithmeticError⟩, ⟨rfl, rfl, rfl⟩, keeps_broken PySem.F.store_ArithmeticError o25 N25a N25b N25c ⟨_, _, _, _, _, _, _, _, _, _, L25, D25, ⟨_, _, _, _, rfl⟩, ⟨_, _, _, _, _, _, _, _, _, _, _, _, rfl⟩⟩⟩
  have LF : Free K Cs := by
    subst hCs
    refine ⟨fun i h1 h2 => ?_, N25a, N25b, N25c⟩
    have c : i = 18 ∨ i = 19 ∨ i = 20 ∨ i = 21 ∨ i = 22 ∨ i = 23 ∨ i = 24 := by omega
    rcases c with rfl | rfl | rfl | rfl | rfl | rfl | rfl
    · exact N18x
    · exact N19x
    · exact N20x
    · exact N21x
    · exact N22x
    · exact N23x
    · exact N24x
  have TB2 : TL2 mg := ⟨⟨mgn z_len, mgn z_sum, mgn z_int, mgn z_abs, mgn z_max, mgn z_range, mgn z_list⟩, mgn z_min, mgn z_tuple⟩
  have F28_ := fun_mk (st := sBag) l28 c28d k28
  have b28_ := F28_.binds (ps := ["script", "at"]) fun _ _ _ _ _ _ us hl => match us, hl with | [_, _], _ => rfl
  have g28_ := PySem.W.mg_of XX GG a28
  have F29_ := fun_mk (st := sDraw) l29 c29d k29
  have b29_ := F29_.binds (ps := ["bag", "total"]) fun _ _ _ _ _ _ us hl => match us, hl with | [_, _], _ => rfl
  have g29_ := PySem.W.mg_of XX GG a29
  have F30_ := fun_mk (st := sOne) l30 c30d k30
  have b30_ := F30_.binds (ps := ["bag", "items"]) fun _ _ _ _ _ _ us hl => match us, hl with | [_, _], _ => rfl
  have g30_ := PySem.W.mg_of XX GG a30
  have F31_ := fun_mk (st := sShuf) l31 c31d k31
  have b31_ := F31_.binds (ps := ["bag", "items"]) fun _ _ _ _ _ _ us hl => match us, hl with | [_, _], _ => rfl
  have g31_ := PySem.W.mg_of XX GG a31
  have F32_ := fun_mk (st := sFirst) l32 c32d k32
  have b32_ := F32_.binds (ps := ["which", "text"]) fun _ _ _ _ _ _ us hl => match us, hl with | [_, _], _ => rfl
  have g32_ := PySem.W.mg_of XX GG a32
  have F33_ := fun_mk (st := sSecond) l33 c33d k33
  have b33_ := F33_.binds (ps := ["which", "text", "number", "rows", "point"]) fun _ _ _ _ _ _ us hl => match us, hl with | [_, _, _, _, _], _ => rfl
  have g33_ := PySem.W.mg_of XX GG a33
  have F34_ := fun_mk (st := sCaught) l34 c34d k34
  have b34_ := F34_.binds (ps := ["which", "text", "number", "rows", "point"]) fun _ _ _ _ _ _ us hl => match us, hl with | [_, _, _, _, _], _ => rfl
  have g34_ := PySem.W.mg_of XX GG a34
  have F35_ := fun_mk (st := sClasses) l35 c35d k35
  have b35_ := F35_.binds (ps := ["error"]) fun _ _ _ _ _ _ us hl => match us, hl with | [_], _ => rfl
  have g35_ := PySem.W.mg_of XX GG a35
  have F36_ := fun_mk (st := sClassesOf) l36 c36d k36
  have b36_ := F36_.binds (ps := ["which", "text", "number", "rows", "point"]) fun _ _ _ _ _ _ us hl => match us, hl with | [_, _, _, _, _], _ => rfl
  have g36_ := PySem.W.mg_of XX GG a36
  have F37_ := fun_mk (st := sDue) l37 c37d k37
  have b37_ := F37_.binds (ps := ["which"]) fun _ _ _ _ _ _ us hl => match us, hl with | [_], _ => rfl
  have g37_ := PySem.W.mg_of XX GG a37
  have F38_ := fun_mk (st := sKept) l38 c38d k38
  have b38_ := F38_.binds (ps := ["which", "text", "number", "rows", "point"]) fun _ _ _ _ _ _ us hl => match us, hl with | [_, _, _, _, _], _ => rfl
  have g38_ := PySem.W.mg_of XX GG a38
  have F39_ := fun_mk (st := sLaw) l39 c39d k39
  have b39_ := F39_.binds (ps := ["script"]) fun _ _ _ _ _ _ us hl => match us, hl with | [_], _ => rfl
  have g39_ := PySem.W.mg_of XX GG a39
  refine ⟨PySem.W.fnOf "law" "law" (defArgs sLaw) (defBody sLaw) (defScope sLaw) .none kV39 dc39 pm39 an39 cd39 ct39, fun s v => .of_eq rfl, fun base _ _ => ?_⟩
  have D1 := ok_draw (P := l.prog) (w := w) (base := base) F29_ TB2.toTB
  have S1 := ok_first (P := l.prog) (w := w) (base := base) F32_ T LP
  have S2 := ok_second (P := l.prog) (w := w) (base := base) F33_ T LP LH
  have S3 := ok_classes (P := l.prog) (w := w) (base := base) F35_ T
  exact ok_law F39_ TB2 ⟨ok_bag F28_ TB2.toTB, b28_, g28_, k28⟩ ⟨D1, b29_, g29_, k29⟩ ⟨ok_one F30_ TB2.toTB D1 b29_ g29_ k29, b30_, g30_, k30⟩ ⟨ok_shuf F31_ TB2.toTB D1 b29_ g29_ k29, b31_, g31_, k31⟩
    ⟨ok_kept F38_, b38_, g38_, k38⟩ ⟨ok_caught F34_ T LH LF S2 b33_ g33_ k33, b34_, g34_, k34⟩ ⟨ok_clsof F36_ T S1 b32_ g32_ k32 S2 b33_ g33_ k33 S3 b35_ g35_ k35, b36_, g36_, k36⟩ ⟨ok_due F37_ TB2.toTB, b37_, g37_, k37⟩
theorem walk {l : PySem.W.OpenLaw} {q : Program} {loose : List Str} {XP : (Str → Option Value) → Heap → Prop} {YP : World → Heap → Prop} {d : DefRec} {K : Params → PySem.W.Frag} (hn : l.most = some 63) (hdf : d.params.defaults = [])
    (hY : ∀ (w : World) (h : Heap), YP w h → (K w.params).In h)
    (F : ∀ (w : World) (mg : Str → Option Value) (fa : Addr) (h : Heap), (K w.params).In h → h.Ns mainGlobals mg → mg d.name = some (.ref fa) →
      ∃ fd : FuncData, (∀ (s : Shared) (u : Value), BindsTo s fd ⟨[u], []⟩ [("script", u)]) ∧ ∀ base : Heap, (K w.params).In base → base.Ns mainGlobals mg → FnOk l.prog w (K w.params) mg base CX0 6 fa fd ["script"] (spLaw (K w.params))) :
    PySem.W.WalkO q loose XP YP l.row.toRowW d [] (fun f vs => PySem.call f vs) :=
  L2.walk_of (n := 63) (k := 6) (x := "script") (CX := fun _ => CX0) (sp := fun w => spLaw (K w.params)) hn (by decide) hdf ⟨rfl, by decide, by decide⟩ hY F (fun _ _ a ns hl _ hS => ⟨a, ns, rfl, hS, hl, fun _ => rfl⟩) fun _ _ _ _ _ z => z
end Q
set_option Elab.async false
set_option linter.all false
set_option maxRecDepth 100000
open PySem PySem.W PyProof.Rows
set_option maxRecDepth 100000 in
set_option maxHeartbeats 0 in
theorem PySem.Challenge.cw_wherebase_k00_whole_errors_holds : PySem.Challenge.rw_wherebase_k00_whole_errors.Holds := by
  w_on; o_law; k_head; (case hw => w_witness2)
  k_fill
  refine Q.walk (l := PySem.Challenge.rw_wherebase_k00_whole_errors) rfl rfl (fun w h Y => PySem.W.kIn_of Y) ?F
  case F =>
    intro w mg fa h KX G hmg
    refine' Q.all_mk KX G hmg ?A0 ?X0 ?G0 ?H0 ?Z0 ?T0 ?K0 ?P0 ?A1 ?X1 ?G1 ?H1 ?Z1 ?T1 ?K1 ?P1 ?A2 ?X2 ?G2 ?H2 ?Z2 ?T2 ?K2 ?P2 ?A3 ?X3 ?G3 ?H3 ?Z3 ?T3 ?K3 ?P3 ?A4 ?X4 ?G4 ?H4 ?Z4 ?T4 ?K4 ?P4 ?A5 ?X5 ?G5 ?H5 ?Z5 ?T5 ?K5 ?P5 ?A6 ?X6 ?G6 ?H6 ?Z6 ?T6 ?K6 ?P6 ?A7 ?X7 ?G7 ?H7 ?Z7 ?T7 ?K7 ?P7 ?A8 ?X8 ?G8 ?H8 ?Z8 ?T8 ?K8 ?P8 ?A9 ?X9 ?G9 ?H9 ?Z9 ?T9 ?K9 ?P9 ?A10 ?X10 ?G10 ?H10 ?Z10 ?T10 ?K10 ?P10 ?A11 ?X11 ?G11 ?H11 ?Z11 ?T11 ?K11 ?P11 ?A12 ?X12 ?G12 ?H12 ?Z12 ?T12 ?K12 ?P12 ?A13 ?X13 ?G13 ?H13 ?Z13 ?T13 ?K13 ?P13 ?A14 ?X14 ?G14 ?H14 ?Z14 ?T14 ?K14 ?P14 ?A15 ?X15 ?G15 ?H15 ?Z15 ?T15 ?K15 ?P15 ?A16 ?X16 ?G16 ?H16 ?Z16 ?T16 ?K16 ?P16 ?A17 ?X17 ?G17 ?H17 ?Z17 ?T17 ?K17 ?P17 ?A18 ?X18 ?G18 ?H18 ?Z18 ?T18 ?K18 ?S18 ?I18 ?F18 ?L18 ?D18 ?Y18 ?N18x ?A19 ?X19 ?G19 ?H19 ?Z19 ?T19 ?K19 ?S19 ?I19 ?F19 ?L19 ?D19 ?Y19 ?N19x ?A20 ?X20 ?G20 ?H20 ?Z20 ?T20 ?K20 ?S20 ?I20 ?F20 ?L20 ?D20 ?Y20 ?N20x ?A21 ?X21 ?G21 ?H21 ?Z21 ?T21 ?K21 ?S21 ?I21 ?F21 ?L21 ?D21 ?Y21 ?N21x ?A22 ?X22 ?G22 ?H22 ?Z22 ?T22 ?K22 ?S22 ?I22 ?F22 ?L22 ?D22 ?Y22 ?N22x ?A23 ?X23 ?G23 ?H23 ?Z23 ?T23 ?K23 ?S23 ?I23 ?F23 ?L23 ?D23 ?Y23 ?N23x ?A24 ?X24 ?G24 ?H24 ?Z24 ?T24 ?K24 ?S24 ?I24 ?F24 ?L24 ?D24 ?Y24 ?N24x ?A25 ?X25 ?G25 ?H25 ?Z25 ?T25 ?K25 ?S25 ?I25 ?F25 ?L25 ?D25 ?Y25 ?N25a ?N25b ?N25c ?sg ?tk ?nd ?a28 ?l28 ?c28d ?k28 ?a29 ?l29 ?c29d ?k29 ?a30 ?l30 ?c30d ?k30 ?a31 ?l31 ?c31d ?k31 ?a32 ?l32 ?c32d ?k32 ?a33 ?l33 ?c33d ?k33 ?a34 ?l34 ?c34d ?k34 ?a35 ?l35 ?c35d ?k35 ?a36 ?l36 ?c36d ?k36 ?a37 ?l37 ?c37d ?k37 ?a38 ?l38 ?c38d ?k38 ?a39 ?l39 ?c39d ?k39 ?z_isinstance ?z_len ?z_sum ?z_int ?z_abs ?z_max ?z_min ?z_range ?z_list ?z_tuple ?z_ValueError ?z_IndexError ?z_KeyError ?z_LookupError ?z_OverflowError ?z_ArithmeticError ?z_RuntimeError
    (case A0 => k_is)
    (case X0 => k_is)
    (case G0 => k_is)
    (case H0 => k_is)
    (case Z0 => k_is)
    (case T0 => k_is)
    (case K0 => k_is)
    (case P0 => k_exc)
    (case A1 => k_is)
    (case X1 => k_is)
    (case G1 => k_is)
    (case H1 => k_is)
    (case Z1 => k_is)
    (case T1 => k_is)
    (case K1 => k_is)
    (case P1 => k_exc)
    (case A2 => k_is)
    (case X2 => k_is)
    (case G2 => k_is)
    (case H2 => k_is)
    (case Z2 => k_is)
    (case T2 => k_is)
    (case K2 => k_is)
    (case P2 => k_exc)
    (case A3 => k_is)
    (case X3 => k_is)
    (case G3 => k_is)
    (case H3 => k_is)
    (case Z3 => k_is)
    (case T3 => k_is)
    (case K3 => k_is)
    (case P3 => k_exc)
    (case A4 => k_is)
    (case X4 => k_is)
    (case G4 => k_is)
    (case H4 => k_is)
    (case Z4 => k_is)
    (case T4 => k_is)
    (case K4 => k_is)
    (case P4 => k_exc)
    (case A5 => k_is)
    (case X5 => k_is)
    (case G5 => k_is)
    (case H5 => k_is)
    (case Z5 => k_is)
    (case T5 => k_is)
    (case K5 => k_is)
    (case P5 => k_exc)
    (case A6 => k_is)
    (case X6 => k_is)
    (case G6 => k_is)
    (case H6 => k_is)
    (case Z6 => k_is)
    (case T6 => k_is)
    (case K6 => k_is)
    (case P6 => k_exc)
    (case A7 => k_is)
    (case X7 => k_is)
    (case G7 => k_is)
    (case H7 => k_is)
    (case Z7 => k_is)
    (case T7 => k_is)
    (case K7 => k_is)
    (case P7 => k_exc)
    (case A8 => k_is)
    (case X8 => k_is)
    (case G8 => k_is)
    (case H8 => k_is)
    (case Z8 => k_is)
    (case T8 => k_is)
    (case K8 => k_is)
    (case P8 => k_exc)
    (case A9 => k_is)
    (case X9 => k_is)
    (case G9 => k_is)
    (case H9 => k_is)
    (case Z9 => k_is)
    (case T9 => k_is)
    (case K9 => k_is)
    (case P9 => k_exc)
    (case A10 => k_is)
    (case X10 => k_is)
    (case G10 => k_is)
    (case H10 => k_is)
    (case Z10 => k_is)
    (case T10 => k_is)
    (case K10 => k_is)
    (case P10 => k_exc)
    (case A11 => k_is)
    (case X11 => k_is)
    (case G11 => k_is)
    (case H11 => k_is)
    (case Z11 => k_is)
    (case T11 => k_is)
    (case K11 => k_is)
    (case P11 => k_exc)
    (case A12 => k_is)
    (case X12 => k_is)
    (case G12 => k_is)
    (case H12 => k_is)
    (case Z12 => k_is)
    (case T12 => k_is)
    (case K12 => k_is)
    (case P12 => k_exc)
    (case A13 => k_is)
    (case X13 => k_is)
    (case G13 => k_is)
    (case H13 => k_is)
    (case Z13 => k_is)
    (case T13 => k_is)
    (case K13 => k_is)
    (case P13 => k_exc)
    (case A14 => k_is)
    (case X14 => k_is)
    (case G14 => k_is)
    (case H14 => k_is)
    (case Z14 => k_is)
    (case T14 => k_is)
    (case K14 => k_is)
    (case P14 => k_exc)
    (case A15 => k_is)
    (case X15 => k_is)
    (case G15 => k_is)
    (case H15 => k_is)
    (case Z15 => k_is)
    (case T15 => k_is)
    (case K15 => k_is)
    (case P15 => k_exc)
    (case A16 => k_is)
    (case X16 => k_is)
    (case G16 => k_is)
    (case H16 => k_is)
    (case Z16 => k_is)
    (case T16 => k_is)
    (case K16 => k_is)
    (case P16 => k_exc)
    (case A17 => k_is)
    (case X17 => k_is)
    (case G17 => k_is)
    (case H17 => k_is)
    (case Z17 => k_is)
    (case T17 => k_is)
    (case K17 => k_is)
    (case P17 => k_exc)
    (case A18 => k_is)
    (case X18 => k_is)
    (case G18 => k_is)
    (case H18 => k_is)
    (case Z18 => k_is)
    (case T18 => k_is)
    (case K18 => k_is)
    (case S18 => k_is)
    (case I18 => k_is)
    (case F18 => k_is)
    (case L18 => k_is)
    (case D18 => k_is)
    (case Y18 => k_is)
    (case N18x => k_is)
    (case A19 => k_is)
    (case X19 => k_is)
    (case G19 => k_is)
    (case H19 => k_is)
    (case Z19 => k_is)
    (case T19 => k_is)
    (case K19 => k_is)
    (case S19 => k_is)
    (case I19 => k_is)
    (case F19 => k_is)
    (case L19 => k_is)
    (case D19 => k_is)
    (case Y19 => k_is)
    (case N19x => k_is)
    (case A20 => k_is)
    (case X20 => k_is)
    (case G20 => k_is)
    (case H20 => k_is)
    (case Z20 => k_is)
    (case T20 => k_is)
    (case K20 => k_is)
    (case S20 => k_is)
    (case I20 => k_is)
    (case F20 => k_is)
    (case L20 => k_is)
    (case D20 => k_is)
    (case Y20 => k_is)
    (case N20x => k_is)
    (case A21 => k_is)
    (case X21 => k_is)
    (case G21 => k_is)
    (case H21 => k_is)
    (case Z21 => k_is)
    (case T21 => k_is)
    (case K21 => k_is)
    (case S21 => k_is)
    (case I21 => k_is)
    (case F21 => k_is)
    (case L21 => k_is)
    (case D21 => k_is)
    (case Y21 => k_is)
    (case N21x => k_is)
    (case A22 => k_is)
    (case X22 => k_is)
    (case G22 => k_is)
    (case H22 => k_is)
    (case Z22 => k_is)
    (case T22 => k_is)
    (case K22 => k_is)
    (case S22 => k_is)
    (case I22 => k_is)
    (case F22 => k_is)
    (case L22 => k_is)
    (case D22 => k_is)
    (case Y22 => k_is)
    (case N22x => k_is)
    (case A23 => k_is)
    (case X23 => k_is)
    (case G23 => k_is)
    (case H23 => k_is)
    (case Z23 => k_is)
    (case T23 => k_is)
    (case K23 => k_is)
    (case S23 => k_is)
    (case I23 => k_is)
    (case F23 => k_is)
    (case L23 => k_is)
    (case D23 => k_is)
    (case Y23 => k_is)
    (case N23x => k_is)
    (case A24 => k_is)
    (case X24 => k_is)
    (case G24 => k_is)
    (case H24 => k_is)
    (case Z24 => k_is)
    (case T24 => k_is)
    (case K24 => k_is)
    (case S24 => k_is)
    (case I24 => k_is)
    (case F24 => k_is)
    (case L24 => k_is)
    (case D24 => k_is)
    (case Y24 => k_is)
    (case N24x => k_is)
    (case A25 => k_is)
    (case X25 => k_is)
    (case G25 => k_is)
    (case H25 => k_is)
    (case Z25 => k_is)
    (case T25 => k_is)
    (case K25 => k_is)
    (case S25 => k_is)
    (case I25 => k_is)
    (case F25 => k_is)
    (case L25 => k_is)
    (case D25 => k_is)
    (case Y25 => k_is)
    (case N25a => k_is)
    (case N25b => k_is)
    (case N25c => k_is)
    (case sg => k_is)
    (case tk => k_is)
    (case a28 => k_is)
    (case l28 => k_is)
    (case c28d => k_is)
    (case k28 => k_is)
    (case a29 => k_is)
    (case l29 => k_is)
    (case c29d => k_is)
    (case k29 => k_is)
    (case a30 => k_is)
    (case l30 => k_is)
    (case c30d => k_is)
    (case k30 => k_is)
    (case a31 => k_is)
    (case l31 => k_is)
    (case c31d => k_is)
    (case k31 => k_is)
    (case a32 => k_is)
    (case l32 => k_is)
    (case c32d => k_is)
    (case k32 => k_is)
    (case a33 => k_is)
    (case l33 => k_is)
    (case c33d => k_is)
    (case k33 => k_is)
    (case a34 => k_is)
    (case l34 => k_is)
    (case c34d => k_is)
    (case k34 => k_is)
    (case a35 => k_is)
    (case l35 => k_is)
    (case c35d => k_is)
    (case k35 => k_is)
    (case a36 => k_is)
    (case l36 => k_is)
    (case c36d => k_is)
    (case k36 => k_is)
    (case a37 => k_is)
    (case l37 => k_is)
    (case c37d => k_is)
    (case k37 => k_is)
    (case a38 => k_is)
    (case l38 => k_is)
    (case c38d => k_is)
    (case k38 => k_is)
    (case a39 => k_is)
    (case l39 => k_is)
    (case c39d => k_is)
    (case k39 => k_is)
    (case z_isinstance => k_is)
    (case z_len => k_is)
    (case z_sum => k_is)
    (case z_int => k_is)
    (case z_abs => k_is)
    (case z_max => k_is)
    (case z_min => k_is)
    (case z_range => k_is)
    (case z_list => k_is)
    (case z_tuple => k_is)
    (case z_ValueError => k_is)
    (case z_IndexError => k_is)
    (case z_KeyError => k_is)
    (case z_LookupError => k_is)
    (case z_OverflowError => k_is)
    (case z_ArithmeticError => k_is)
    (case z_RuntimeError => k_is)
    (case nd => decide +kernel)
