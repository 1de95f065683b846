import PyProof.Rows.All
import Wide.All
import OpenK.AllK
import Wide.FinOn
import HandS.ForMost
import HandS.ForExc
import HandS.Wide
import HandS.Evl
import HandS.Gcd
import HandS.Style
import HandS.NoneIn
import HandS.IsInst
import HandS.TryOnly
import HandS.Star
import HandS.Defaults
import HandS.Conv
import HandS.ForSpec
import HandS.Head3
import KE.KNestM
import KE.KMathG
import HandS.Steps
import PyProof.P3In
import HandS.Deep
import KE.GoesMore
import HandS.More
import HandS.TupSets
import HandS.SortOrd
import HandS.SortRule
import HandS.Walk
import KE.KDflt
import HandS.Lambda
import HandS.ExcOwn
import HandS.TryMany
import HandS.ExcInit
import HandS.WordsExc
import KE.KExcHand
import KE.KExcIs
import KE.KExcInit
import PyProof.ReprRoads
import PyProof.ReprBulk
import PyProof.DictUpdate
import KE.KDictOf
import HandS.Property
import HandS.OwnEq
import HandS.WordsDict
import KE.KCallOwn
import PyProof.InstEq
import HandS.RaiseMore
import HandS.DictComp
import KE.KUnpackStar
import PyProof.MakeMany
import HandS.TupAny
import PyProof.StrOps2
import HandS.EndTab
import PySem.Challenge.RW_wherebase_k59_errors_of_tables_and_condi
set_option Elab.async false
set_option linter.all false
set_option maxRecDepth 100000
set_option maxHeartbeats 2000000
namespace Q
open PySem L2
def top (i : Nat) : Stmt := PySem.Challenge.pw_wherebase_k59_errors_of_tables_and_condi.main.body.getD i (.Pass ⟨0, 0, 0, 0⟩)
abbrev sBag : Stmt := top 154
abbrev sDraw : Stmt := top 155
abbrev sOne : Stmt := top 156
/-! ### powers of any size that fits -/
def CPowW (i j : Int) : Prop := 0 ≤ j ∧ (Builtin.Int.intBits i : Int) * j ≤ 2 ^ 27
theorem op_powW {X : Cx} : OpR X (binaryOp .Pow) (rI CPowW fun i j => .int (i ^ j.toNat)) := opI fun _ _ _ _ _ _ _ hc q => PyProof.Rows.pow_int hc.1 hc.2 q
/-! ### what a draw changes -/
structure Bgd (p : Addr) (H H' : Hp) : Prop where
  bag : ∃ a b c : Int, H' p = some (.lst [.int a, .int b, .int c])
  keep : ∀ l o, l ≠ p → H l = some o → H' l = some o
theorem Bgd.rfl' {p : Addr} {H : Hp} {a b c : Int} (h : H p = some (.lst [.int a, .int b, .int c])) : Bgd p H H := ⟨⟨a, b, c, h⟩, fun _ _ _ e => e⟩
theorem Bgd.trans {p : Addr} {H H1 H2 : Hp} (x : Bgd p H H1) (y : Bgd p H1 H2) : Bgd p H H2 := ⟨y.bag, fun l o n e => y.keep l o n (x.keep l o n e)⟩
theorem Bgd.free {p l : Addr} {H H1 : Hp} (x : Bgd p H H1) (h : H1 l = none) : H l = none := by
  obtain ⟨a, b, c, e⟩ := x.bag
  by_cases z : l = p
  · rw [z, e] at h
    cases h
  · cases q : H l with
    | none => rfl
    | some o =>
      rw [x.keep l o z q] at h
      cases h
theorem Bgd.new {p l : Addr} {H H1 : Hp} {o : HO} (x : Bgd p H H1) (h : H1 l = none) : Bgd p H (upd H1 l o) := by
  obtain ⟨a, b, c, e⟩ := x.bag
  refine ⟨⟨a, b, c, ?_⟩, fun m u n q => ?_⟩
  · rw [upd_ne (ne_of_none e h)]
    exact e
  · have q1 := x.keep m u n q
    rw [upd_ne (ne_of_none q1 h)]
    exact q1
theorem Bgd.put {p : Addr} {H H1 : Hp} (x : Bgd p H H1) (a b c : Int) : Bgd p H (upd H1 p (.lst [.int a, .int b, .int c])) := by
  refine ⟨⟨a, b, c, upd_same⟩, fun m u n q => ?_⟩
  rw [upd_ne n]
  exact x.keep m u n q
theorem Bgd.same {p : Addr} {H0 H H1 : Hp} (s : Same H0 H) (n : H0 p = none) (x : Bgd p H H1) : Same H0 H1 := fun l o e => x.keep l o (ne_of_none e n) (s l o e)
theorem atI_in {xs : List V} {r : Int} (h0 : 0 ≤ r) (h : r < xs.length) : ∃ v, atI xs r = some v ∧ xs[r.toNat]? = some v := by
  obtain ⟨n, rfl⟩ := Int.eq_ofNat_of_zero_le h0
  have hn : n < xs.length := by omega
  refine ⟨xs[n], ?_, ?_⟩
  · rw [atI_nat]
    simp [hn]
  · simp [hn]
theorem cut_ints (ns : List Int) (lo hi : Option Int) : ∃ ms : List Int, cutV (ns.map V.int) lo hi = ms.map V.int := by
  have cut : ∀ i j : Nat, ((ns.map V.int).drop i).take j = ((ns.drop i).take j).map V.int := fun i j => by rw [← List.map_drop, ← List.map_take]
  exact ⟨_, cut _ _⟩
theorem log_len {n : Nat} (h : n ≤ 1000) : ((n : Nat) : Int).natAbs.log2 < 9000 := by
  rw [Int.natAbs_natCast]
  exact Nat.lt_of_le_of_lt (Nat.le_trans (Nat.log2_le_self n) h) (by decide)
/-! ### the promises -/
def spBag (K : PySem.W.Frag) : Sp := fun vs H Q _ => ∃ (a : Addr) (ns : List Int) (i : Nat), vs = [.ref a, .int i] ∧ SqL K H a (ns.map V.int) ∧ i < 1000 ∧
  ∀ (p : Addr) (H' : Hp), H p = none → Same H H' → (∃ a b c : Int, H' p = some (.lst [.int a, .int b, .int c])) → Q (.ref p) H'
def spDraw : Sp := fun vs H Q _ => ∃ (p : Addr) (a b c n : Int), vs = [.ref p, .int n] ∧ H p = some (.lst [.int a, .int b, .int c]) ∧ 0 < n ∧ n.natAbs.log2 < 9000 ∧
  ∀ (r : Int) (H' : Hp), 0 ≤ r → r < n → Bgd p H H' → Q (.int r) H'
def spOne : Sp := fun vs H Q _ => ∃ (p q : Addr) (a b c : Int) (xs : List V), vs = [.ref p, .ref q] ∧ H p = some (.lst [.int a, .int b, .int c]) ∧ q ≠ p ∧ H q = some (.lst xs) ∧ 0 < xs.length ∧ xs.length ≤ 1000 ∧
  ∀ (i : Nat) (v : V) (H' : Hp), xs[i]? = some v → Bgd p H H' → Q v H'
def spShuf : Sp := fun vs H Q _ => ∃ (p q : Addr) (a b c : Int) (xs : List V), vs = [.ref p, .ref q] ∧ H p = some (.lst [.int a, .int b, .int c]) ∧ q ≠ p ∧ H q = some (.lst xs) ∧ xs.length ≤ 1000 ∧
  ∀ (l : Addr) (ys : List V) (H' : Hp), ys.Perm xs → H' l = some (.lst ys) → H l = none → Bgd p H H' → Q (.ref l) H'
structure TB (mg : Str → Option Value) : Prop where
  len : mg "len" = none
  sum : mg "sum" = none
  int : mg "int" = none
  abs : mg "abs" = none
  max : mg "max" = none
  range : mg "range" = none
  list : mg "list" = none
section
variable {P : Program} {w : World} {K : PySem.W.Frag} {mg : Str → Option Value} {base : Heap}
theorem scBag : FnScope ["script", "at", "cell", "great", "mixed"] ["script", "at"] (defScope sBag) := ⟨rfl, rfl, rfl, by decide +kernel, rfl, by decide +kernel, by decide +kernel⟩
theorem bigM : ((((10 : Int) ^ (Int.toNat 47)) ^ (Int.toNat 13))) ≠ 0 := by decide +kernel
theorem ok_bag {f : Addr} {fd : FuncData} (F : Fun K "_law_bag" "_law_bag" sBag f fd) (T : TB mg) : FnOk P w K mg base CX0 1 f fd ["script", "at"] (spBag K) := by
  refine F.ok scBag (fun vs H Q E h => ?_) (fun cdv A outer s H vs Q E hr h => ?_)
  · obtain ⟨a, ns, i, rfl, _⟩ := h
    rfl
  · obtain ⟨a, ns, i, rfl, hS, hi, k⟩ := h
    refine ⟨_, Evl.pss_cut (ps_set (i := 2) scBag.nd rfl (Or.inl rfl) (pe_ifExp (pt_cmpR op_lt (pv 1) (pe_callB call_len_seq (by rfl) T.len PySem.boot_len (pa_cons (pv 0) pa_nil)) (nomark _))
        (pe_ix ix_list (pv 0) (pv 1) (fun _ _ => rfl))
        (pe_op op_add (pe_op op_add (pe_callB (cr_sum rfl) (by rfl) T.sum (by decide +kernel) (pa_cons (pe_slice sl_list (pv 0) po_none (po_some pe_int)) pa_nil)) (pe_op op_mul pe_int (pv 1))) pe_int)))
      (pss_cons (ps_set (i := 3) scBag.nd rfl (Or.inl rfl) (pe_op op_modN (pe_callTy call_int1 (by rfl) T.int (by decide +kernel) (pa_cons (pe_callB call_abs (by rfl) T.abs (by decide +kernel) (pa_cons (pv 2) pa_nil)) pa_nil)) (pe_op op_powW (pe_op op_powW pe_int pe_int) pe_int)))
      (pss_cons (ps_set (i := 4) scBag.nd rfl (Or.inl rfl) (pe_op op_add (pe_op op_add (pe_op op_add (pe_op op_mul (pe_op op_mod (pe_callTy call_int1 (by rfl) T.int (by decide +kernel) (pa_cons (pv 3) pa_nil)) pe_int) pe_int) (pe_op op_mul pe_int (pv 1))) (pe_op op_mul pe_int (pe_callTy call_int1 (by rfl) T.int (by decide +kernel) (pa_cons (pe_cmpR op_lt (pv 2) pe_int (nomark _)) pa_nil)))) pe_int))
      (pss_one (ps_ret (pe_lst (pa_cons (pe_callB (call_max2 rfl) (by rfl) T.max (by decide +kernel) (pa_cons pe_int (pa_cons (pe_op op_sub (pv 3) (pe_op op_powW pe_int pe_int)) pa_nil))) (pa_cons (pe_op op_mod (pe_callTy call_int1 (by rfl) T.int (by decide +kernel) (pa_cons (pv 4) pa_nil)) pe_int) (pa_cons pe_int pa_nil)))))))), ?_⟩
    refine ⟨fun σ' H' => Same H H' ∧ ∃ c : Int, σ' = [some (.ref a), some (.int i), some (.int c), none, none], ?_, ?_⟩
    · refine ⟨_, rfl, _, rfl, a, _, rfl, .inl hS, _, _, rfl, rfl, _, rfl, ?_⟩
      refine ite2 (fun hlt => ?_) (fun _ => ?_)
      · have hlt := of_decide_eq_true hlt
        rw [List.length_map] at hlt
        have hl : i < ns.length := by omega
        refine ⟨_, rfl, _, rfl, a, _, _, V.int ns[i], rfl, rfl, hS, ?_, ?_⟩
        · rw [atI_nat]
          simp [hl]
        · exact ⟨Same.refl H, _, rfl⟩
      · refine ⟨_, rfl, _, rfl, a, ns.map V.int, rfl, hS, fun l hl => ?_⟩
        obtain ⟨ms, em⟩ := cut_ints ns none (some 1)
        rw [em]
        refine ⟨l, ms, rfl, SqL.of upd_same, _, rfl, _, _, rfl, rfl, .inl ?_, _, _, rfl, rfl, _, _, rfl, rfl, ?_⟩
        · show -(2 ^ 64) < (103 : Int) ∧ (103 : Int) < 2 ^ 64
          decide
        · exact ⟨fun b o e => by rw [upd_ne (ne_of_none e hl)]; exact e, _, rfl⟩
    · rintro σ' H1 ⟨s1, cell, rfl⟩
      refine ⟨_, rfl, cell, rfl, .inl ⟨_, rfl, ?_⟩⟩
      refine ⟨_, _, rfl, rfl, ⟨by decide, by decide +kernel⟩, _, _, rfl, rfl, ⟨by decide, by decide +kernel⟩, _, _, rfl, rfl, bigM, ?_⟩
      refine ⟨_, rfl, .inl ⟨_, rfl, _, _, rfl, rfl, (by show (0 : Int) < 2305843009213693723; decide), _, _, rfl, rfl, .inr ?_, _, rfl, _, _, rfl, rfl, .inl ?_, _, _, rfl, rfl, ?_⟩⟩
      · show -(2 ^ 64) < (1000231 : Int) ∧ (1000231 : Int) < 2 ^ 64
        decide
      · show -(2 ^ 64) < (9011 : Int) ∧ (9011 : Int) < 2 ^ 64
        decide
      · refine ⟨_, rfl, _, _, rfl, rfl, .inr ⟨_, rfl, _, _, rfl, rfl, .inl ?_, _, _, rfl, rfl, _, _, rfl, rfl, ?_⟩⟩
        · show -(2 ^ 64) < (41 : Int) ∧ (41 : Int) < 2 ^ 64
          decide
        · refine ⟨_, rfl, _, _, rfl, rfl, ⟨by decide, by decide +kernel⟩, _, _, rfl, rfl, _, _, rfl, ?_⟩
          refine ⟨_, rfl, .inl ⟨_, rfl, _, _, rfl, rfl, ?_, (by show 3 ≤ sizeLine; decide), fun p hp => ?_⟩⟩
          · show (0 : Int) < 2305843009213693951
            decide
          · exact k p _ (s1.free hp) (fun b o e => by rw [upd_ne (ne_of_none (s1 b o e) hp)]; exact s1 b o e) ⟨_, _, _, upd_same⟩
theorem scDraw : FnScope ["bag", "total", "found", "one", "two"] ["bag", "total"] (defScope sDraw) := ⟨rfl, rfl, rfl, by decide +kernel, rfl, by decide +kernel, by decide +kernel⟩
theorem ok_draw {f : Addr} {fd : FuncData} (F : Fun K "_law_draw" "_law_draw" sDraw f fd) (T : TB mg) : FnOk P w K mg base CX0 1 f fd ["bag", "total"] spDraw := by
  refine F.ok scDraw (fun vs H Q E h => ?_) (fun cdv A outer s H vs Q E hr h => ?_)
  · obtain ⟨p, a, b, c, n, rfl, _⟩ := h
    rfl
  · obtain ⟨p, a, b, c, n, rfl, hp, hn, hw, k⟩ := h
    have B0 : Bgd p H H := Bgd.rfl' hp
    refine ⟨_, pss_cons (ps_if (pt_cmpR op_gt (pe_ix ix_list (pv 0) pe_int (fun _ _ => rfl)) pe_int (nomark _))
        (pss_cons (ps_set (i := 2) scDraw.nd rfl (Or.inl rfl) (pe_op op_mod (pe_callTy call_int1 (by rfl) T.int (by decide +kernel) (pa_cons (pe_ix ix_list (pv 0) pe_int (fun _ _ => rfl)) pa_nil)) (pv 1)))
        (pss_cons (ps_asg (pe_op op_fdivW (pe_ix ix_list (pv 0) pe_int (fun _ _ => rfl)) (pv 1)) (pg_sub (pv 0) pe_int set_list))
        (pss_one (ps_ret (pv 2))))) pss_nil)
      (pss_cons (ps_asg (pe_op op_add (pe_ix ix_list (pv 0) pe_int (fun _ _ => rfl)) pe_int) (pg_sub (pv 0) pe_int set_list))
      (pss_cons (ps_set (i := 3) scDraw.nd rfl (Or.inl rfl) (pe_op op_mod (pe_callTy call_int1 (by rfl) T.int (by decide +kernel) (pa_cons (pe_op op_add (pe_ix ix_list (pv 0) pe_int (fun _ _ => rfl)) (pe_op op_mul pe_int (pe_ix ix_list (pv 0) pe_int (fun _ _ => rfl)))) pa_nil)) pe_int))
      (pss_cons (ps_set (i := 4) scDraw.nd rfl (Or.inl rfl) (pe_op op_add (pe_op op_mul (pe_op op_mod (pe_callTy call_int1 (by rfl) T.int (by decide +kernel) (pa_cons (pe_op op_mul (pv 3) (pv 3)) pa_nil)) pe_int) (pv 3)) (pe_op op_mul pe_int (pe_ix ix_list (pv 0) pe_int (fun _ _ => rfl)))))
      (pss_one (ps_ret (pe_op op_mod (pe_callTy call_int1 (by rfl) T.int (by decide +kernel) (pa_cons (pe_op op_fdiv (pe_op op_mod (pe_callTy call_int1 (by rfl) T.int (by decide +kernel) (pa_cons (pv 4) pa_nil)) pe_int) pe_int) pa_nil)) (pv 1))))))), ?_⟩
    refine ⟨_, rfl, p, _, _, V.int a, rfl, rfl, SqL.of hp, rfl, _, _, rfl, rfl, _, rfl, ?_⟩
    refine ite2 (fun _ => ?_) (fun _ => ?_)
    · refine ⟨_, rfl, p, _, _, V.int a, rfl, rfl, SqL.of hp, rfl, .inl ⟨_, rfl, _, rfl, _, _, rfl, rfl, hn, ?_⟩⟩
      refine ⟨_, rfl, p, _, _, V.int a, rfl, rfl, SqL.of hp, rfl, _, rfl, _, _, rfl, rfl, ⟨hn, hw⟩, ?_⟩
      refine ⟨_, rfl, p, _, _, 0, rfl, rfl, hp, rfl, _, rfl, ?_⟩
      exact k _ _ (Int.emod_nonneg _ (by omega)) (Int.emod_lt_of_pos _ hn) (B0.put _ _ _)
    · refine ⟨_, rfl, p, _, _, V.int c, rfl, rfl, SqL.of hp, rfl, _, _, rfl, rfl, ?_⟩
      refine ⟨_, rfl, p, _, _, 2, rfl, rfl, hp, rfl, ?_⟩
      refine ⟨_, rfl, p, _, _, V.int b, rfl, rfl, SqL.of upd_same, rfl, _, rfl, p, _, _, V.int (c + 1), rfl, rfl, SqL.of upd_same, rfl, _, _, rfl, rfl, .inl ?_, _, _, rfl, rfl, .inl ⟨_, rfl, _, _, rfl, rfl, ?_, ?_⟩⟩
      · show -(2 ^ 64) < (1048609 : Int) ∧ (1048609 : Int) < 2 ^ 64
        decide
      · show (0 : Int) < 2305843009213693951
        decide
      have o1 : 0 ≤ (b + 1048609 * (c + 1)) % 2305843009213693951 := Int.emod_nonneg _ (by decide)
      have o2 : (b + 1048609 * (c + 1)) % 2305843009213693951 < 2305843009213693951 := Int.emod_lt_of_pos _ (by decide)
      generalize (b + 1048609 * (c + 1)) % 2305843009213693951 = one at o1 o2 ⊢
      refine ⟨_, rfl, _, rfl, _, _, rfl, rfl, .inl ⟨by omega, by omega⟩, .inl ⟨_, rfl, _, _, rfl, rfl, ?_, ?_⟩⟩
      · show (0 : Int) < 2305843009213693723
        decide
      have t1 : 0 ≤ one * one % 2305843009213693723 := Int.emod_nonneg _ (by decide)
      have t2 : one * one % 2305843009213693723 < 2305843009213693723 := Int.emod_lt_of_pos _ (by decide)
      generalize one * one % 2305843009213693723 = sq at t1 t2 ⊢
      refine ⟨_, rfl, _, _, rfl, rfl, .inl ⟨by omega, by omega⟩, _, rfl, p, _, _, V.int (c + 1), rfl, rfl, SqL.of upd_same, rfl, _, _, rfl, rfl, .inl ?_, _, _, rfl, rfl, ?_⟩
      · show -(2 ^ 64) < (8117 : Int) ∧ (8117 : Int) < 2 ^ 64
        decide
      generalize sq * one + 8117 * (c + 1) = two
      refine ⟨_, rfl, .inl ⟨_, rfl, _, _, rfl, rfl, ?_, _, _, rfl, rfl, ?_, .inl ⟨_, rfl, _, rfl, _, _, rfl, rfl, hn, ?_⟩⟩⟩
      · show (0 : Int) < 2305843009213693921
        decide
      · exact ⟨by decide, by decide⟩
      exact k _ _ (Int.emod_nonneg _ (by omega)) (Int.emod_lt_of_pos _ hn) (B0.put _ _ _)
theorem scOne : FnScope ["bag", "items"] ["bag", "items"] (defScope sOne) := ⟨rfl, rfl, rfl, by decide +kernel, rfl, by decide +kernel, by decide +kernel⟩
theorem ok_one {f fD : Addr} {fd fdD : FuncData} (F : Fun K "_law_one_of" "_law_one_of" sOne f fd) (T : TB mg) (FD : FnOk P w K mg base CX0 1 fD fdD ["bag", "total"] spDraw) (bD : Binds K fdD ["bag", "total"] []) (gD : mg "_law_draw" = some (.ref fD)) (kD : PySem.W.keepIn K (.ref fD) = true) :
    FnOk P w K mg base CX0 2 f fd ["bag", "items"] spOne := by
  refine F.ok scOne (fun vs H Q E h => ?_) (fun cdv A outer s H vs Q E hr h => ?_)
  · obtain ⟨p, q, a, b, c, xs, rfl, _⟩ := h
    rfl
  · obtain ⟨p, q, a, b, c, xs, rfl, hp, hne, hq, h0, h1, k⟩ := h
    refine ⟨_, pss_one (ps_ret (pe_ix ix_list (pv 1) (pe_call FD hr (by rfl) gD kD bD .nil pass0 (pa_cons (pv 0) (pa_cons (pe_callB call_len_seq (by rfl) T.len PySem.boot_len (pa_cons (pv 1) pa_nil)) pa_nil))) (fun _ _ => rfl))), ?_⟩
    refine ⟨_, rfl, _, rfl, _, rfl, q, _, rfl, .inl (SqL.of hq), p, a, b, c, _, rfl, hp, by omega, log_len h1, ?_⟩
    · intro r H' r0 r1 B
      obtain ⟨v, e1, e2⟩ := atI_in r0 r1
      exact ⟨q, xs, _, v, rfl, rfl, SqL.of (B.keep _ _ hne hq), e1, k r.toNat _ _ e2 B⟩
end
end Q
set_option Elab.async false
set_option linter.all false
set_option maxRecDepth 100000
set_option maxHeartbeats 0
/-! the heap behind the top, as it stands; the run -/
namespace Q
open PySem PySem.W PySem.Calls PyProof.Rows L2
def o2 (P : Params) : Obj := ⟨.none, none, (.dict #[⟨PyData.keyHash P (.ofString "import.loaded.math"), (.str (.ofString "import.loaded.math") 186), (.bool true)⟩, ⟨PyData.keyHash P (.ofString "class._frozen_importlib_external._LoaderBasics"), (.str (.ofString "class._frozen_importlib_external._LoaderBasics") 191), (.ref 16)⟩, ⟨PyData.keyHash P (.ofString "watched.import"), (.str (.ofString "watched.import") 207), (.ref 20)⟩, ⟨PyData.keyHash P (.ofString "class._frozen_importlib_external.FileLoader"), (.str (.ofString "class._frozen_importlib_external.FileLoader") 208), (.ref 22)⟩, ⟨PyData.keyHash P (.ofString "class._frozen_importlib_external.ExtensionFileLoader"), (.str (.ofString "class._frozen_importlib_external.ExtensionFileLoader") 229), (.ref 27)⟩, ⟨PyData.keyHash P (.ofString "class._frozen_importlib.ModuleSpec"), (.str (.ofString "class._frozen_importlib.ModuleSpec") 257), (.ref 33)⟩, ⟨PyData.keyHash P (.ofString "sys.modules.booked-epoch"), (.str (.ofString "sys.modules.booked-epoch") 286), (.int (3) 0)⟩, ⟨PyData.keyHash P (.ofString "import.later-laid.math"), (.str (.ofString "import.later-laid.math") 362), (.bool true)⟩, ⟨PyData.keyHash P (.ofString "watched.library"), (.str (.ofString "watched.library") 364), (.ref 38)⟩, ⟨PyData.keyHash P (.ofString "watched.library-objects"), (.str (.ofString "watched.library-objects") 0), (.str (.ofString "\x0d") 0)⟩, ⟨PyData.keyHash P (.ofString "type.__subclasses__.IndexError.0"), (.str (.ofString "type.__subclasses__.IndexError.0") 528), (.int (151) 0)⟩, ⟨PyData.keyHash P (.ofString "type.__subclasses__.IndexError.n"), (.str (.ofString "type.__subclasses__.IndexError.n") 529), (.int (1) 0)⟩, ⟨PyData.keyHash P (.ofString "type.__subclasses__.OverflowError.0"), (.str (.ofString "type.__subclasses__.OverflowError.0") 557), (.int (171) 0)⟩, ⟨PyData.keyHash P (.ofString "type.__subclasses__.OverflowError.n"), (.str (.ofString "type.__subclasses__.OverflowError.n") 558), (.int (1) 0)⟩] 14), #[]⟩
def o3 (P : Params) : Obj := ⟨(.type "dict"), none, (.dict #[⟨PyData.keyHash P (.ofString "__name__"), (.str (.ofString "__name__") 165), (.str (.ofString "law_wherebase_k59_errors_of_tables_and_condi") 2071)⟩, ⟨PyData.keyHash P (.ofString "__doc__"), (.str (.ofString "__doc__") 166), .none⟩, ⟨PyData.keyHash P (.ofString "__package__"), (.str (.ofString "__package__") 167), .none⟩, ⟨PyData.keyHash P (.ofString "__loader__"), (.str (.ofString "__loader__") 168), (.builtin "__main__.__loader__#opaque")⟩, ⟨PyData.keyHash P (.ofString "__spec__"), (.str (.ofString "__spec__") 169), .none⟩, ⟨PyData.keyHash P (.ofString "__annotations__"), (.str (.ofString "__annotations__") 170), (.ref 6)⟩, ⟨PyData.keyHash P (.ofString "__builtins__"), (.str (.ofString "__builtins__") 171), (.ref 4)⟩, ⟨PyData.keyHash P (.ofString "__file__"), (.str (.ofString "__file__") 173), (.str (.ofString "/claim/cut.py") 172)⟩, ⟨PyData.keyHash P (.ofString "__cached__"), (.str (.ofString "__cached__") 174), .none⟩, ⟨PyData.keyHash P (.ofString "gcd"), (.str (.ofString "gcd") 370), (.builtin "math.gcd")⟩, ⟨PyData.keyHash P (.ofString "lcm"), (.str (.ofString "lcm") 373), (.builtin "math.lcm")⟩, ⟨PyData.keyHash P (.ofString "_wall"), (.str (.ofString "_wall") 386), (.ref 49)⟩, ⟨PyData.keyHash P (.ofString "WhereError"), (.str (.ofString "WhereError") 406), (.ref 59)⟩, ⟨PyData.keyHash P (.ofString "InvalidPoint"), (.str (.ofString "InvalidPoint") 422), (.ref 72)⟩, ⟨PyData.keyHash P (.ofString "InvalidShape"), (.str (.ofString "InvalidShape") 438), (.ref 84)⟩, ⟨PyData.keyHash P (.ofString "InvalidTable"), (.str (.ofString "InvalidTable") 454), (.ref 96)⟩, ⟨PyData.keyHash P (.ofString "InvalidRow"), (.str (.ofString "InvalidRow") 470), (.ref 108)⟩, ⟨PyData.keyHash P (.ofString "InvalidCondition"), (.str (.ofString "InvalidCondition") 486), (.ref 120)⟩, ⟨PyData.keyHash P (.ofString "InvalidOperation"), (.str (.ofString "InvalidOperation") 502), (.ref 132)⟩, ⟨PyData.keyHash P (.ofString "InvalidNumber"), (.str (.ofString "InvalidNumber") 531), (.ref 151)⟩, ⟨PyData.keyHash P (.ofString "TooMany"), (.str (.ofString "TooMany") 560), (.ref 171)⟩, ⟨PyData.keyHash P (.ofString "is_integer"), (.str (.ofString "is_integer") 569), (.ref 181)⟩, ⟨PyData.keyHash P (.ofString "is_name"), (.str (.ofString "is_name") 575), (.ref 186)⟩, ⟨PyData.keyHash P (.ofString "is_fraction"), (.str (.ofString "is_fraction") 584), (.ref 193)⟩, ⟨PyData.keyHash P (.ofString "lowest_of"), (.str (.ofString "lowest_of") 592), (.ref 200)⟩, ⟨PyData.keyHash P (.ofString "is_less"), (.str (.ofString "is_less") 600), (.ref 207)⟩, ⟨PyData.keyHash P (.ofString "total_of"), (.str (.ofString "total_of") 606), (.ref 212)⟩, ⟨PyData.keyHash P (.ofString "_lowest"), (.str (.ofString "_lowest") 615), (.ref 219)⟩, ⟨PyData.keyHash P (.ofString "_check"), (.str (.ofString "_check") 622), (.ref 226)⟩, ⟨PyData.keyHash P (.ofString "_check_both"), (.str (.ofString "_check_both") 630), (.ref 233)⟩, ⟨PyData.keyHash P (.ofString "lowest_point"), (.str (.ofString "lowest_point") 642), (.ref 240)⟩, ⟨PyData.keyHash P (.ofString "crossed"), (.str (.ofString "crossed") 650), (.ref 247)⟩, ⟨PyData.keyHash P (.ofString "line_through"), (.str (.ofString "line_through") 662), (.ref 254)⟩, ⟨PyData.keyHash P (.ofString "value_at"), (.str (.ofString "value_at") 670), (.ref 261)⟩, ⟨PyData.keyHash P (.ofString "cross_point"), (.str (.ofString "cross_point") 681), (.ref 268)⟩, ⟨PyData.keyHash P (.ofString "sign_of"), (.str (.ofString "sign_of") 688), (.ref 275)⟩, ⟨PyData.keyHash P (.ofString "turn"), (.str (.ofString "turn") 697), (.ref 282)⟩, ⟨PyData.keyHash P (.ofString "way"), (.str (.ofString "way") 705), (.ref 289)⟩, ⟨PyData.keyHash P (.ofString "lies_between"), (.str (.ofString "lies_between") 718), (.ref 296)⟩, ⟨PyData.keyHash P (.ofString "is_left"), (.str (.ofString "is_left") 726), (.ref 303)⟩, ⟨PyData.keyHash P (.ofString "shared_points"), (.str (.ofString "shared_points") 732), (.ref 308)⟩, ⟨PyData.keyHash P (.ofString "fine_bits"), (.str (.ofString "fine_bits") 740), (.ref 313)⟩, ⟨PyData.keyHash P (.ofString "steps_of"), (.str (.ofString "steps_of") 746), (.ref 318)⟩, ⟨PyData.keyHash P (.ofString "fraction_steps"), (.str (.ofString "fraction_steps") 752), (.ref 323)⟩, ⟨PyData.keyHash P (.ofString "slope_ranks"), (.str (.ofString "slope_ranks") 758), (.ref 328)⟩, ⟨PyData.keyHash P (.ofString "is_point"), (.str (.ofString "is_point") 770), (.ref 335)⟩, ⟨PyData.keyHash P (.ofString "check_points"), (.str (.ofString "check_points") 778), (.ref 342)⟩, ⟨PyData.keyHash P (.ofString "square_between"), (.str (.ofString "square_between") 786), (.ref 349)⟩, ⟨PyData.keyHash P (.ofString "_square"), (.str (.ofString "_square") 796), (.ref 356)⟩, ⟨PyData.keyHash P (.ofString "Groups"), (.str (.ofString "Groups") 852), (.ref 394)⟩, ⟨PyData.keyHash P (.ofString "form_of"), (.str (.ofString "form_of") 860), (.ref 403)⟩, ⟨PyData.keyHash P (.ofString "pieces_of"), (.str (.ofString "pieces_of") 866), (.ref 408)⟩, ⟨PyData.keyHash P (.ofString "_in_points"), (.str (.ofString "_in_points") 872), (.ref 413)⟩, ⟨PyData.keyHash P (.ofString "_areas"), (.str (.ofString "_areas") 878), (.ref 418)⟩, ⟨PyData.keyHash P (.ofString "_owners"), (.str (.ofString "_owners") 893), (.ref 425)⟩, ⟨PyData.keyHash P (.ofString "_ring_from"), (.str (.ofString "_ring_from") 907), (.ref 432)⟩, ⟨PyData.keyHash P (.ofString "_is_outer"), (.str (.ofString "_is_outer") 913), (.ref 437)⟩, ⟨PyData.keyHash P (.ofString "_corners_of"), (.str (.ofString "_corners_of") 919), (.ref 442)⟩, ⟨PyData.keyHash P (.ofString "_is_knot"), (.str (.ofString "_is_knot") 927), (.ref 449)⟩, ⟨PyData.keyHash P (.ofString "_straight_on"), (.str (.ofString "_straight_on") 940), (.ref 456)⟩, ⟨PyData.keyHash P (.ofString "_is_alone"), (.str (.ofString "_is_alone") 946), (.ref 461)⟩, ⟨PyData.keyHash P (.ofString "cut"), (.str (.ofString "cut") 954), (.ref 466)⟩, ⟨PyData.keyHash P (.ofString "_points_on_sides"), (.str (.ofString "_points_on_sides") 960), (.ref 471)⟩, ⟨PyData.keyHash P (.ofString "half_below"), (.str (.ofString "half_below") 977), (.ref 478)⟩, ⟨PyData.keyHash P (.ofString "_is_above"), (.str (.ofString "_is_above") 988), (.ref 485)⟩, ⟨PyData.keyHash P (.ofString "Web"), (.str (.ofString "Web") 1127), (.ref 569)⟩, ⟨PyData.keyHash P (.ofString "_linked"), (.str (.ofString "_linked") 1133), (.ref 578)⟩, ⟨PyData.keyHash P (.ofString "_walked"), (.str (.ofString "_walked") 1145), (.ref 585)⟩, ⟨PyData.keyHash P (.ofString "ring_sides"), (.str (.ofString "ring_sides") 1153), (.ref 590)⟩, ⟨PyData.keyHash P (.ofString "flooded"), (.str (.ofString "flooded") 1167), (.ref 597)⟩, ⟨PyData.keyHash P (.ofString "Sheet"), (.str (.ofString "Sheet") 1230), (.ref 631)⟩, ⟨PyData.keyHash P (.ofString "place_at"), (.str (.ofString "place_at") 1240), (.ref 642)⟩, ⟨PyData.keyHash P (.ofString "marks_of"), (.str (.ofString "marks_of") 1250), (.ref 649)⟩, ⟨PyData.keyHash P (.ofString "_knots_and_points"), (.str (.ofString "_knots_and_points") 1266), (.ref 656)⟩, ⟨PyData.keyHash P (.ofString "is_told_corner"), (.str (.ofString "is_told_corner") 1275), (.ref 663)⟩, ⟨PyData.keyHash P (.ofString "are_told_corners"), (.str (.ofString "are_told_corners") 1281), (.ref 668)⟩, ⟨PyData.keyHash P (.ofString "is_told_ring"), (.str (.ofString "is_told_ring") 1288), (.ref 675)⟩, ⟨PyData.keyHash P (.ofString "is_told_area"), (.str (.ofString "is_told_area") 1294), (.ref 680)⟩, ⟨PyData.keyHash P (.ofString "is_told_piece"), (.str (.ofString "is_told_piece") 1301), (.ref 687)⟩, ⟨PyData.keyHash P (.ofString "is_told_shape"), (.str (.ofString "is_told_shape") 1307), (.ref 692)⟩, ⟨PyData.keyHash P (.ofString "told_size"), (.str (.ofString "told_size") 1313), (.ref 697)⟩, ⟨PyData.keyHash P (.ofString "told_point"), (.str (.ofString "told_point") 1320), (.ref 704)⟩, ⟨PyData.keyHash P (.ofString "told_points"), (.str (.ofString "told_points") 1326), (.ref 709)⟩, ⟨PyData.keyHash P (.ofString "told_form"), (.str (.ofString "told_form") 1332), (.ref 714)⟩, ⟨PyData.keyHash P (.ofString "place_among"), (.str (.ofString "place_among") 1349), (.ref 721)⟩, ⟨PyData.keyHash P (.ofString "_place_on_lines"), (.str (.ofString "_place_on_lines") 1355), (.ref 726)⟩, ⟨PyData.keyHash P (.ofString "_height"), (.str (.ofString "_height") 1363), (.ref 733)⟩, ⟨PyData.keyHash P (.ofString "MAX_TOLD"), (.str (.ofString "MAX_TOLD") 1367), (.int (200) 1366)⟩, ⟨PyData.keyHash P (.ofString "Shape"), (.str (.ofString "Shape") 1496), (.ref 838)⟩, ⟨PyData.keyHash P (.ofString "check_shapes"), (.str (.ofString "check_shapes") 1504), (.ref 849)⟩, ⟨PyData.keyHash P (.ofString "check_told_size"), (.str (.ofString "check_told_size") 1511), (.ref 856)⟩, ⟨PyData.keyHash P (.ofString "check_drawn"), (.str (.ofString "check_drawn") 1517), (.ref 861)⟩, ⟨PyData.keyHash P (.ofString "sheet_of"), (.str (.ofString "sheet_of") 1523), (.ref 866)⟩, ⟨PyData.keyHash P (.ofString "mark_points"), (.str (.ofString "mark_points") 1529), (.ref 871)⟩, ⟨PyData.keyHash P (.ofString "nearest_points"), (.str (.ofString "nearest_points") 1544), (.ref 878)⟩, ⟨PyData.keyHash P (.ofString "foot_of"), (.str (.ofString "foot_of") 1559), (.ref 885)⟩, ⟨PyData.keyHash P (.ofString "_nearest_mark"), (.str (.ofString "_nearest_mark") 1565), (.ref 890)⟩, ⟨PyData.keyHash P (.ofString "_along"), (.str (.ofString "_along") 1579), (.ref 897)⟩, ⟨PyData.keyHash P (.ofString "_square_to"), (.str (.ofString "_square_to") 1596), (.ref 904)⟩, ⟨PyData.keyHash P (.ofString "area_of"), (.str (.ofString "area_of") 1604), (.ref 909)⟩, ⟨PyData.keyHash P (.ofString "square_distance"), (.str (.ofString "square_distance") 1613), (.ref 916)⟩, ⟨PyData.keyHash P (.ofString "nearest_pair"), (.str (.ofString "nearest_pair") 1625), (.ref 923)⟩, ⟨PyData.keyHash P (.ofString "are_near"), (.str (.ofString "are_near") 1636), (.ref 930)⟩, ⟨PyData.keyHash P (.ofString "_doubled"), (.str (.ofString "_doubled") 1648), (.ref 937)⟩, ⟨PyData.keyHash P (.ofString "RELATIONS"), (.str (.ofString "RELATIONS") 1660), (.ref 938)⟩, ⟨PyData.keyHash P (.ofString "nine"), (.str (.ofString "nine") 1668), (.ref 945)⟩, ⟨PyData.keyHash P (.ofString "relations"), (.str (.ofString "relations") 1676), (.ref 952)⟩, ⟨PyData.keyHash P (.ofString "is_related"), (.str (.ofString "is_related") 1685), (.ref 959)⟩, ⟨PyData.keyHash P (.ofString "_rows_of"), (.str (.ofString "_rows_of") 1692), (.ref 966)⟩, ⟨PyData.keyHash P (.ofString "_dimensions"), (.str (.ofString "_dimensions") 1703), (.ref 973)⟩, ⟨PyData.keyHash P (.ofString "_nine_at"), (.str (.ofString "_nine_at") 1716), (.ref 980)⟩, ⟨PyData.keyHash P (.ofString "_relations_told"), (.str (.ofString "_relations_told") 1722), (.ref 985)⟩, ⟨PyData.keyHash P (.ofString "MAX_COLUMNS"), (.str (.ofString "MAX_COLUMNS") 1726), (.int (8) 1725)⟩, ⟨PyData.keyHash P (.ofString "MAX_ROWS"), (.str (.ofString "MAX_ROWS") 1728), (.int (60) 1727)⟩, ⟨PyData.keyHash P (.ofString "MAX_SIZE"), (.str (.ofString "MAX_SIZE") 1730), (.int (60) 1729)⟩, ⟨PyData.keyHash P (.ofString "MAX_TEXT"), (.str (.ofString "MAX_TEXT") 1732), (.int (40) 1731)⟩, ⟨PyData.keyHash P (.ofString "KINDS"), (.str (.ofString "KINDS") 1736), (.ref 986)⟩, ⟨PyData.keyHash P (.ofString "Table"), (.str (.ofString "Table") 1895), (.ref 1117)⟩, ⟨PyData.keyHash P (.ofString "kind_of_value"), (.str (.ofString "kind_of_value") 1901), (.ref 1126)⟩, ⟨PyData.keyHash P (.ofString "check_table"), (.str (.ofString "check_table") 1908), (.ref 1133)⟩, ⟨PyData.keyHash P (.ofString "kind_of_term"), (.str (.ofString "kind_of_term") 1916), (.ref 1138)⟩, ⟨PyData.keyHash P (.ofString "terms_within"), (.str (.ofString "terms_within") 1923), (.ref 1145)⟩, ⟨PyData.keyHash P (.ofString "value_of_term"), (.str (.ofString "value_of_term") 1929), (.ref 1150)⟩, ⟨PyData.keyHash P (.ofString "is_square"), (.str (.ofString "is_square") 1936), (.ref 1157)⟩, ⟨PyData.keyHash P (.ofString "as_fraction"), (.str (.ofString "as_fraction") 1943), (.ref 1164)⟩, ⟨PyData.keyHash P (.ofString "_kind_of_plain_term"), (.str (.ofString "_kind_of_plain_term") 1953), (.ref 1171)⟩, ⟨PyData.keyHash P (.ofString "MAX_PARTS"), (.str (.ofString "MAX_PARTS") 1957), (.int (60) 1956)⟩, ⟨PyData.keyHash P (.ofString "MAX_DEPTH"), (.str (.ofString "MAX_DEPTH") 1959), (.int (8) 1958)⟩, ⟨PyData.keyHash P (.ofString "_OPPOSITES"), (.str (.ofString "_OPPOSITES") 1966), (.ref 1172)⟩, ⟨PyData.keyHash P (.ofString "is_term"), (.str (.ofString "is_term") 1974), (.ref 1179)⟩, ⟨PyData.keyHash P (.ofString "is_condition"), (.str (.ofString "is_condition") 1980), (.ref 1184)⟩, ⟨PyData.keyHash P (.ofString "term_value"), (.str (.ofString "term_value") 1989), (.ref 1191)⟩, ⟨PyData.keyHash P (.ofString "truth"), (.str (.ofString "truth") 1998), (.ref 1198)⟩, ⟨PyData.keyHash P (.ofString "truths"), (.str (.ofString "truths") 2004), (.ref 1203)⟩, ⟨PyData.keyHash P (.ofString "moved_inwards"), (.str (.ofString "moved_inwards") 2013), (.ref 1210)⟩, ⟨PyData.keyHash P (.ofString "check_condition"), (.str (.ofString "check_condition") 2021), (.ref 1217)⟩, ⟨PyData.keyHash P (.ofString "_has_form"), (.str (.ofString "_has_form") 2027), (.ref 1222)⟩, ⟨PyData.keyHash P (.ofString "_conditions_of"), (.str (.ofString "_conditions_of") 2034), (.ref 1229)⟩, ⟨PyData.keyHash P (.ofString "_terms_of"), (.str (.ofString "_terms_of") 2040), (.ref 1234)⟩, ⟨PyData.keyHash P (.ofString "_part_count"), (.str (.ofString "_part_count") 2046), (.ref 1239)⟩, ⟨PyData.keyHash P (.ofString "truth_in"), (.str (.ofString "truth_in") 2052), (.ref 1244)⟩, ⟨PyData.keyHash P (.ofString "is_true_of"), (.str (.ofString "is_true_of") 2064), (.ref 1251)⟩, ⟨PyData.keyHash P (.ofString "_moved"), (.str (.ofString "_moved") 2070), (.ref 1256)⟩, ⟨PyData.keyHash P (.ofString "_law_bag"), (.str (.ofString "_law_bag") 2083), (.ref 1263)⟩, ⟨PyData.keyHash P (.ofString "_law_draw"), (.str (.ofString "_law_draw") 2094), (.ref 1270)⟩, ⟨PyData.keyHash P (.ofString "_law_one_of"), (.str (.ofString "_law_one_of") 2102), (.ref 1277)⟩, ⟨PyData.keyHash P (.ofString "_law_met"), (.str (.ofString "_law_met") 2110), (.ref 1284)⟩, ⟨PyData.keyHash P (.ofString "_law_errors"), (.str (.ofString "_law_errors") 2127), (.ref 1291)⟩, ⟨PyData.keyHash P (.ofString "law"), (.str (.ofString "law") 2133), (.ref 1296)⟩] 149), #[]⟩
def o50 : Obj := ⟨(.type "tuple"), none, (.seq #[(.type "ValueError")] 0), #[]⟩
def o57 : Obj := ⟨(.type "tuple"), none, (.seq #[] 0), #[]⟩
def o58 (P : Params) : Obj := ⟨(.type "dict"), none, (.dict #[⟨PyData.keyHash P (.ofString "__module__"), (.str (.ofString "__module__") 396), (.str (.ofString "wherebase.errors") 387)⟩, ⟨PyData.keyHash P (.ofString "__firstlineno__"), (.str (.ofString "__firstlineno__") 400), (.int (6) 399)⟩, ⟨PyData.keyHash P (.ofString "__static_attributes__"), (.str (.ofString "__static_attributes__") 401), (.ref 57)⟩, ⟨PyData.keyHash P (.ofString "__weakref__"), (.str (.ofString "__weakref__") 403), (.ref 60)⟩, ⟨PyData.keyHash P (.ofString "__doc__"), (.str (.ofString "__doc__") 404), .none⟩] 3), #[]⟩
def o59 : Obj := ⟨(.type "type"), none, (.cls ⟨(.ofString "WhereError"), [(.type "ValueError")], [(.ref 59), (.type "ValueError"), (.type "Exception"), (.type "BaseException"), (.type "object")], 58, (.ofString "WhereError"), true, [], [(.ref 72), (.ref 84), (.ref 96), (.ref 108), (.ref 120), (.ref 132)], false, none, false⟩), #[(some (.ref 50)), none, (some (.str (.ofString "WhereError") 389)), (some (.str (.ofString "WhereError") 397)), (some (.builtin "ValueError.__new__")), (some (.bool true))]⟩
def o60 : Obj := ⟨(.type "getset_descriptor"), none, (.fields #[(.str (.ofString "__weakref__") 402), (.ref 59), (.builtin "ExceptionGroup.__weakref__"), .none]), #[]⟩
def o63 : Obj := ⟨(.type "tuple"), none, (.seq #[(.ref 59)] 0), #[]⟩
def o70 : Obj := ⟨(.type "tuple"), none, (.seq #[] 0), #[]⟩
def o71 (P : Params) : Obj := ⟨(.type "dict"), none, (.dict #[⟨PyData.keyHash P (.ofString "__module__"), (.str (.ofString "__module__") 414), (.str (.ofString "wherebase.errors") 387)⟩, ⟨PyData.keyHash P (.ofString "__firstlineno__"), (.str (.ofString "__firstlineno__") 418), (.int (8) 417)⟩, ⟨PyData.keyHash P (.ofString "__static_attributes__"), (.str (.ofString "__static_attributes__") 419), (.ref 70)⟩, ⟨PyData.keyHash P (.ofString "__doc__"), (.str (.ofString "__doc__") 420), .none⟩] 2), #[]⟩
def o72 : Obj := ⟨(.type "type"), none, (.cls ⟨(.ofString "InvalidPoint"), [(.ref 59)], [(.ref 72), (.ref 59), (.type "ValueError"), (.type "Exception"), (.type "BaseException"), (.type "object")], 71, (.ofString "InvalidPoint"), true, [], [], false, none, false⟩), #[(some (.ref 63)), none, (some (.str (.ofString "InvalidPoint") 407)), (some (.str (.ofString "InvalidPoint") 415)), (some (.builtin "ValueError.__new__")), (some (.bool true))]⟩
def o75 : Obj := ⟨(.type "tuple"), none, (.seq #[(.ref 59)] 0), #[]⟩
def o82 : Obj := ⟨(.type "tuple"), none, (.seq #[] 0), #[]⟩
def o83 (P : Params) : Obj := ⟨(.type "dict"), none, (.dict #[⟨PyData.keyHash P (.ofString "__module__"), (.str (.ofString "__module__") 430), (.str (.ofString "wherebase.errors") 387)⟩, ⟨PyData.keyHash P (.ofString "__firstlineno__"), (.str (.ofString "__firstlineno__") 434), (.int (10) 433)⟩, ⟨PyData.keyHash P (.ofString "__static_attributes__"), (.str (.ofString "__static_attributes__") 435), (.ref 82)⟩, ⟨PyData.keyHash P (.ofString "__doc__"), (.str (.ofString "__doc__") 436), .none⟩] 2), #[]⟩
def o84 : Obj := ⟨(.type "type"), none, (.cls ⟨(.ofString "InvalidShape"), [(.ref 59)], [(.ref 84), (.ref 59), (.type "ValueError"), (.type "Exception"), (.type "BaseException"), (.type "object")], 83, (.ofString "InvalidShape"), true, [], [], false, none, false⟩), #[(some (.ref 75)), none, (some (.str (.ofString "InvalidShape") 423)), (some (.str (.ofString "InvalidShape") 431)), (some (.builtin "ValueError.__new__")), (some (.bool true))]⟩
def o87 : Obj := ⟨(.type "tuple"), none, (.seq #[(.ref 59)] 0), #[]⟩
def o94 : Obj := ⟨(.type "tuple"), none, (.seq #[] 0), #[]⟩
def o95 (P : Params) : Obj := ⟨(.type "dict"), none, (.dict #[⟨PyData.keyHash P (.ofString "__module__"), (.str (.ofString "__module__") 446), (.str (.ofString "wherebase.errors") 387)⟩, ⟨PyData.keyHash P (.ofString "__firstlineno__"), (.str (.ofString "__firstlineno__") 450), (.int (12) 449)⟩, ⟨PyData.keyHash P (.ofString "__static_attributes__"), (.str (.ofString "__static_attributes__") 451), (.ref 94)⟩, ⟨PyData.keyHash P (.ofString "__doc__"), (.str (.ofString "__doc__") 452), .none⟩] 2), #[]⟩
def o96 : Obj := ⟨(.type "type"), none, (.cls ⟨(.ofString "InvalidTable"), [(.ref 59)], [(.ref 96), (.ref 59), (.type "ValueError"), (.type "Exception"), (.type "BaseException"), (.type "object")], 95, (.ofString "InvalidTable"), true, [], [], false, none, false⟩), #[(some (.ref 87)), none, (some (.str (.ofString "InvalidTable") 439)), (some (.str (.ofString "InvalidTable") 447)), (some (.builtin "ValueError.__new__")), (some (.bool true))]⟩
def o99 : Obj := ⟨(.type "tuple"), none, (.seq #[(.ref 59)] 0), #[]⟩
def o106 : Obj := ⟨(.type "tuple"), none, (.seq #[] 0), #[]⟩
def o107 (P : Params) : Obj := ⟨(.type "dict"), none, (.dict #[⟨PyData.keyHash P (.ofString "__module__"), (.str (.ofString "__module__") 462), (.str (.ofString "wherebase.errors") 387)⟩, ⟨PyData.keyHash P (.ofString "__firstlineno__"), (.str (.ofString "__firstlineno__") 466), (.int (14) 465)⟩, ⟨PyData.keyHash P (.ofString "__static_attributes__"), (.str (.ofString "__static_attributes__") 467), (.ref 106)⟩, ⟨PyData.keyHash P (.ofString "__doc__"), (.str (.ofString "__doc__") 468), .none⟩] 2), #[]⟩
def o108 : Obj := ⟨(.type "type"), none, (.cls ⟨(.ofString "InvalidRow"), [(.ref 59)], [(.ref 108), (.ref 59), (.type "ValueError"), (.type "Exception"), (.type "BaseException"), (.type "object")], 107, (.ofString "InvalidRow"), true, [], [], false, none, false⟩), #[(some (.ref 99)), none, (some (.str (.ofString "InvalidRow") 455)), (some (.str (.ofString "InvalidRow") 463)), (some (.builtin "ValueError.__new__")), (some (.bool true))]⟩
def o111 : Obj := ⟨(.type "tuple"), none, (.seq #[(.ref 59)] 0), #[]⟩
def o118 : Obj := ⟨(.type "tuple"), none, (.seq #[] 0), #[]⟩
def o119 (P : Params) : Obj := ⟨(.type "dict"), none, (.dict #[⟨PyData.keyHash P (.ofString "__module__"), (.str (.ofString "__module__") 478), (.str (.ofString "wherebase.errors") 387)⟩, ⟨PyData.keyHash P (.ofString "__firstlineno__"), (.str (.ofString "__firstlineno__") 482), (.int (16) 481)⟩, ⟨PyData.keyHash P (.ofString "__static_attributes__"), (.str (.ofString "__static_attributes__") 483), (.ref 118)⟩, ⟨PyData.keyHash P (.ofString "__doc__"), (.str (.ofString "__doc__") 484), .none⟩] 2), #[]⟩
def o120 : Obj := ⟨(.type "type"), none, (.cls ⟨(.ofString "InvalidCondition"), [(.ref 59)], [(.ref 120), (.ref 59), (.type "ValueError"), (.type "Exception"), (.type "BaseException"), (.type "object")], 119, (.ofString "InvalidCondition"), true, [], [], false, none, false⟩), #[(some (.ref 111)), none, (some (.str (.ofString "InvalidCondition") 471)), (some (.str (.ofString "InvalidCondition") 479)), (some (.builtin "ValueError.__new__")), (some (.bool true))]⟩
def o123 : Obj := ⟨(.type "tuple"), none, (.seq #[(.ref 59)] 0), #[]⟩
def o130 : Obj := ⟨(.type "tuple"), none, (.seq #[] 0), #[]⟩
def o131 (P : Params) : Obj := ⟨(.type "dict"), none, (.dict #[⟨PyData.keyHash P (.ofString "__module__"), (.str (.ofString "__module__") 494), (.str (.ofString "wherebase.errors") 387)⟩, ⟨PyData.keyHash P (.ofString "__firstlineno__"), (.str (.ofString "__firstlineno__") 498), (.int (18) 497)⟩, ⟨PyData.keyHash P (.ofString "__static_attributes__"), (.str (.ofString "__static_attributes__") 499), (.ref 130)⟩, ⟨PyData.keyHash P (.ofString "__doc__"), (.str (.ofString "__doc__") 500), .none⟩] 2), #[]⟩
def o132 : Obj := ⟨(.type "type"), none, (.cls ⟨(.ofString "InvalidOperation"), [(.ref 59)], [(.ref 132), (.ref 59), (.type "ValueError"), (.type "Exception"), (.type "BaseException"), (.type "object")], 131, (.ofString "InvalidOperation"), true, [], [], false, none, false⟩), #[(some (.ref 123)), none, (some (.str (.ofString "InvalidOperation") 487)), (some (.str (.ofString "InvalidOperation") 495)), (some (.builtin "ValueError.__new__")), (some (.bool true))]⟩
def o135 : Obj := ⟨(.type "tuple"), none, (.seq #[(.type "IndexError")] 0), #[]⟩
def o147 : Obj := ⟨(.type "code"), none, (.fields #[(.str (.ofString "__init__") 515), (.str (.ofString "InvalidNumber.__init__") 516), (.str (.ofString "/claim/cut.py") 517), (.int (22) 0), (.int (2) 0), (.int (0) 0), (.int (0) 0), (.int (3) 0), (.ref 142), (.bool true), (.int (374) 0), (.ref 143), .none, (.ref 144), (.ref 145), (.ref 146), (.int (520) 0), (.int (22) 0), (.str (.ofString "/claim/cut.py") 521)]), #[]⟩
def o148 : Obj := ⟨(.type "function"), none, (.func ⟨(.ofString "__init__"), (.ofString "InvalidNumber.__init__"), (defArgs (inClass (top 10) 0)), .stmts (defBody (inClass (top 10) 0)), (defScope (inClass (top 10) 0)), 3, [], .none, .none, .none, (.str (.ofString "wherebase.errors") 387), none, (.ref 147), .none, 0⟩), #[]⟩
def o149 : Obj := ⟨(.type "tuple"), none, (.seq #[(.str (.ofString "value") 523)] 0), #[]⟩
def o150 (P : Params) : Obj := ⟨(.type "dict"), none, (.dict #[⟨PyData.keyHash P (.ofString "__module__"), (.str (.ofString "__module__") 510), (.str (.ofString "wherebase.errors") 387)⟩, ⟨PyData.keyHash P (.ofString "__firstlineno__"), (.str (.ofString "__firstlineno__") 514), (.int (20) 513)⟩, ⟨PyData.keyHash P (.ofString "__init__"), (.str (.ofString "__init__") 522), (.ref 148)⟩, ⟨PyData.keyHash P (.ofString "__static_attributes__"), (.str (.ofString "__static_attributes__") 524), (.ref 149)⟩, ⟨PyData.keyHash P (.ofString "__weakref__"), (.str (.ofString "__weakref__") 526), (.ref 152)⟩, ⟨PyData.keyHash P (.ofString "__doc__"), (.str (.ofString "__doc__") 527), .none⟩] 3), #[]⟩
def o151 : Obj := ⟨(.type "type"), none, (.cls ⟨(.ofString "InvalidNumber"), [(.type "IndexError")], [(.ref 151), (.type "IndexError"), (.type "LookupError"), (.type "Exception"), (.type "BaseException"), (.type "object")], 150, (.ofString "InvalidNumber"), true, [], [], false, none, false⟩), #[(some (.ref 135)), none, (some (.str (.ofString "InvalidNumber") 503)), (some (.str (.ofString "InvalidNumber") 511)), (some (.builtin "IndexError.__new__")), (some (.bool true))]⟩
def o152 : Obj := ⟨(.type "getset_descriptor"), none, (.fields #[(.str (.ofString "__weakref__") 525), (.ref 151), (.builtin "ExceptionGroup.__weakref__"), .none]), #[]⟩
def o155 : Obj := ⟨(.type "tuple"), none, (.seq #[(.type "OverflowError")] 0), #[]⟩
def o167 : Obj := ⟨(.type "code"), none, (.fields #[(.str (.ofString "__init__") 544), (.str (.ofString "TooMany.__init__") 545), (.str (.ofString "/claim/cut.py") 546), (.int (26) 0), (.int (2) 0), (.int (0) 0), (.int (0) 0), (.int (3) 0), (.ref 162), (.bool true), (.int (374) 0), (.ref 163), .none, (.ref 164), (.ref 165), (.ref 166), (.int (549) 0), (.int (26) 0), (.str (.ofString "/claim/cut.py") 550)]), #[]⟩
def o168 : Obj := ⟨(.type "function"), none, (.func ⟨(.ofString "__init__"), (.ofString "TooMany.__init__"), (defArgs (inClass (top 11) 0)), .stmts (defBody (inClass (top 11) 0)), (defScope (inClass (top 11) 0)), 3, [], .none, .none, .none, (.str (.ofString "wherebase.errors") 387), none, (.ref 167), .none, 0⟩), #[]⟩
def o169 : Obj := ⟨(.type "tuple"), none, (.seq #[(.str (.ofString "limit") 552)] 0), #[]⟩
def o170 (P : Params) : Obj := ⟨(.type "dict"), none, (.dict #[⟨PyData.keyHash P (.ofString "__module__"), (.str (.ofString "__module__") 539), (.str (.ofString "wherebase.errors") 387)⟩, ⟨PyData.keyHash P (.ofString "__firstlineno__"), (.str (.ofString "__firstlineno__") 543), (.int (24) 542)⟩, ⟨PyData.keyHash P (.ofString "__init__"), (.str (.ofString "__init__") 551), (.ref 168)⟩, ⟨PyData.keyHash P (.ofString "__static_attributes__"), (.str (.ofString "__static_attributes__") 553), (.ref 169)⟩, ⟨PyData.keyHash P (.ofString "__weakref__"), (.str (.ofString "__weakref__") 555), (.ref 172)⟩, ⟨PyData.keyHash P (.ofString "__doc__"), (.str (.ofString "__doc__") 556), .none⟩] 3), #[]⟩
def o171 : Obj := ⟨(.type "type"), none, (.cls ⟨(.ofString "TooMany"), [(.type "OverflowError")], [(.ref 171), (.type "OverflowError"), (.type "ArithmeticError"), (.type "Exception"), (.type "BaseException"), (.type "object")], 170, (.ofString "TooMany"), true, [], [], false, none, false⟩), #[(some (.ref 155)), none, (some (.str (.ofString "TooMany") 532)), (some (.str (.ofString "TooMany") 540)), (some (.builtin "OverflowError.__new__")), (some (.bool true))]⟩
def o172 : Obj := ⟨(.type "getset_descriptor"), none, (.fields #[(.str (.ofString "__weakref__") 554), (.ref 171), (.builtin "ExceptionGroup.__weakref__"), .none]), #[]⟩
def o180 : Obj := ⟨(.type "code"), none, (.fields #[(.str (.ofString "is_integer") 563), (.str (.ofString "is_integer") 564), (.str (.ofString "/claim/cut.py") 565), (.int (29) 0), (.int (1) 0), (.int (0) 0), (.int (0) 0), (.int (3) 0), (.ref 175), (.bool true), (.int (374) 0), (.ref 176), .none, (.ref 177), (.ref 178), (.ref 179), (.int (567) 0), (.int (29) 0), (.str (.ofString "/claim/cut.py") 568)]), #[]⟩
def o181 : Obj := ⟨(.type "function"), none, (.func ⟨(.ofString "is_integer"), (.ofString "is_integer"), (defArgs (top 13)), .stmts (defBody (top 13)), (defScope (top 13)), 3, [], .none, .none, .none, (.str (.ofString "wherebase.base.numbers") 561), none, (.ref 180), .none, 0⟩), #[]⟩
def o185 : Obj := ⟨(.type "code"), none, (.fields #[(.str (.ofString "is_name") 570), (.str (.ofString "is_name") 571), (.str (.ofString "/claim/cut.py") 572), (.int (31) 0), (.int (1) 0), (.int (0) 0), (.int (0) 0), (.int (3) 0), (.ref 182), (.bool true), (.int (374) 0), (.ref 183), .none, .none, .none, (.ref 184), (.int (573) 0), (.int (31) 0), (.str (.ofString "/claim/cut.py") 574)]), #[]⟩
def o186 : Obj := ⟨(.type "function"), none, (.func ⟨(.ofString "is_name"), (.ofString "is_name"), (defArgs (top 14)), .stmts (defBody (top 14)), (defScope (top 14)), 3, [], .none, .none, .none, (.str (.ofString "wherebase.base.numbers") 561), none, (.ref 185), .none, 0⟩), #[]⟩
def o192 : Obj := ⟨(.type "code"), none, (.fields #[(.str (.ofString "is_fraction") 576), (.str (.ofString "is_fraction") 577), (.str (.ofString "/claim/cut.py") 578), (.int (35) 0), (.int (1) 0), (.int (0) 0), (.int (0) 0), (.int (3) 0), (.ref 187), (.bool true), (.int (374) 0), (.ref 188), .none, (.ref 189), (.ref 190), (.ref 191), (.int (582) 0), (.int (35) 0), (.str (.ofString "/claim/cut.py") 583)]), #[]⟩
def o193 : Obj := ⟨(.type "function"), none, (.func ⟨(.ofString "is_fraction"), (.ofString "is_fraction"), (defArgs (top 15)), .stmts (defBody (top 15)), (defScope (top 15)), 3, [], .none, .none, .none, (.str (.ofString "wherebase.base.numbers") 561), none, (.ref 192), .none, 0⟩), #[]⟩
def o746 : Obj := ⟨(.type "code"), none, (.fields #[(.str (.ofString "__init__") 1380), (.str (.ofString "Shape.__init__") 1381), (.str (.ofString "/claim/cut.py") 1382), (.int (575) 0), (.int (4) 0), (.int (0) 0), (.int (0) 0), (.int (3) 0), (.ref 741), (.bool true), (.int (374) 0), (.ref 742), .none, (.ref 743), (.ref 744), (.ref 745), (.int (1387) 0), (.int (575) 0), (.str (.ofString "/claim/cut.py") 1388)]), #[]⟩
def o747 : Obj := ⟨(.type "function"), none, (.func ⟨(.ofString "__init__"), (.ofString "Shape.__init__"), (defArgs (inClass (top 92) 0)), .stmts (defBody (inClass (top 92) 0)), (defScope (inClass (top 92) 0)), 3, [], .none, .none, .none, (.str (.ofString "wherebase.shape.shapes") 1364), none, (.ref 746), .none, 0⟩), #[]⟩
def o751 : Obj := ⟨(.type "code"), none, (.fields #[(.str (.ofString "_take_form") 1390), (.str (.ofString "Shape._take_form") 1391), (.str (.ofString "/claim/cut.py") 1392), (.int (581) 0), (.int (2) 0), (.int (0) 0), (.int (0) 0), (.int (3) 0), (.ref 748), (.bool true), (.int (374) 0), (.ref 749), .none, .none, .none, (.ref 750), (.int (1393) 0), (.int (581) 0), (.str (.ofString "/claim/cut.py") 1394)]), #[]⟩
def o752 : Obj := ⟨(.type "function"), none, (.func ⟨(.ofString "_take_form"), (.ofString "Shape._take_form"), (defArgs (inClass (top 92) 1)), .stmts (defBody (inClass (top 92) 1)), (defScope (inClass (top 92) 1)), 3, [], .none, .none, .none, (.str (.ofString "wherebase.shape.shapes") 1364), none, (.ref 751), .none, 0⟩), #[]⟩
def o758 : Obj := ⟨(.type "code"), none, (.fields #[(.str (.ofString "areas") 1396), (.str (.ofString "Shape.areas") 1397), (.str (.ofString "/claim/cut.py") 1398), (.int (587) 0), (.int (1) 0), (.int (0) 0), (.int (0) 0), (.int (3) 0), (.ref 753), (.bool true), (.int (374) 0), (.ref 754), .none, (.ref 755), (.ref 756), (.ref 757), (.int (1400) 0), (.int (587) 0), (.str (.ofString "/claim/cut.py") 1401)]), #[]⟩
def o759 : Obj := ⟨(.type "function"), none, (.func ⟨(.ofString "areas"), (.ofString "Shape.areas"), (defArgs (inClass (top 92) 2)), .stmts (defBody (inClass (top 92) 2)), (defScope (inClass (top 92) 2)), 3, [], .none, .none, .none, (.str (.ofString "wherebase.shape.shapes") 1364), none, (.ref 758), .none, 0⟩), #[]⟩
def o760 : Obj := ⟨(.type "property"), none, (.fields #[(.ref 759), .none, .none, .none, (.str (.ofString "areas") 1403), (.bool false)]), #[]⟩
def o766 : Obj := ⟨(.type "code"), none, (.fields #[(.str (.ofString "pieces") 1404), (.str (.ofString "Shape.pieces") 1405), (.str (.ofString "/claim/cut.py") 1406), (.int (591) 0), (.int (1) 0), (.int (0) 0), (.int (0) 0), (.int (3) 0), (.ref 761), (.bool true), (.int (374) 0), (.ref 762), .none, (.ref 763), (.ref 764), (.ref 765), (.int (1408) 0), (.int (591) 0), (.str (.ofString "/claim/cut.py") 1409)]), #[]⟩
def o767 : Obj := ⟨(.type "function"), none, (.func ⟨(.ofString "pieces"), (.ofString "Shape.pieces"), (defArgs (inClass (top 92) 3)), .stmts (defBody (inClass (top 92) 3)), (defScope (inClass (top 92) 3)), 3, [], .none, .none, .none, (.str (.ofString "wherebase.shape.shapes") 1364), none, (.ref 766), .none, 0⟩), #[]⟩
def o768 : Obj := ⟨(.type "property"), none, (.fields #[(.ref 767), .none, .none, .none, (.str (.ofString "pieces") 1411), (.bool false)]), #[]⟩
def o774 : Obj := ⟨(.type "code"), none, (.fields #[(.str (.ofString "points") 1412), (.str (.ofString "Shape.points") 1413), (.str (.ofString "/claim/cut.py") 1414), (.int (595) 0), (.int (1) 0), (.int (0) 0), (.int (0) 0), (.int (3) 0), (.ref 769), (.bool true), (.int (374) 0), (.ref 770), .none, (.ref 771), (.ref 772), (.ref 773), (.int (1416) 0), (.int (595) 0), (.str (.ofString "/claim/cut.py") 1417)]), #[]⟩
def o775 : Obj := ⟨(.type "function"), none, (.func ⟨(.ofString "points"), (.ofString "Shape.points"), (defArgs (inClass (top 92) 4)), .stmts (defBody (inClass (top 92) 4)), (defScope (inClass (top 92) 4)), 3, [], .none, .none, .none, (.str (.ofString "wherebase.shape.shapes") 1364), none, (.ref 774), .none, 0⟩), #[]⟩
def o776 : Obj := ⟨(.type "property"), none, (.fields #[(.ref 775), .none, .none, .none, (.str (.ofString "points") 1419), (.bool false)]), #[]⟩
def o782 : Obj := ⟨(.type "code"), none, (.fields #[(.str (.ofString "form") 1420), (.str (.ofString "Shape.form") 1421), (.str (.ofString "/claim/cut.py") 1422), (.int (599) 0), (.int (1) 0), (.int (0) 0), (.int (0) 0), (.int (3) 0), (.ref 777), (.bool true), (.int (374) 0), (.ref 778), .none, (.ref 779), (.ref 780), (.ref 781), (.int (1424) 0), (.int (599) 0), (.str (.ofString "/claim/cut.py") 1425)]), #[]⟩
def o783 : Obj := ⟨(.type "function"), none, (.func ⟨(.ofString "form"), (.ofString "Shape.form"), (defArgs (inClass (top 92) 5)), .stmts (defBody (inClass (top 92) 5)), (defScope (inClass (top 92) 5)), 3, [], .none, .none, .none, (.str (.ofString "wherebase.shape.shapes") 1364), none, (.ref 782), .none, 0⟩), #[]⟩
def o784 : Obj := ⟨(.type "property"), none, (.fields #[(.ref 783), .none, .none, .none, (.str (.ofString "form") 1427), (.bool false)]), #[]⟩
def o790 : Obj := ⟨(.type "code"), none, (.fields #[(.str (.ofString "dimension") 1428), (.str (.ofString "Shape.dimension") 1429), (.str (.ofString "/claim/cut.py") 1430), (.int (603) 0), (.int (1) 0), (.int (0) 0), (.int (0) 0), (.int (3) 0), (.ref 785), (.bool true), (.int (374) 0), (.ref 786), .none, (.ref 787), (.ref 788), (.ref 789), (.int (1433) 0), (.int (603) 0), (.str (.ofString "/claim/cut.py") 1434)]), #[]⟩
def o791 : Obj := ⟨(.type "function"), none, (.func ⟨(.ofString "dimension"), (.ofString "Shape.dimension"), (defArgs (inClass (top 92) 6)), .stmts (defBody (inClass (top 92) 6)), (defScope (inClass (top 92) 6)), 3, [], .none, .none, .none, (.str (.ofString "wherebase.shape.shapes") 1364), none, (.ref 790), .none, 0⟩), #[]⟩
def o792 : Obj := ⟨(.type "property"), none, (.fields #[(.ref 791), .none, .none, .none, (.str (.ofString "dimension") 1436), (.bool false)]), #[]⟩
def o798 : Obj := ⟨(.type "code"), none, (.fields #[(.str (.ofString "sides") 1437), (.str (.ofString "Shape.sides") 1438), (.str (.ofString "/claim/cut.py") 1439), (.int (610) 0), (.int (1) 0), (.int (0) 0), (.int (0) 0), (.int (3) 0), (.ref 793), (.bool true), (.int (374) 0), (.ref 794), .none, (.ref 795), (.ref 796), (.ref 797), (.int (1441) 0), (.int (610) 0), (.str (.ofString "/claim/cut.py") 1442)]), #[]⟩
def o799 : Obj := ⟨(.type "function"), none, (.func ⟨(.ofString "sides"), (.ofString "Shape.sides"), (defArgs (inClass (top 92) 7)), .stmts (defBody (inClass (top 92) 7)), (defScope (inClass (top 92) 7)), 3, [], .none, .none, .none, (.str (.ofString "wherebase.shape.shapes") 1364), none, (.ref 798), .none, 0⟩), #[]⟩
def o800 : Obj := ⟨(.type "property"), none, (.fields #[(.ref 799), .none, .none, .none, (.str (.ofString "sides") 1444), (.bool false)]), #[]⟩
def o806 : Obj := ⟨(.type "code"), none, (.fields #[(.str (.ofString "__contains__") 1445), (.str (.ofString "Shape.__contains__") 1446), (.str (.ofString "/claim/cut.py") 1447), (.int (614) 0), (.int (2) 0), (.int (0) 0), (.int (0) 0), (.int (3) 0), (.ref 801), (.bool true), (.int (374) 0), (.ref 802), .none, (.ref 803), (.ref 804), (.ref 805), (.int (1450) 0), (.int (614) 0), (.str (.ofString "/claim/cut.py") 1451)]), #[]⟩
def o807 : Obj := ⟨(.type "function"), none, (.func ⟨(.ofString "__contains__"), (.ofString "Shape.__contains__"), (defArgs (inClass (top 92) 8)), .stmts (defBody (inClass (top 92) 8)), (defScope (inClass (top 92) 8)), 3, [], .none, .none, .none, (.str (.ofString "wherebase.shape.shapes") 1364), none, (.ref 806), .none, 0⟩), #[]⟩
def o813 : Obj := ⟨(.type "code"), none, (.fields #[(.str (.ofString "__bool__") 1453), (.str (.ofString "Shape.__bool__") 1454), (.str (.ofString "/claim/cut.py") 1455), (.int (617) 0), (.int (1) 0), (.int (0) 0), (.int (0) 0), (.int (3) 0), (.ref 808), (.bool true), (.int (374) 0), (.ref 809), .none, (.ref 810), (.ref 811), (.ref 812), (.int (1457) 0), (.int (617) 0), (.str (.ofString "/claim/cut.py") 1458)]), #[]⟩
def o814 : Obj := ⟨(.type "function"), none, (.func ⟨(.ofString "__bool__"), (.ofString "Shape.__bool__"), (defArgs (inClass (top 92) 9)), .stmts (defBody (inClass (top 92) 9)), (defScope (inClass (top 92) 9)), 3, [], .none, .none, .none, (.str (.ofString "wherebase.shape.shapes") 1364), none, (.ref 813), .none, 0⟩), #[]⟩
def o820 : Obj := ⟨(.type "code"), none, (.fields #[(.str (.ofString "__len__") 1460), (.str (.ofString "Shape.__len__") 1461), (.str (.ofString "/claim/cut.py") 1462), (.int (620) 0), (.int (1) 0), (.int (0) 0), (.int (0) 0), (.int (3) 0), (.ref 815), (.bool true), (.int (374) 0), (.ref 816), .none, (.ref 817), (.ref 818), (.ref 819), (.int (1464) 0), (.int (620) 0), (.str (.ofString "/claim/cut.py") 1465)]), #[]⟩
def o821 : Obj := ⟨(.type "function"), none, (.func ⟨(.ofString "__len__"), (.ofString "Shape.__len__"), (defArgs (inClass (top 92) 10)), .stmts (defBody (inClass (top 92) 10)), (defScope (inClass (top 92) 10)), 3, [], .none, .none, .none, (.str (.ofString "wherebase.shape.shapes") 1364), none, (.ref 820), .none, 0⟩), #[]⟩
def o827 : Obj := ⟨(.type "code"), none, (.fields #[(.str (.ofString "__eq__") 1467), (.str (.ofString "Shape.__eq__") 1468), (.str (.ofString "/claim/cut.py") 1469), (.int (623) 0), (.int (2) 0), (.int (0) 0), (.int (0) 0), (.int (3) 0), (.ref 822), (.bool true), (.int (374) 0), (.ref 823), .none, (.ref 824), (.ref 825), (.ref 826), (.int (1472) 0), (.int (623) 0), (.str (.ofString "/claim/cut.py") 1473)]), #[]⟩
def o828 : Obj := ⟨(.type "function"), none, (.func ⟨(.ofString "__eq__"), (.ofString "Shape.__eq__"), (defArgs (inClass (top 92) 11)), .stmts (defBody (inClass (top 92) 11)), (defScope (inClass (top 92) 11)), 3, [], .none, .none, .none, (.str (.ofString "wherebase.shape.shapes") 1364), none, (.ref 827), .none, 0⟩), #[]⟩
def o834 : Obj := ⟨(.type "code"), none, (.fields #[(.str (.ofString "__str__") 1475), (.str (.ofString "Shape.__str__") 1476), (.str (.ofString "/claim/cut.py") 1477), (.int (626) 0), (.int (1) 0), (.int (0) 0), (.int (0) 0), (.int (3) 0), (.ref 829), (.bool true), (.int (374) 0), (.ref 830), .none, (.ref 831), (.ref 832), (.ref 833), (.int (1482) 0), (.int (626) 0), (.str (.ofString "/claim/cut.py") 1483)]), #[]⟩
def o835 : Obj := ⟨(.type "function"), none, (.func ⟨(.ofString "__str__"), (.ofString "Shape.__str__"), (defArgs (inClass (top 92) 12)), .stmts (defBody (inClass (top 92) 12)), (defScope (inClass (top 92) 12)), 3, [], .none, .none, .none, (.str (.ofString "wherebase.shape.shapes") 1364), none, (.ref 834), .none, 0⟩), #[]⟩
def o836 : Obj := ⟨(.type "tuple"), none, (.seq #[(.str (.ofString "_form") 1485), (.str (.ofString "_members") 1486), (.str (.ofString "_sides") 1487)] 0), #[]⟩
def o837 (P : Params) : Obj := ⟨(.type "dict"), none, (.dict #[⟨PyData.keyHash P (.ofString "__module__"), (.str (.ofString "__module__") 1375), (.str (.ofString "wherebase.shape.shapes") 1364)⟩, ⟨PyData.keyHash P (.ofString "__firstlineno__"), (.str (.ofString "__firstlineno__") 1379), (.int (573) 1378)⟩, ⟨PyData.keyHash P (.ofString "__init__"), (.str (.ofString "__init__") 1389), (.ref 747)⟩, ⟨PyData.keyHash P (.ofString "_take_form"), (.str (.ofString "_take_form") 1395), (.ref 752)⟩, ⟨PyData.keyHash P (.ofString "areas"), (.str (.ofString "areas") 1403), (.ref 760)⟩, ⟨PyData.keyHash P (.ofString "pieces"), (.str (.ofString "pieces") 1411), (.ref 768)⟩, ⟨PyData.keyHash P (.ofString "points"), (.str (.ofString "points") 1419), (.ref 776)⟩, ⟨PyData.keyHash P (.ofString "form"), (.str (.ofString "form") 1427), (.ref 784)⟩, ⟨PyData.keyHash P (.ofString "dimension"), (.str (.ofString "dimension") 1436), (.ref 792)⟩, ⟨PyData.keyHash P (.ofString "sides"), (.str (.ofString "sides") 1444), (.ref 800)⟩, ⟨PyData.keyHash P (.ofString "__contains__"), (.str (.ofString "__contains__") 1452), (.ref 807)⟩, ⟨PyData.keyHash P (.ofString "__bool__"), (.str (.ofString "__bool__") 1459), (.ref 814)⟩, ⟨PyData.keyHash P (.ofString "__len__"), (.str (.ofString "__len__") 1466), (.ref 821)⟩, ⟨PyData.keyHash P (.ofString "__eq__"), (.str (.ofString "__eq__") 1474), (.ref 828)⟩, ⟨PyData.keyHash P (.ofString "__str__"), (.str (.ofString "__str__") 1484), (.ref 835)⟩, ⟨PyData.keyHash P (.ofString "__static_attributes__"), (.str (.ofString "__static_attributes__") 1488), (.ref 836)⟩, ⟨PyData.keyHash P (.ofString "__dict__"), (.str (.ofString "__dict__") 1490), (.ref 839)⟩, ⟨PyData.keyHash P (.ofString "__weakref__"), (.str (.ofString "__weakref__") 1492), (.ref 840)⟩, ⟨PyData.keyHash P (.ofString "__doc__"), (.str (.ofString "__doc__") 1493), .none⟩, ⟨PyData.keyHash P (.ofString "__hash__"), (.str (.ofString "__hash__") 1494), .none⟩] 5), #[]⟩
def o838 : Obj := ⟨(.type "type"), none, (.cls ⟨(.ofString "Shape"), [(.type "object")], [(.ref 838), (.type "object")], 837, (.ofString "Shape"), true, [], [], false, none, false⟩), #[none, none, (some (.str (.ofString "Shape") 1368)), (some (.str (.ofString "Shape") 1376)), (some (.builtin "object.__new__")), (some (.bool true))]⟩
def o839 : Obj := ⟨(.type "getset_descriptor"), none, (.fields #[(.str (.ofString "__dict__") 1489), (.ref 838), (.builtin "function.__dict__"), (.builtin "function.__dict__#set")]), #[]⟩
def o840 : Obj := ⟨(.type "getset_descriptor"), none, (.fields #[(.str (.ofString "__weakref__") 1491), (.ref 838), (.builtin "ExceptionGroup.__weakref__"), .none]), #[]⟩
def o986 : Obj := ⟨(.type "tuple"), none, (.seq #[(.str (.ofString "number") 1733), (.str (.ofString "shape") 1734), (.str (.ofString "text") 1735)] 0), #[]⟩
def o997 : Obj := ⟨(.type "code"), none, (.fields #[(.str (.ofString "__init__") 1749), (.str (.ofString "Table.__init__") 1750), (.str (.ofString "/claim/cut.py") 1751), (.int (764) 0), (.int (2) 0), (.int (0) 0), (.int (0) 0), (.int (3) 0), (.ref 994), (.bool true), (.int (374) 0), (.ref 995), .none, .none, .none, (.ref 996), (.int (1752) 0), (.int (764) 0), (.str (.ofString "/claim/cut.py") 1753)]), #[]⟩
def o998 : Obj := ⟨(.type "function"), none, (.func ⟨(.ofString "__init__"), (.ofString "Table.__init__"), (defArgs (inClass (top 125) 0)), .stmts (defBody (inClass (top 125) 0)), (defScope (inClass (top 125) 0)), 3, [], .none, .none, .none, (.str (.ofString "wherebase.table.tables") 1723), none, (.ref 997), .none, 0⟩), #[]⟩
def o1004 : Obj := ⟨(.type "code"), none, (.fields #[(.str (.ofString "kinds") 1755), (.str (.ofString "Table.kinds") 1756), (.str (.ofString "/claim/cut.py") 1757), (.int (773) 0), (.int (1) 0), (.int (0) 0), (.int (0) 0), (.int (3) 0), (.ref 999), (.bool true), (.int (374) 0), (.ref 1000), .none, (.ref 1001), (.ref 1002), (.ref 1003), (.int (1759) 0), (.int (773) 0), (.str (.ofString "/claim/cut.py") 1760)]), #[]⟩
def o1005 : Obj := ⟨(.type "function"), none, (.func ⟨(.ofString "kinds"), (.ofString "Table.kinds"), (defArgs (inClass (top 125) 1)), .stmts (defBody (inClass (top 125) 1)), (defScope (inClass (top 125) 1)), 3, [], .none, .none, .none, (.str (.ofString "wherebase.table.tables") 1723), none, (.ref 1004), .none, 0⟩), #[]⟩
def o1006 : Obj := ⟨(.type "property"), none, (.fields #[(.ref 1005), .none, .none, .none, (.str (.ofString "kinds") 1762), (.bool false)]), #[]⟩
def o1012 : Obj := ⟨(.type "code"), none, (.fields #[(.str (.ofString "columns") 1763), (.str (.ofString "Table.columns") 1764), (.str (.ofString "/claim/cut.py") 1765), (.int (777) 0), (.int (1) 0), (.int (0) 0), (.int (0) 0), (.int (3) 0), (.ref 1007), (.bool true), (.int (374) 0), (.ref 1008), .none, (.ref 1009), (.ref 1010), (.ref 1011), (.int (1767) 0), (.int (777) 0), (.str (.ofString "/claim/cut.py") 1768)]), #[]⟩
def o1013 : Obj := ⟨(.type "function"), none, (.func ⟨(.ofString "columns"), (.ofString "Table.columns"), (defArgs (inClass (top 125) 2)), .stmts (defBody (inClass (top 125) 2)), (defScope (inClass (top 125) 2)), 3, [], .none, .none, .none, (.str (.ofString "wherebase.table.tables") 1723), none, (.ref 1012), .none, 0⟩), #[]⟩
def o1014 : Obj := ⟨(.type "property"), none, (.fields #[(.ref 1013), .none, .none, .none, (.str (.ofString "columns") 1770), (.bool false)]), #[]⟩
def o1020 : Obj := ⟨(.type "code"), none, (.fields #[(.str (.ofString "numbers") 1771), (.str (.ofString "Table.numbers") 1772), (.str (.ofString "/claim/cut.py") 1773), (.int (781) 0), (.int (1) 0), (.int (0) 0), (.int (0) 0), (.int (3) 0), (.ref 1015), (.bool true), (.int (374) 0), (.ref 1016), .none, (.ref 1017), (.ref 1018), (.ref 1019), (.int (1775) 0), (.int (781) 0), (.str (.ofString "/claim/cut.py") 1776)]), #[]⟩
def o1021 : Obj := ⟨(.type "function"), none, (.func ⟨(.ofString "numbers"), (.ofString "Table.numbers"), (defArgs (inClass (top 125) 3)), .stmts (defBody (inClass (top 125) 3)), (defScope (inClass (top 125) 3)), 3, [], .none, .none, .none, (.str (.ofString "wherebase.table.tables") 1723), none, (.ref 1020), .none, 0⟩), #[]⟩
def o1022 : Obj := ⟨(.type "property"), none, (.fields #[(.ref 1021), .none, .none, .none, (.str (.ofString "numbers") 1778), (.bool false)]), #[]⟩
def o1026 : Obj := ⟨(.type "code"), none, (.fields #[(.str (.ofString "rows") 1779), (.str (.ofString "Table.rows") 1780), (.str (.ofString "/claim/cut.py") 1781), (.int (785) 0), (.int (1) 0), (.int (0) 0), (.int (0) 0), (.int (3) 0), (.ref 1023), (.bool true), (.int (374) 0), (.ref 1024), .none, .none, .none, (.ref 1025), (.int (1782) 0), (.int (785) 0), (.str (.ofString "/claim/cut.py") 1783)]), #[]⟩
def o1027 : Obj := ⟨(.type "function"), none, (.func ⟨(.ofString "rows"), (.ofString "Table.rows"), (defArgs (inClass (top 125) 4)), .stmts (defBody (inClass (top 125) 4)), (defScope (inClass (top 125) 4)), 3, [], .none, .none, .none, (.str (.ofString "wherebase.table.tables") 1723), none, (.ref 1026), .none, 0⟩), #[]⟩
def o1028 : Obj := ⟨(.type "property"), none, (.fields #[(.ref 1027), .none, .none, .none, (.str (.ofString "rows") 1785), (.bool false)]), #[]⟩
def o1034 : Obj := ⟨(.type "code"), none, (.fields #[(.str (.ofString "next_number") 1786), (.str (.ofString "Table.next_number") 1787), (.str (.ofString "/claim/cut.py") 1788), (.int (789) 0), (.int (1) 0), (.int (0) 0), (.int (0) 0), (.int (3) 0), (.ref 1029), (.bool true), (.int (374) 0), (.ref 1030), .none, (.ref 1031), (.ref 1032), (.ref 1033), (.int (1790) 0), (.int (789) 0), (.str (.ofString "/claim/cut.py") 1791)]), #[]⟩
def o1035 : Obj := ⟨(.type "function"), none, (.func ⟨(.ofString "next_number"), (.ofString "Table.next_number"), (defArgs (inClass (top 125) 5)), .stmts (defBody (inClass (top 125) 5)), (defScope (inClass (top 125) 5)), 3, [], .none, .none, .none, (.str (.ofString "wherebase.table.tables") 1723), none, (.ref 1034), .none, 0⟩), #[]⟩
def o1036 : Obj := ⟨(.type "property"), none, (.fields #[(.ref 1035), .none, .none, .none, (.str (.ofString "next_number") 1793), (.bool false)]), #[]⟩
def o1042 : Obj := ⟨(.type "code"), none, (.fields #[(.str (.ofString "row") 1794), (.str (.ofString "Table.row") 1795), (.str (.ofString "/claim/cut.py") 1796), (.int (793) 0), (.int (2) 0), (.int (0) 0), (.int (0) 0), (.int (3) 0), (.ref 1037), (.bool true), (.int (374) 0), (.ref 1038), .none, (.ref 1039), (.ref 1040), (.ref 1041), (.int (1799) 0), (.int (793) 0), (.str (.ofString "/claim/cut.py") 1800)]), #[]⟩
def o1043 : Obj := ⟨(.type "function"), none, (.func ⟨(.ofString "row"), (.ofString "Table.row"), (defArgs (inClass (top 125) 6)), .stmts (defBody (inClass (top 125) 6)), (defScope (inClass (top 125) 6)), 3, [], .none, .none, .none, (.str (.ofString "wherebase.table.tables") 1723), none, (.ref 1042), .none, 0⟩), #[]⟩
def o1047 : Obj := ⟨(.type "code"), none, (.fields #[(.str (.ofString "put") 1802), (.str (.ofString "Table.put") 1803), (.str (.ofString "/claim/cut.py") 1804), (.int (797) 0), (.int (2) 0), (.int (0) 0), (.int (0) 0), (.int (3) 0), (.ref 1044), (.bool true), (.int (374) 0), (.ref 1045), .none, .none, .none, (.ref 1046), (.int (1805) 0), (.int (797) 0), (.str (.ofString "/claim/cut.py") 1806)]), #[]⟩
def o1048 : Obj := ⟨(.type "function"), none, (.func ⟨(.ofString "put"), (.ofString "Table.put"), (defArgs (inClass (top 125) 7)), .stmts (defBody (inClass (top 125) 7)), (defScope (inClass (top 125) 7)), 3, [], .none, .none, .none, (.str (.ofString "wherebase.table.tables") 1723), none, (.ref 1047), .none, 0⟩), #[]⟩
def o1052 : Obj := ⟨(.type "code"), none, (.fields #[(.str (.ofString "change") 1808), (.str (.ofString "Table.change") 1809), (.str (.ofString "/claim/cut.py") 1810), (.int (804) 0), (.int (3) 0), (.int (0) 0), (.int (0) 0), (.int (3) 0), (.ref 1049), (.bool true), (.int (374) 0), (.ref 1050), .none, .none, .none, (.ref 1051), (.int (1811) 0), (.int (804) 0), (.str (.ofString "/claim/cut.py") 1812)]), #[]⟩
def o1053 : Obj := ⟨(.type "function"), none, (.func ⟨(.ofString "change"), (.ofString "Table.change"), (defArgs (inClass (top 125) 8)), .stmts (defBody (inClass (top 125) 8)), (defScope (inClass (top 125) 8)), 3, [], .none, .none, .none, (.str (.ofString "wherebase.table.tables") 1723), none, (.ref 1052), .none, 0⟩), #[]⟩
def o1057 : Obj := ⟨(.type "code"), none, (.fields #[(.str (.ofString "without") 1814), (.str (.ofString "Table.without") 1815), (.str (.ofString "/claim/cut.py") 1816), (.int (810) 0), (.int (1) 0), (.int (0) 0), (.int (0) 0), (.int (7) 0), (.ref 1054), (.bool true), (.int (374) 0), (.ref 1055), .none, .none, .none, (.ref 1056), (.int (1817) 0), (.int (810) 0), (.str (.ofString "/claim/cut.py") 1818)]), #[]⟩
def o1058 : Obj := ⟨(.type "function"), none, (.func ⟨(.ofString "without"), (.ofString "Table.without"), (defArgs (inClass (top 125) 9)), .stmts (defBody (inClass (top 125) 9)), (defScope (inClass (top 125) 9)), 3, [], .none, .none, .none, (.str (.ofString "wherebase.table.tables") 1723), none, (.ref 1057), .none, 0⟩), #[]⟩
def o1064 : Obj := ⟨(.type "code"), none, (.fields #[(.str (.ofString "_with") 1820), (.str (.ofString "Table._with") 1821), (.str (.ofString "/claim/cut.py") 1822), (.int (816) 0), (.int (3) 0), (.int (0) 0), (.int (0) 0), (.int (3) 0), (.ref 1059), (.bool true), (.int (374) 0), (.ref 1060), .none, (.ref 1061), (.ref 1062), (.ref 1063), (.int (1827) 0), (.int (816) 0), (.str (.ofString "/claim/cut.py") 1828)]), #[]⟩
def o1065 : Obj := ⟨(.type "function"), none, (.func ⟨(.ofString "_with"), (.ofString "Table._with"), (defArgs (inClass (top 125) 10)), .stmts (defBody (inClass (top 125) 10)), (defScope (inClass (top 125) 10)), 3, [], .none, .none, .none, (.str (.ofString "wherebase.table.tables") 1723), none, (.ref 1064), .none, 0⟩), #[]⟩
def o1071 : Obj := ⟨(.type "code"), none, (.fields #[(.str (.ofString "_check_there") 1830), (.str (.ofString "Table._check_there") 1831), (.str (.ofString "/claim/cut.py") 1832), (.int (822) 0), (.int (2) 0), (.int (0) 0), (.int (0) 0), (.int (3) 0), (.ref 1066), (.bool true), (.int (374) 0), (.ref 1067), .none, (.ref 1068), (.ref 1069), (.ref 1070), (.int (1835) 0), (.int (822) 0), (.str (.ofString "/claim/cut.py") 1836)]), #[]⟩
def o1072 : Obj := ⟨(.type "function"), none, (.func ⟨(.ofString "_check_there"), (.ofString "Table._check_there"), (defArgs (inClass (top 125) 11)), .stmts (defBody (inClass (top 125) 11)), (defScope (inClass (top 125) 11)), 3, [], .none, .none, .none, (.str (.ofString "wherebase.table.tables") 1723), none, (.ref 1071), .none, 0⟩), #[]⟩
def o1078 : Obj := ⟨(.type "code"), none, (.fields #[(.str (.ofString "_check_values") 1838), (.str (.ofString "Table._check_values") 1839), (.str (.ofString "/claim/cut.py") 1840), (.int (826) 0), (.int (2) 0), (.int (0) 0), (.int (0) 0), (.int (3) 0), (.ref 1073), (.bool true), (.int (374) 0), (.ref 1074), .none, (.ref 1075), (.ref 1076), (.ref 1077), (.int (1844) 0), (.int (826) 0), (.str (.ofString "/claim/cut.py") 1845)]), #[]⟩
def o1079 : Obj := ⟨(.type "function"), none, (.func ⟨(.ofString "_check_values"), (.ofString "Table._check_values"), (defArgs (inClass (top 125) 12)), .stmts (defBody (inClass (top 125) 12)), (defScope (inClass (top 125) 12)), 3, [], .none, .none, .none, (.str (.ofString "wherebase.table.tables") 1723), none, (.ref 1078), .none, 0⟩), #[]⟩
def o1085 : Obj := ⟨(.type "code"), none, (.fields #[(.str (.ofString "__contains__") 1847), (.str (.ofString "Table.__contains__") 1848), (.str (.ofString "/claim/cut.py") 1849), (.int (835) 0), (.int (2) 0), (.int (0) 0), (.int (0) 0), (.int (3) 0), (.ref 1080), (.bool true), (.int (374) 0), (.ref 1081), .none, (.ref 1082), (.ref 1083), (.ref 1084), (.int (1852) 0), (.int (835) 0), (.str (.ofString "/claim/cut.py") 1853)]), #[]⟩
def o1086 : Obj := ⟨(.type "function"), none, (.func ⟨(.ofString "__contains__"), (.ofString "Table.__contains__"), (defArgs (inClass (top 125) 13)), .stmts (defBody (inClass (top 125) 13)), (defScope (inClass (top 125) 13)), 3, [], .none, .none, .none, (.str (.ofString "wherebase.table.tables") 1723), none, (.ref 1085), .none, 0⟩), #[]⟩
def o1092 : Obj := ⟨(.type "code"), none, (.fields #[(.str (.ofString "__len__") 1855), (.str (.ofString "Table.__len__") 1856), (.str (.ofString "/claim/cut.py") 1857), (.int (838) 0), (.int (1) 0), (.int (0) 0), (.int (0) 0), (.int (3) 0), (.ref 1087), (.bool true), (.int (374) 0), (.ref 1088), .none, (.ref 1089), (.ref 1090), (.ref 1091), (.int (1859) 0), (.int (838) 0), (.str (.ofString "/claim/cut.py") 1860)]), #[]⟩
def o1093 : Obj := ⟨(.type "function"), none, (.func ⟨(.ofString "__len__"), (.ofString "Table.__len__"), (defArgs (inClass (top 125) 14)), .stmts (defBody (inClass (top 125) 14)), (defScope (inClass (top 125) 14)), 3, [], .none, .none, .none, (.str (.ofString "wherebase.table.tables") 1723), none, (.ref 1092), .none, 0⟩), #[]⟩
def o1099 : Obj := ⟨(.type "code"), none, (.fields #[(.str (.ofString "__iter__") 1862), (.str (.ofString "Table.__iter__") 1863), (.str (.ofString "/claim/cut.py") 1864), (.int (841) 0), (.int (1) 0), (.int (0) 0), (.int (0) 0), (.int (3) 0), (.ref 1094), (.bool true), (.int (374) 0), (.ref 1095), .none, (.ref 1096), (.ref 1097), (.ref 1098), (.int (1866) 0), (.int (841) 0), (.str (.ofString "/claim/cut.py") 1867)]), #[]⟩
def o1100 : Obj := ⟨(.type "function"), none, (.func ⟨(.ofString "__iter__"), (.ofString "Table.__iter__"), (defArgs (inClass (top 125) 15)), .stmts (defBody (inClass (top 125) 15)), (defScope (inClass (top 125) 15)), 3, [], .none, .none, .none, (.str (.ofString "wherebase.table.tables") 1723), none, (.ref 1099), .none, 0⟩), #[]⟩
def o1106 : Obj := ⟨(.type "code"), none, (.fields #[(.str (.ofString "__eq__") 1869), (.str (.ofString "Table.__eq__") 1870), (.str (.ofString "/claim/cut.py") 1871), (.int (844) 0), (.int (2) 0), (.int (0) 0), (.int (0) 0), (.int (3) 0), (.ref 1101), (.bool true), (.int (374) 0), (.ref 1102), .none, (.ref 1103), (.ref 1104), (.ref 1105), (.int (1874) 0), (.int (844) 0), (.str (.ofString "/claim/cut.py") 1875)]), #[]⟩
def o1107 : Obj := ⟨(.type "function"), none, (.func ⟨(.ofString "__eq__"), (.ofString "Table.__eq__"), (defArgs (inClass (top 125) 16)), .stmts (defBody (inClass (top 125) 16)), (defScope (inClass (top 125) 16)), 3, [], .none, .none, .none, (.str (.ofString "wherebase.table.tables") 1723), none, (.ref 1106), .none, 0⟩), #[]⟩
def o1113 : Obj := ⟨(.type "code"), none, (.fields #[(.str (.ofString "__str__") 1877), (.str (.ofString "Table.__str__") 1878), (.str (.ofString "/claim/cut.py") 1879), (.int (849) 0), (.int (1) 0), (.int (0) 0), (.int (0) 0), (.int (3) 0), (.ref 1108), (.bool true), (.int (374) 0), (.ref 1109), .none, (.ref 1110), (.ref 1111), (.ref 1112), (.int (1881) 0), (.int (849) 0), (.str (.ofString "/claim/cut.py") 1882)]), #[]⟩
def o1114 : Obj := ⟨(.type "function"), none, (.func ⟨(.ofString "__str__"), (.ofString "Table.__str__"), (defArgs (inClass (top 125) 17)), .stmts (defBody (inClass (top 125) 17)), (defScope (inClass (top 125) 17)), 3, [], .none, .none, .none, (.str (.ofString "wherebase.table.tables") 1723), none, (.ref 1113), .none, 0⟩), #[]⟩
def o1115 : Obj := ⟨(.type "tuple"), none, (.seq #[(.str (.ofString "_kinds") 1884), (.str (.ofString "_next_number") 1885), (.str (.ofString "_rows") 1886)] 0), #[]⟩
def o1116 (P : Params) : Obj := ⟨(.type "dict"), none, (.dict #[⟨PyData.keyHash P (.ofString "__module__"), (.str (.ofString "__module__") 1744), (.str (.ofString "wherebase.table.tables") 1723)⟩, ⟨PyData.keyHash P (.ofString "__firstlineno__"), (.str (.ofString "__firstlineno__") 1748), (.int (762) 1747)⟩, ⟨PyData.keyHash P (.ofString "__init__"), (.str (.ofString "__init__") 1754), (.ref 998)⟩, ⟨PyData.keyHash P (.ofString "kinds"), (.str (.ofString "kinds") 1762), (.ref 1006)⟩, ⟨PyData.keyHash P (.ofString "columns"), (.str (.ofString "columns") 1770), (.ref 1014)⟩, ⟨PyData.keyHash P (.ofString "numbers"), (.str (.ofString "numbers") 1778), (.ref 1022)⟩, ⟨PyData.keyHash P (.ofString "rows"), (.str (.ofString "rows") 1785), (.ref 1028)⟩, ⟨PyData.keyHash P (.ofString "next_number"), (.str (.ofString "next_number") 1793), (.ref 1036)⟩, ⟨PyData.keyHash P (.ofString "row"), (.str (.ofString "row") 1801), (.ref 1043)⟩, ⟨PyData.keyHash P (.ofString "put"), (.str (.ofString "put") 1807), (.ref 1048)⟩, ⟨PyData.keyHash P (.ofString "change"), (.str (.ofString "change") 1813), (.ref 1053)⟩, ⟨PyData.keyHash P (.ofString "without"), (.str (.ofString "without") 1819), (.ref 1058)⟩, ⟨PyData.keyHash P (.ofString "_with"), (.str (.ofString "_with") 1829), (.ref 1065)⟩, ⟨PyData.keyHash P (.ofString "_check_there"), (.str (.ofString "_check_there") 1837), (.ref 1072)⟩, ⟨PyData.keyHash P (.ofString "_check_values"), (.str (.ofString "_check_values") 1846), (.ref 1079)⟩, ⟨PyData.keyHash P (.ofString "__contains__"), (.str (.ofString "__contains__") 1854), (.ref 1086)⟩, ⟨PyData.keyHash P (.ofString "__len__"), (.str (.ofString "__len__") 1861), (.ref 1093)⟩, ⟨PyData.keyHash P (.ofString "__iter__"), (.str (.ofString "__iter__") 1868), (.ref 1100)⟩, ⟨PyData.keyHash P (.ofString "__eq__"), (.str (.ofString "__eq__") 1876), (.ref 1107)⟩, ⟨PyData.keyHash P (.ofString "__str__"), (.str (.ofString "__str__") 1883), (.ref 1114)⟩, ⟨PyData.keyHash P (.ofString "__static_attributes__"), (.str (.ofString "__static_attributes__") 1887), (.ref 1115)⟩, ⟨PyData.keyHash P (.ofString "__dict__"), (.str (.ofString "__dict__") 1889), (.ref 1118)⟩, ⟨PyData.keyHash P (.ofString "__weakref__"), (.str (.ofString "__weakref__") 1891), (.ref 1119)⟩, ⟨PyData.keyHash P (.ofString "__doc__"), (.str (.ofString "__doc__") 1892), .none⟩, ⟨PyData.keyHash P (.ofString "__hash__"), (.str (.ofString "__hash__") 1893), .none⟩] 5), #[]⟩
def o1117 : Obj := ⟨(.type "type"), none, (.cls ⟨(.ofString "Table"), [(.type "object")], [(.ref 1117), (.type "object")], 1116, (.ofString "Table"), true, [], [], false, none, false⟩), #[none, none, (some (.str (.ofString "Table") 1737)), (some (.str (.ofString "Table") 1745)), (some (.builtin "object.__new__")), (some (.bool true))]⟩
def o1118 : Obj := ⟨(.type "getset_descriptor"), none, (.fields #[(.str (.ofString "__dict__") 1888), (.ref 1117), (.builtin "function.__dict__"), (.builtin "function.__dict__#set")]), #[]⟩
def o1119 : Obj := ⟨(.type "getset_descriptor"), none, (.fields #[(.str (.ofString "__weakref__") 1890), (.ref 1117), (.builtin "ExceptionGroup.__weakref__"), .none]), #[]⟩
def o1125 : Obj := ⟨(.type "code"), none, (.fields #[(.str (.ofString "kind_of_value") 1896), (.str (.ofString "kind_of_value") 1897), (.str (.ofString "/claim/cut.py") 1898), (.int (851) 0), (.int (1) 0), (.int (0) 0), (.int (0) 0), (.int (3) 0), (.ref 1122), (.bool true), (.int (374) 0), (.ref 1123), .none, .none, .none, (.ref 1124), (.int (1899) 0), (.int (851) 0), (.str (.ofString "/claim/cut.py") 1900)]), #[]⟩
def o1126 : Obj := ⟨(.type "function"), none, (.func ⟨(.ofString "kind_of_value"), (.ofString "kind_of_value"), (defArgs (top 126)), .stmts (defBody (top 126)), (defScope (top 126)), 3, [], .none, .none, .none, (.str (.ofString "wherebase.table.tables") 1723), none, (.ref 1125), .none, 0⟩), #[]⟩
def o1132 : Obj := ⟨(.type "code"), none, (.fields #[(.str (.ofString "check_table") 1902), (.str (.ofString "check_table") 1903), (.str (.ofString "/claim/cut.py") 1904), (.int (859) 0), (.int (1) 0), (.int (0) 0), (.int (0) 0), (.int (3) 0), (.ref 1127), (.bool true), (.int (374) 0), (.ref 1128), .none, (.ref 1129), (.ref 1130), (.ref 1131), (.int (1906) 0), (.int (859) 0), (.str (.ofString "/claim/cut.py") 1907)]), #[]⟩
def o1133 : Obj := ⟨(.type "function"), none, (.func ⟨(.ofString "check_table"), (.ofString "check_table"), (defArgs (top 127)), .stmts (defBody (top 127)), (defScope (top 127)), 3, [], .none, .none, .none, (.str (.ofString "wherebase.table.tables") 1723), none, (.ref 1132), .none, 0⟩), #[]⟩
def o1137 : Obj := ⟨(.type "code"), none, (.fields #[(.str (.ofString "kind_of_term") 1911), (.str (.ofString "kind_of_term") 1912), (.str (.ofString "/claim/cut.py") 1913), (.int (863) 0), (.int (2) 0), (.int (0) 0), (.int (0) 0), (.int (3) 0), (.ref 1134), (.bool true), (.int (374) 0), (.ref 1135), .none, .none, .none, (.ref 1136), (.int (1914) 0), (.int (863) 0), (.str (.ofString "/claim/cut.py") 1915)]), #[]⟩
def o1138 : Obj := ⟨(.type "function"), none, (.func ⟨(.ofString "kind_of_term"), (.ofString "kind_of_term"), (defArgs (top 129)), .stmts (defBody (top 129)), (defScope (top 129)), 3, [], .none, .none, .none, (.str (.ofString "wherebase.table.terms") 1909), none, (.ref 1137), .none, 0⟩), #[]⟩
def o1144 : Obj := ⟨(.type "code"), none, (.fields #[(.str (.ofString "terms_within") 1917), (.str (.ofString "terms_within") 1918), (.str (.ofString "/claim/cut.py") 1919), (.int (871) 0), (.int (1) 0), (.int (0) 0), (.int (0) 0), (.int (3) 0), (.ref 1139), (.bool true), (.int (374) 0), (.ref 1140), .none, (.ref 1141), (.ref 1142), (.ref 1143), (.int (1921) 0), (.int (871) 0), (.str (.ofString "/claim/cut.py") 1922)]), #[]⟩
def o1145 : Obj := ⟨(.type "function"), none, (.func ⟨(.ofString "terms_within"), (.ofString "terms_within"), (defArgs (top 130)), .stmts (defBody (top 130)), (defScope (top 130)), 3, [], .none, .none, .none, (.str (.ofString "wherebase.table.terms") 1909), none, (.ref 1144), .none, 0⟩), #[]⟩
def o1149 : Obj := ⟨(.type "code"), none, (.fields #[(.str (.ofString "value_of_term") 1924), (.str (.ofString "value_of_term") 1925), (.str (.ofString "/claim/cut.py") 1926), (.int (873) 0), (.int (2) 0), (.int (0) 0), (.int (0) 0), (.int (3) 0), (.ref 1146), (.bool true), (.int (374) 0), (.ref 1147), .none, .none, .none, (.ref 1148), (.int (1927) 0), (.int (873) 0), (.str (.ofString "/claim/cut.py") 1928)]), #[]⟩
def o1150 : Obj := ⟨(.type "function"), none, (.func ⟨(.ofString "value_of_term"), (.ofString "value_of_term"), (defArgs (top 131)), .stmts (defBody (top 131)), (defScope (top 131)), 3, [], .none, .none, .none, (.str (.ofString "wherebase.table.terms") 1909), none, (.ref 1149), .none, 0⟩), #[]⟩
def o1170 : Obj := ⟨(.type "code"), none, (.fields #[(.str (.ofString "_kind_of_plain_term") 1944), (.str (.ofString "_kind_of_plain_term") 1945), (.str (.ofString "/claim/cut.py") 1946), (.int (889) 0), (.int (2) 0), (.int (0) 0), (.int (0) 0), (.int (3) 0), (.ref 1165), (.bool true), (.int (374) 0), (.ref 1166), .none, (.ref 1167), (.ref 1168), (.ref 1169), (.int (1951) 0), (.int (889) 0), (.str (.ofString "/claim/cut.py") 1952)]), #[]⟩
def o1171 : Obj := ⟨(.type "function"), none, (.func ⟨(.ofString "_kind_of_plain_term"), (.ofString "_kind_of_plain_term"), (defArgs (top 134)), .stmts (defBody (top 134)), (defScope (top 134)), 3, [], .none, .none, .none, (.str (.ofString "wherebase.table.terms") 1909), none, (.ref 1170), .none, 0⟩), #[]⟩
def o1178 : Obj := ⟨(.type "code"), none, (.fields #[(.str (.ofString "is_term") 1967), (.str (.ofString "is_term") 1968), (.str (.ofString "/claim/cut.py") 1969), (.int (902) 0), (.int (2) 0), (.int (0) 0), (.int (0) 0), (.int (3) 0), (.ref 1173), (.bool true), (.int (374) 0), (.ref 1174), .none, (.ref 1175), (.ref 1176), (.ref 1177), (.int (1972) 0), (.int (902) 0), (.str (.ofString "/claim/cut.py") 1973)]), #[]⟩
def o1179 : Obj := ⟨(.type "function"), none, (.func ⟨(.ofString "is_term"), (.ofString "is_term"), (defArgs (top 139)), .stmts (defBody (top 139)), (defScope (top 139)), 3, [], .none, .none, .none, (.str (.ofString "wherebase.table.conditions") 1954), none, (.ref 1178), .none, 0⟩), #[]⟩
def o1183 : Obj := ⟨(.type "code"), none, (.fields #[(.str (.ofString "is_condition") 1975), (.str (.ofString "is_condition") 1976), (.str (.ofString "/claim/cut.py") 1977), (.int (905) 0), (.int (2) 0), (.int (0) 0), (.int (0) 0), (.int (3) 0), (.ref 1180), (.bool true), (.int (374) 0), (.ref 1181), .none, .none, .none, (.ref 1182), (.int (1978) 0), (.int (905) 0), (.str (.ofString "/claim/cut.py") 1979)]), #[]⟩
def o1184 : Obj := ⟨(.type "function"), none, (.func ⟨(.ofString "is_condition"), (.ofString "is_condition"), (defArgs (top 140)), .stmts (defBody (top 140)), (defScope (top 140)), 3, [], .none, .none, .none, (.str (.ofString "wherebase.table.conditions") 1954), none, (.ref 1183), .none, 0⟩), #[]⟩
def o1190 : Obj := ⟨(.type "code"), none, (.fields #[(.str (.ofString "term_value") 1981), (.str (.ofString "term_value") 1982), (.str (.ofString "/claim/cut.py") 1983), (.int (921) 0), (.int (3) 0), (.int (0) 0), (.int (0) 0), (.int (3) 0), (.ref 1185), (.bool true), (.int (374) 0), (.ref 1186), .none, (.ref 1187), (.ref 1188), (.ref 1189), (.int (1987) 0), (.int (921) 0), (.str (.ofString "/claim/cut.py") 1988)]), #[]⟩
def o1191 : Obj := ⟨(.type "function"), none, (.func ⟨(.ofString "term_value"), (.ofString "term_value"), (defArgs (top 141)), .stmts (defBody (top 141)), (defScope (top 141)), 3, [], .none, .none, .none, (.str (.ofString "wherebase.table.conditions") 1954), none, (.ref 1190), .none, 0⟩), #[]⟩
def o1197 : Obj := ⟨(.type "code"), none, (.fields #[(.str (.ofString "truth") 1990), (.str (.ofString "truth") 1991), (.str (.ofString "/claim/cut.py") 1992), (.int (925) 0), (.int (3) 0), (.int (0) 0), (.int (0) 0), (.int (3) 0), (.ref 1192), (.bool true), (.int (374) 0), (.ref 1193), .none, (.ref 1194), (.ref 1195), (.ref 1196), (.int (1996) 0), (.int (925) 0), (.str (.ofString "/claim/cut.py") 1997)]), #[]⟩
def o1198 : Obj := ⟨(.type "function"), none, (.func ⟨(.ofString "truth"), (.ofString "truth"), (defArgs (top 142)), .stmts (defBody (top 142)), (defScope (top 142)), 3, [], .none, .none, .none, (.str (.ofString "wherebase.table.conditions") 1954), none, (.ref 1197), .none, 0⟩), #[]⟩
def o1202 : Obj := ⟨(.type "code"), none, (.fields #[(.str (.ofString "truths") 1999), (.str (.ofString "truths") 2000), (.str (.ofString "/claim/cut.py") 2001), (.int (928) 0), (.int (2) 0), (.int (0) 0), (.int (0) 0), (.int (3) 0), (.ref 1199), (.bool true), (.int (374) 0), (.ref 1200), .none, .none, .none, (.ref 1201), (.int (2002) 0), (.int (928) 0), (.str (.ofString "/claim/cut.py") 2003)]), #[]⟩
def o1203 : Obj := ⟨(.type "function"), none, (.func ⟨(.ofString "truths"), (.ofString "truths"), (defArgs (top 143)), .stmts (defBody (top 143)), (defScope (top 143)), 3, [], .none, .none, .none, (.str (.ofString "wherebase.table.conditions") 1954), none, (.ref 1202), .none, 0⟩), #[]⟩
def o1209 : Obj := ⟨(.type "code"), none, (.fields #[(.str (.ofString "moved_inwards") 2005), (.str (.ofString "moved_inwards") 2006), (.str (.ofString "/claim/cut.py") 2007), (.int (931) 0), (.int (2) 0), (.int (0) 0), (.int (0) 0), (.int (3) 0), (.ref 1204), (.bool true), (.int (374) 0), (.ref 1205), .none, (.ref 1206), (.ref 1207), (.ref 1208), (.int (2011) 0), (.int (931) 0), (.str (.ofString "/claim/cut.py") 2012)]), #[]⟩
def o1210 : Obj := ⟨(.type "function"), none, (.func ⟨(.ofString "moved_inwards"), (.ofString "moved_inwards"), (defArgs (top 144)), .stmts (defBody (top 144)), (defScope (top 144)), 3, [], .none, .none, .none, (.str (.ofString "wherebase.table.conditions") 1954), none, (.ref 1209), .none, 0⟩), #[]⟩
def o1216 : Obj := ⟨(.type "code"), none, (.fields #[(.str (.ofString "check_condition") 2014), (.str (.ofString "check_condition") 2015), (.str (.ofString "/claim/cut.py") 2016), (.int (937) 0), (.int (2) 0), (.int (0) 0), (.int (0) 0), (.int (3) 0), (.ref 1211), (.bool true), (.int (374) 0), (.ref 1212), .none, (.ref 1213), (.ref 1214), (.ref 1215), (.int (2019) 0), (.int (937) 0), (.str (.ofString "/claim/cut.py") 2020)]), #[]⟩
def o1217 : Obj := ⟨(.type "function"), none, (.func ⟨(.ofString "check_condition"), (.ofString "check_condition"), (defArgs (top 145)), .stmts (defBody (top 145)), (defScope (top 145)), 3, [], .none, .none, .none, (.str (.ofString "wherebase.table.conditions") 1954), none, (.ref 1216), .none, 0⟩), #[]⟩
def o1221 : Obj := ⟨(.type "code"), none, (.fields #[(.str (.ofString "_has_form") 2022), (.str (.ofString "_has_form") 2023), (.str (.ofString "/claim/cut.py") 2024), (.int (940) 0), (.int (2) 0), (.int (0) 0), (.int (0) 0), (.int (3) 0), (.ref 1218), (.bool true), (.int (374) 0), (.ref 1219), .none, .none, .none, (.ref 1220), (.int (2025) 0), (.int (940) 0), (.str (.ofString "/claim/cut.py") 2026)]), #[]⟩
def o1222 : Obj := ⟨(.type "function"), none, (.func ⟨(.ofString "_has_form"), (.ofString "_has_form"), (defArgs (top 146)), .stmts (defBody (top 146)), (defScope (top 146)), 3, [], .none, .none, .none, (.str (.ofString "wherebase.table.conditions") 1954), none, (.ref 1221), .none, 0⟩), #[]⟩
def o1228 : Obj := ⟨(.type "code"), none, (.fields #[(.str (.ofString "_conditions_of") 2028), (.str (.ofString "_conditions_of") 2029), (.str (.ofString "/claim/cut.py") 2030), (.int (958) 0), (.int (1) 0), (.int (0) 0), (.int (0) 0), (.int (3) 0), (.ref 1223), (.bool true), (.int (374) 0), (.ref 1224), .none, (.ref 1225), (.ref 1226), (.ref 1227), (.int (2032) 0), (.int (958) 0), (.str (.ofString "/claim/cut.py") 2033)]), #[]⟩
def o1229 : Obj := ⟨(.type "function"), none, (.func ⟨(.ofString "_conditions_of"), (.ofString "_conditions_of"), (defArgs (top 147)), .stmts (defBody (top 147)), (defScope (top 147)), 3, [], .none, .none, .none, (.str (.ofString "wherebase.table.conditions") 1954), none, (.ref 1228), .none, 0⟩), #[]⟩
def o1233 : Obj := ⟨(.type "code"), none, (.fields #[(.str (.ofString "_terms_of") 2035), (.str (.ofString "_terms_of") 2036), (.str (.ofString "/claim/cut.py") 2037), (.int (960) 0), (.int (1) 0), (.int (0) 0), (.int (0) 0), (.int (3) 0), (.ref 1230), (.bool true), (.int (374) 0), (.ref 1231), .none, .none, .none, (.ref 1232), (.int (2038) 0), (.int (960) 0), (.str (.ofString "/claim/cut.py") 2039)]), #[]⟩
def o1234 : Obj := ⟨(.type "function"), none, (.func ⟨(.ofString "_terms_of"), (.ofString "_terms_of"), (defArgs (top 148)), .stmts (defBody (top 148)), (defScope (top 148)), 3, [], .none, .none, .none, (.str (.ofString "wherebase.table.conditions") 1954), none, (.ref 1233), .none, 0⟩), #[]⟩
def o1243 : Obj := ⟨(.type "code"), none, (.fields #[(.str (.ofString "truth_in") 2047), (.str (.ofString "truth_in") 2048), (.str (.ofString "/claim/cut.py") 2049), (.int (968) 0), (.int (2) 0), (.int (0) 0), (.int (0) 0), (.int (3) 0), (.ref 1240), (.bool true), (.int (374) 0), (.ref 1241), .none, .none, .none, (.ref 1242), (.int (2050) 0), (.int (968) 0), (.str (.ofString "/claim/cut.py") 2051)]), #[]⟩
def o1244 : Obj := ⟨(.type "function"), none, (.func ⟨(.ofString "truth_in"), (.ofString "truth_in"), (defArgs (top 150)), .stmts (defBody (top 150)), (defScope (top 150)), 3, [], .none, .none, .none, (.str (.ofString "wherebase.table.conditions") 1954), none, (.ref 1243), .none, 0⟩), #[]⟩
def o1262 : Obj := ⟨(.type "code"), none, (.fields #[(.str (.ofString "_law_bag") 2073), (.str (.ofString "_law_bag") 2074), (.str (.ofString "/claim/cut.py") 2075), (.int (1004) 0), (.int (2) 0), (.int (0) 0), (.int (0) 0), (.int (3) 0), (.ref 1257), (.bool true), (.int (374) 0), (.ref 1258), .none, (.ref 1259), (.ref 1260), (.ref 1261), (.int (2081) 0), (.int (1004) 0), (.str (.ofString "/claim/cut.py") 2082)]), #[]⟩
def o1263 : Obj := ⟨(.type "function"), none, (.func ⟨(.ofString "_law_bag"), (.ofString "_law_bag"), (defArgs (top 154)), .stmts (defBody (top 154)), (defScope (top 154)), 3, [], .none, .none, .none, (.str (.ofString "law_wherebase_k59_errors_of_tables_and_condi") 2071), none, (.ref 1262), .none, 0⟩), #[]⟩
def o1269 : Obj := ⟨(.type "code"), none, (.fields #[(.str (.ofString "_law_draw") 2084), (.str (.ofString "_law_draw") 2085), (.str (.ofString "/claim/cut.py") 2086), (.int (1009) 0), (.int (2) 0), (.int (0) 0), (.int (0) 0), (.int (3) 0), (.ref 1264), (.bool true), (.int (374) 0), (.ref 1265), .none, (.ref 1266), (.ref 1267), (.ref 1268), (.int (2092) 0), (.int (1009) 0), (.str (.ofString "/claim/cut.py") 2093)]), #[]⟩
def o1270 : Obj := ⟨(.type "function"), none, (.func ⟨(.ofString "_law_draw"), (.ofString "_law_draw"), (defArgs (top 155)), .stmts (defBody (top 155)), (defScope (top 155)), 3, [], .none, .none, .none, (.str (.ofString "law_wherebase_k59_errors_of_tables_and_condi") 2071), none, (.ref 1269), .none, 0⟩), #[]⟩
def o1276 : Obj := ⟨(.type "code"), none, (.fields #[(.str (.ofString "_law_one_of") 2095), (.str (.ofString "_law_one_of") 2096), (.str (.ofString "/claim/cut.py") 2097), (.int (1018) 0), (.int (2) 0), (.int (0) 0), (.int (0) 0), (.int (3) 0), (.ref 1271), (.bool true), (.int (374) 0), (.ref 1272), .none, (.ref 1273), (.ref 1274), (.ref 1275), (.int (2100) 0), (.int (1018) 0), (.str (.ofString "/claim/cut.py") 2101)]), #[]⟩
def o1277 : Obj := ⟨(.type "function"), none, (.func ⟨(.ofString "_law_one_of"), (.ofString "_law_one_of"), (defArgs (top 156)), .stmts (defBody (top 156)), (defScope (top 156)), 3, [], .none, .none, .none, (.str (.ofString "law_wherebase_k59_errors_of_tables_and_condi") 2071), none, (.ref 1276), .none, 0⟩), #[]⟩
def o1283 : Obj := ⟨(.type "code"), none, (.fields #[(.str (.ofString "_law_met") 2103), (.str (.ofString "_law_met") 2104), (.str (.ofString "/claim/cut.py") 2105), (.int (1020) 0), (.int (1) 0), (.int (0) 0), (.int (0) 0), (.int (3) 0), (.ref 1278), (.bool true), (.int (374) 0), (.ref 1279), .none, (.ref 1280), (.ref 1281), (.ref 1282), (.int (2108) 0), (.int (1020) 0), (.str (.ofString "/claim/cut.py") 2109)]), #[]⟩
def o1284 : Obj := ⟨(.type "function"), none, (.func ⟨(.ofString "_law_met"), (.ofString "_law_met"), (defArgs (top 157)), .stmts (defBody (top 157)), (defScope (top 157)), 3, [], .none, .none, .none, (.str (.ofString "law_wherebase_k59_errors_of_tables_and_condi") 2071), none, (.ref 1283), .none, 0⟩), #[]⟩
def o1290 : Obj := ⟨(.type "code"), none, (.fields #[(.str (.ofString "_law_errors") 2111), (.str (.ofString "_law_errors") 2112), (.str (.ofString "/claim/cut.py") 2113), (.int (1034) 0), (.int (2) 0), (.int (0) 0), (.int (0) 0), (.int (3) 0), (.ref 1285), (.bool true), (.int (374) 0), (.ref 1286), .none, (.ref 1287), (.ref 1288), (.ref 1289), (.int (2125) 0), (.int (1034) 0), (.str (.ofString "/claim/cut.py") 2126)]), #[]⟩
def o1291 : Obj := ⟨(.type "function"), none, (.func ⟨(.ofString "_law_errors"), (.ofString "_law_errors"), (defArgs (top 158)), .stmts (defBody (top 158)), (defScope (top 158)), 3, [], .none, .none, .none, (.str (.ofString "law_wherebase_k59_errors_of_tables_and_condi") 2071), none, (.ref 1290), .none, 0⟩), #[]⟩
def o1295 : Obj := ⟨(.type "code"), none, (.fields #[(.str (.ofString "law") 2128), (.str (.ofString "law") 2129), (.str (.ofString "/claim/cut.py") 2130), (.int (1062) 0), (.int (1) 0), (.int (0) 0), (.int (0) 0), (.int (3) 0), (.ref 1292), (.bool true), (.int (374) 0), (.ref 1293), .none, .none, .none, (.ref 1294), (.int (2131) 0), (.int (1062) 0), (.str (.ofString "/claim/cut.py") 2132)]), #[]⟩
def o1296 : Obj := ⟨(.type "function"), none, (.func ⟨(.ofString "law"), (.ofString "law"), (defArgs (top 159)), .stmts (defBody (top 159)), (defScope (top 159)), 3, [], .none, .none, .none, (.str (.ofString "law_wherebase_k59_errors_of_tables_and_condi") 2071), none, (.ref 1295), .none, 0⟩), #[]⟩
def kA (P : Params) : PySem.W.Frag := (nat_lit 2, o2 P) ::
  (nat_lit 3, o3 P) ::
  (nat_lit 50, o50) ::
  (nat_lit 57, o57) ::
  (nat_lit 58, o58 P) ::
  (nat_lit 59, o59) ::
  (nat_lit 60, o60) ::
  (nat_lit 63, o63) ::
  (nat_lit 70, o70) ::
  (nat_lit 71, o71 P) ::
  (nat_lit 72, o72) ::
  (nat_lit 75, o75) ::
  (nat_lit 82, o82) ::
  (nat_lit 83, o83 P) ::
  (nat_lit 84, o84) ::
  (nat_lit 87, o87) ::
  (nat_lit 94, o94) ::
  (nat_lit 95, o95 P) ::
  (nat_lit 96, o96) ::
  (nat_lit 99, o99) ::
  (nat_lit 106, o106) ::
  (nat_lit 107, o107 P) ::
  (nat_lit 108, o108) ::
  (nat_lit 111, o111) ::
  (nat_lit 118, o118) ::
  (nat_lit 119, o119 P) ::
  (nat_lit 120, o120) ::
  (nat_lit 123, o123) ::
  (nat_lit 130, o130) ::
  (nat_lit 131, o131 P) ::
  (nat_lit 132, o132) ::
  (nat_lit 135, o135) ::
  (nat_lit 147, o147) ::
  (nat_lit 148, o148) ::
  (nat_lit 149, o149) ::
  (nat_lit 150, o150 P) ::
  (nat_lit 151, o151) ::
  (nat_lit 152, o152) ::
  (nat_lit 155, o155) ::
  (nat_lit 167, o167) ::
  (nat_lit 168, o168) ::
  (nat_lit 169, o169) ::
  (nat_lit 170, o170 P) ::
  (nat_lit 171, o171) ::
  (nat_lit 172, o172) ::
  (nat_lit 180, o180) ::
  (nat_lit 181, o181) ::
  (nat_lit 185, o185) ::
  (nat_lit 186, o186) ::
  (nat_lit 192, o192) ::
  (nat_lit 193, o193) ::
  (nat_lit 746, o746) ::
  (nat_lit 747, o747) ::
  (nat_lit 751, o751) ::
  (nat_lit 752, o752) ::
  (nat_lit 758, o758) ::
  (nat_lit 759, o759) ::
  (nat_lit 760, o760) ::
  (nat_lit 766, o766) ::
  (nat_lit 767, o767) ::
  (nat_lit 768, o768) ::
  (nat_lit 774, o774) ::
  (nat_lit 775, o775) ::
  (nat_lit 776, o776) ::
  (nat_lit 782, o782) ::
  (nat_lit 783, o783) ::
  (nat_lit 784, o784) ::
  (nat_lit 790, o790) ::
  (nat_lit 791, o791) ::
  (nat_lit 792, o792) ::
  (nat_lit 798, o798) ::
  (nat_lit 799, o799) ::
  (nat_lit 800, o800) ::
  (nat_lit 806, o806) ::
  (nat_lit 807, o807) ::
  (nat_lit 813, o813) ::
  (nat_lit 814, o814) ::
  (nat_lit 820, o820) ::
  (nat_lit 821, o821) ::
  (nat_lit 827, o827) ::
  (nat_lit 828, o828) ::
  (nat_lit 834, o834) ::
  (nat_lit 835, o835) ::
  (nat_lit 836, o836) ::
  (nat_lit 837, o837 P) ::
  (nat_lit 838, o838) ::
  (nat_lit 839, o839) ::
  (nat_lit 840, o840) ::
  (nat_lit 986, o986) ::
  (nat_lit 997, o997) ::
  (nat_lit 998, o998) ::
  (nat_lit 1004, o1004) ::
  (nat_lit 1005, o1005) ::
  (nat_lit 1006, o1006) ::
  (nat_lit 1012, o1012) ::
  (nat_lit 1013, o1013) ::
  (nat_lit 1014, o1014) ::
  (nat_lit 1020, o1020) ::
  (nat_lit 1021, o1021) ::
  (nat_lit 1022, o1022) ::
  (nat_lit 1026, o1026) ::
  (nat_lit 1027, o1027) ::
  (nat_lit 1028, o1028) ::
  (nat_lit 1034, o1034) ::
  (nat_lit 1035, o1035) ::
  (nat_lit 1036, o1036) ::
  (nat_lit 1042, o1042) ::
  (nat_lit 1043, o1043) ::
  (nat_lit 1047, o1047) ::
  (nat_lit 1048, o1048) ::
  (nat_lit 1052, o1052) ::
  (nat_lit 1053, o1053) ::
  (nat_lit 1057, o1057) ::
  (nat_lit 1058, o1058) ::
  (nat_lit 1064, o1064) ::
  (nat_lit 1065, o1065) ::
  (nat_lit 1071, o1071) ::
  (nat_lit 1072, o1072) ::
  (nat_lit 1078, o1078) ::
  (nat_lit 1079, o1079) ::
  (nat_lit 1085, o1085) ::
  (nat_lit 1086, o1086) ::
  (nat_lit 1092, o1092) ::
  (nat_lit 1093, o1093) ::
  (nat_lit 1099, o1099) ::
  (nat_lit 1100, o1100) ::
  (nat_lit 1106, o1106) ::
  (nat_lit 1107, o1107) ::
  (nat_lit 1113, o1113) ::
  (nat_lit 1114, o1114) ::
  (nat_lit 1115, o1115) ::
  (nat_lit 1116, o1116 P) ::
  (nat_lit 1117, o1117) ::
  (nat_lit 1118, o1118) ::
  (nat_lit 1119, o1119) ::
  (nat_lit 1125, o1125) ::
  (nat_lit 1126, o1126) ::
  (nat_lit 1132, o1132) ::
  (nat_lit 1133, o1133) ::
  (nat_lit 1137, o1137) ::
  (nat_lit 1138, o1138) ::
  (nat_lit 1144, o1144) ::
  (nat_lit 1145, o1145) ::
  (nat_lit 1149, o1149) ::
  (nat_lit 1150, o1150) ::
  (nat_lit 1170, o1170) ::
  (nat_lit 1171, o1171) ::
  (nat_lit 1178, o1178) ::
  (nat_lit 1179, o1179) ::
  (nat_lit 1183, o1183) ::
  (nat_lit 1184, o1184) ::
  (nat_lit 1190, o1190) ::
  (nat_lit 1191, o1191) ::
  (nat_lit 1197, o1197) ::
  (nat_lit 1198, o1198) ::
  (nat_lit 1202, o1202) ::
  (nat_lit 1203, o1203) ::
  (nat_lit 1209, o1209) ::
  (nat_lit 1210, o1210) ::
  (nat_lit 1216, o1216) ::
  (nat_lit 1217, o1217) ::
  (nat_lit 1221, o1221) ::
  (nat_lit 1222, o1222) ::
  (nat_lit 1228, o1228) ::
  (nat_lit 1229, o1229) ::
  (nat_lit 1233, o1233) ::
  (nat_lit 1234, o1234) ::
  (nat_lit 1243, o1243) ::
  (nat_lit 1244, o1244) ::
  (nat_lit 1262, o1262) ::
  (nat_lit 1263, o1263) ::
  (nat_lit 1269, o1269) ::
  (nat_lit 1270, o1270) ::
  (nat_lit 1276, o1276) ::
  (nat_lit 1277, o1277) ::
  (nat_lit 1283, o1283) ::
  (nat_lit 1284, o1284) ::
  (nat_lit 1290, o1290) ::
  (nat_lit 1291, o1291) ::
  (nat_lit 1295, o1295) ::
  (nat_lit 1296, o1296) :: []
def asA : List Addr := ([2, 3, 50, 57, 58, 59, 60, 63, 70, 71, 72, 75, 82, 83, 84, 87, 94, 95, 96, 99, 106, 107, 108, 111, 118, 119, 120, 123, 130, 131, 132, 135, 147, 148, 149, 150, 151, 152, 155, 167, 168, 169, 170, 171, 172, 180, 181, 185, 186, 192, 193, 746, 747, 751, 752, 758, 759, 760, 766, 767] : List Addr) ++ ([768, 774, 775, 776, 782, 783, 784, 790, 791, 792, 798, 799, 800, 806, 807, 813, 814, 820, 821, 827, 828, 834, 835, 836, 837, 838, 839, 840, 986, 997, 998, 1004, 1005, 1006, 1012, 1013, 1014, 1020, 1021, 1022, 1026, 1027, 1028, 1034, 1035, 1036, 1042, 1043, 1047, 1048, 1052, 1053, 1057, 1058, 1064, 1065, 1071, 1072, 1078, 1079] : List Addr) ++ ([1085, 1086, 1092, 1093, 1099, 1100, 1106, 1107, 1113, 1114, 1115, 1116, 1117, 1118, 1119, 1125, 1126, 1132, 1133, 1137, 1138, 1144, 1145, 1149, 1150, 1170, 1171, 1178, 1179, 1183, 1184, 1190, 1191, 1197, 1198, 1202, 1203, 1209, 1210, 1216, 1217, 1221, 1222, 1228, 1229, 1233, 1234, 1243, 1244, 1262, 1263, 1269, 1270, 1276, 1277, 1283, 1284, 1290, 1291, 1295] : List Addr) ++ ([1296] : List Addr)
def tsA : List Addr := [1286, 1293]
def looseA : List PySem.Str := ([.ofString "_wall", .ofString "__name__", .ofString "WhereError", .ofString "InvalidPoint", .ofString "InvalidShape", .ofString "InvalidTable", .ofString "InvalidRow", .ofString "InvalidCondition", .ofString "InvalidOperation", .ofString "InvalidNumber", .ofString "TooMany", .ofString "is_integer", .ofString "is_name", .ofString "is_fraction", .ofString "lowest_of", .ofString "is_less", .ofString "total_of", .ofString "_lowest", .ofString "_check", .ofString "_check_both", .ofString "lowest_point", .ofString "crossed", .ofString "line_through", .ofString "value_at", .ofString "cross_point", .ofString "sign_of", .ofString "turn", .ofString "way", .ofString "lies_between", .ofString "is_left"] : List PySem.Str) ++ ([.ofString "shared_points", .ofString "fine_bits", .ofString "steps_of", .ofString "fraction_steps", .ofString "slope_ranks", .ofString "is_point", .ofString "check_points", .ofString "square_between", .ofString "_square", .ofString "Groups", .ofString "form_of", .ofString "pieces_of", .ofString "_in_points", .ofString "_areas", .ofString "_owners", .ofString "_ring_from", .ofString "_is_outer", .ofString "_corners_of", .ofString "_is_knot", .ofString "_straight_on", .ofString "_is_alone", .ofString "cut", .ofString "_points_on_sides", .ofString "half_below", .ofString "_is_above", .ofString "Web", .ofString "_linked", .ofString "_walked", .ofString "ring_sides", .ofString "flooded"] : List PySem.Str) ++ ([.ofString "Sheet", .ofString "place_at", .ofString "marks_of", .ofString "_knots_and_points", .ofString "is_told_corner", .ofString "are_told_corners", .ofString "is_told_ring", .ofString "is_told_area", .ofString "is_told_piece", .ofString "is_told_shape", .ofString "told_size", .ofString "told_point", .ofString "told_points", .ofString "told_form", .ofString "place_among", .ofString "_place_on_lines", .ofString "_height", .ofString "MAX_TOLD", .ofString "Shape", .ofString "check_shapes", .ofString "check_told_size", .ofString "check_drawn", .ofString "sheet_of", .ofString "mark_points", .ofString "nearest_points", .ofString "foot_of", .ofString "_nearest_mark", .ofString "_along", .ofString "_square_to", .ofString "area_of"] : List PySem.Str) ++ ([.ofString "square_distance", .ofString "nearest_pair", .ofString "are_near", .ofString "_doubled", .ofString "RELATIONS", .ofString "nine", .ofString "relations", .ofString "is_related", .ofString "_rows_of", .ofString "_dimensions", .ofString "_nine_at", .ofString "_relations_told", .ofString "MAX_COLUMNS", .ofString "MAX_ROWS", .ofString "MAX_SIZE", .ofString "MAX_TEXT", .ofString "KINDS", .ofString "Table", .ofString "kind_of_value", .ofString "check_table", .ofString "kind_of_term", .ofString "terms_within", .ofString "value_of_term", .ofString "is_square", .ofString "as_fraction", .ofString "_kind_of_plain_term", .ofString "MAX_PARTS", .ofString "MAX_DEPTH", .ofString "_OPPOSITES", .ofString "is_term"] : List PySem.Str) ++ ([.ofString "is_condition", .ofString "term_value", .ofString "truth", .ofString "truths", .ofString "moved_inwards", .ofString "check_condition", .ofString "_has_form", .ofString "_conditions_of", .ofString "_terms_of", .ofString "_part_count", .ofString "truth_in", .ofString "is_true_of", .ofString "_moved", .ofString "_law_bag", .ofString "_law_draw", .ofString "_law_one_of", .ofString "_law_met", .ofString "_law_errors"] : List PySem.Str)
theorem as_eq (P : Params) : asA = (kA P).map (·.1) := by kernel_rfl
abbrev RWA : PySem.W.OpenRow := PySem.W.OpenLaw.row PySem.Challenge.rw_wherebase_k59_errors_of_tables_and_condi
abbrev hkA : PySem.W.Hook := PySem.W.kmHook kA asA as_eq tsA
def obA (s : PySem.W.SharedT) : List (Option Obj) × List (Option Obj) := (asA.map (HandSHeadRun.getT s), tsA.map (HandSHeadRun.getT s))
theorem ob_eq (s : PySem.W.SharedT) : obA s = hkA.obs s.abs := by
  have e : HandSHeadRun.getT s = s.abs.heap.get? := funext (HandSHeadRun.getT_eq s)
  show (asA.map (HandSHeadRun.getT s), tsA.map (HandSHeadRun.getT s)) = (asA.map s.abs.heap.get?, tsA.map s.abs.heap.get?)
  rw [e]
abbrev viewA : Program := PySem.W.view RWA.prog [0, 159]
end Q
set_option Elab.async false
set_option linter.all false
set_option maxRecDepth 100000
set_option maxHeartbeats 0
/-! the top's run: its looks, its heap -/
namespace Q
open PySem PySem.W PySem.Calls PyProof.Rows L2
noncomputable abbrev wholeA (w : World) : Option (Shared × SharedT) := HandSHeadRun.wholeF (fun p => HandSHeadRun.stepQ (HandSHeadRun.denQ HandSHeadRun.tabQ) p w) HandSHeadRun.fenceQ 9000 RWA.prog
abbrev lookA (x : Shared × SharedT) : Bool := HandSHeadRun.looksF RWA.prog x.1.heap x.2.abs
theorem map3 {α β γ δ : Type} {o : Option α} {f : α → β} {g : α → γ} {h : α → δ} {b : β} {c : γ} {d : δ} (e1 : o.map f = some b) (e2 : o.map (fun x => (g x, h x)) = some (c, d)) : o.map (fun x => (f x, g x, h x)) = some (b, c, d) := by
  cases o with
  | none => cases e1
  | some x =>
    have h1 : f x = b := Option.some.inj e1
    have h2 : (g x, h x) = (c, d) := Option.some.inj e2
    show some (f x, g x, h x) = _
    rw [h1, h2]
theorem run1false (w : World) : (wholeA (w.withFollow "special-get-raises" false)).map lookA = some true := by kernel_rfl
theorem run2false (w : World) : (wholeA (w.withFollow "special-get-raises" false)).map (fun x => (HandSHeadRun.seenQ viewA looseA (importedModules RWA.prog.main.body) (fun s => xlAt viewA [] s && recOk RWA.toRowW.records s) x.2.abs, obA x.2)) = some (openGood viewA looseA, hkA.val (w.withFollow "special-get-raises" false)) := by kernel_rfl
theorem run1true (w : World) : (wholeA (w.withFollow "special-get-raises" true)).map lookA = some true := by kernel_rfl
theorem run2true (w : World) : (wholeA (w.withFollow "special-get-raises" true)).map (fun x => (HandSHeadRun.seenQ viewA looseA (importedModules RWA.prog.main.body) (fun s => xlAt viewA [] s && recOk RWA.toRowW.records s) x.2.abs, obA x.2)) = some (openGood viewA looseA, hkA.val (w.withFollow "special-get-raises" true)) := by kernel_rfl
theorem runA (w : World) : HandSHeadRun.RunEqI RWA viewA hkA obA 9000 looseA w :=
  byRow2 "special-get-raises" (P := fun w => HandSHeadRun.RunEqI RWA viewA hkA obA 9000 looseA w) (fun w => map3 (run1false w) (run2false w)) (fun w => map3 (run1true w) (run2true w)) w
end Q
set_option Elab.async false
set_option linter.all false
set_option maxRecDepth 100000
set_option maxHeartbeats 4000000
namespace Q
open PySem L2 PySem.Spec PyProof.Rows PySem.Calls
section
variable {X : Cx}
def CDv (_ j : Int) : Prop := j ≠ 0 ∧ j.natAbs.log2 < 9000
theorem op_dv : OpR X (binaryOp .FloorDiv) (rI CDv fun i j => .int (i.fdiv j)) := opI fun i j _ _ _ _ _ hc q => floordiv_int hc.1 q (.inl (PyProof.noPylong_of_log2 hc.2))
end
structure Bd (k : Nat) (i : Int) : Prop where
  lt : i.natAbs < 2 ^ k
theorem Bd.le {a b : Nat} {i : Int} (x : Bd a i) (h : a ≤ b) : Bd b i := ⟨Nat.lt_of_lt_of_le x.lt (Nat.pow_le_pow_right (by decide) h)⟩
theorem Bd.neg {a : Nat} {i : Int} (x : Bd a i) : Bd a (-i) := ⟨by rw [Int.natAbs_neg]; exact x.lt⟩
theorem Bd.mul {a b : Nat} {i j : Int} (x : Bd a i) (y : Bd b j) : Bd (a + b) (i * j) := ⟨wide_lt x.lt y.lt⟩
theorem Bd.add {a : Nat} {i j : Int} (x : Bd a i) (y : Bd a j) : Bd (a + 1) (i + j) := ⟨by
  have h1 := x.lt
  have h2 := y.lt
  have h3 := Int.natAbs_add_le i j
  rw [Nat.pow_succ]
  omega⟩
theorem Bd.sub {a : Nat} {i j : Int} (x : Bd a i) (y : Bd a j) : Bd (a + 1) (i - j) := by
  rw [Int.sub_eq_add_neg]
  exact x.add y.neg
theorem Bd.pos {a : Nat} {i : Int} (x : Bd a i) : Bd (a + 1) i := x.le (Nat.le_succ a)
theorem Bd.mw {a b : Nat} {i j : Int} (x : Bd a i) (y : Bd b j) (h : a + b + 2 ≤ 1000000) : CMulW i j := wide_mul x.pos.lt y.pos.lt (Nat.succ_pos _) (Nat.succ_pos _) (by omega)
theorem Bd.log {a : Nat} {i : Int} (x : Bd a i) (h : a + 1 ≤ 9000) : i.natAbs.log2 < 9000 := Nat.lt_of_lt_of_le (PySem.Flt.log2_lt_of (Nat.succ_pos _) x.pos.lt) h
theorem Bd.of_le {a : Nat} {i j : Int} (x : Bd a j) (h : i.natAbs ≤ j.natAbs) : Bd a i := ⟨Nat.lt_of_le_of_lt h x.lt⟩
end Q
namespace Q
open PySem L2 PySem.Spec PyProof.Rows PySem.Calls
theorem no_dec {p : Prop} [Decidable p] (h : ¬ decide p = true) : ¬ p := fun hp => h (decide_eq_true hp)
structure Cl (P : Program) (w : World) (K : PySem.W.Frag) (mg : Str → Option Value) (base : Heap) (k : Nat) (x : Str) (sp : Sp) : Prop where
  ex : ∃ (f : Addr) (fd : FuncData) (ps : List Str), FnOk P w K mg base CX0 k f fd ps sp ∧ mg x = some (.ref f) ∧ PySem.W.keepIn K (.ref f) = true ∧ Binds K fd ps []
section
variable {X : Cx} {k j : Nat} {x : Str} {sp : Sp} {p pos : Pos} {e : Expr} {es : List Expr} {t : TA}
theorem pe_cl (c : Cl X.prog X.w X.K X.mg X.base k x sp) (hr : Room j X.A) (hk : k ≤ j) (hg : Gl X x) (ha : PA X (e :: es) t)
    (hdb : (x == ("__debug__" : Str)) = false := by decide) (he : starEach (e :: es) X.env = (false, eval e X.env) :: starEach es X.env := by rfl) (hpl : (backTo pos (starEach es X.env)).any (·.1) = false := by rfl) :
    PE X (.Call (.Name x p) (e :: es) [] pos) (tCall sp [] E0 t) := by
  obtain ⟨f, fd, ps, F, hm, kp, b⟩ := c.ex
  exact pe_call F (hr.mono hk) hg hm kp b .nil pass0 ha hdb he hpl
end
section
variable {K : PySem.W.Frag} {σ : L2.St} {H : Hp} {ta tb : TE} {a b : Nat} {m n : Int}
end
section
variable {K : PySem.W.Frag} {σ : L2.St} {H : Hp} {k i : Nat} {a : Addr} {p : P3}
end
section
variable {P : Program} {w : World} {K : PySem.W.Frag} {mg : Str → Option Value} {base : Heap}
end
end Q
namespace Q
open PySem L2 PySem.Spec PyProof.Rows PySem.Calls
def ValA (ta : TA) (σ : L2.St) (H : Hp) (vs : List V) : Prop := ∀ Q : List V → Hp → Prop, Q vs H → ta σ H Q
section
variable {σ : L2.St} {H : Hp} {te : TE} {t : TA} {v : V} {vs : List V} {sp : Sp} {PV : V → Hp → Prop} {E : XK} {r : List V → Hp → VK → Prop}
theorem va_nil : ValA tNil σ H [] := fun _ q => q
theorem va_cons (h : Val te σ H v) (ht : ValA t σ H vs) : ValA (tCons te t) σ H (v :: vs) := by
  intro Q q
  refine h _ ?_
  exact ht _ q
theorem vh_call (ha : ValA t σ H vs) (hs : ∀ Q : VK, (∀ v H', PV v H' → Q v H') → sp vs H Q E) : ValH (tCall sp [] E t) σ H PV := by
  intro Q q
  refine ha _ ?_
  rw [List.append_nil]
  exact hs Q q
theorem val_call (ha : ValA t σ H vs) (hs : ∀ Q : VK, Q v H → sp vs H Q E) : Val (tCall sp [] E t) σ H v := by
  intro Q q
  refine ha _ ?_
  rw [List.append_nil]
  exact hs Q q
theorem val_cb (ha : ValA t σ H vs) (hs : ∀ Q : VK, Q v H → r vs H Q) : Val (tCB r t) σ H v := by
  intro Q q
  refine ha _ ?_
  exact hs Q q
theorem vh_tup (ha : ValA t σ H vs) (hl : vs.length ≤ sizeLine) (k : ∀ p, H p = none → PV (.ref p) (upd H p (.tup vs))) : ValH (tTup t) σ H PV := by
  intro Q q
  refine ha _ ⟨hl, fun p hp => q _ _ (k p hp)⟩
theorem ret_h {D : Ends} (h : ValH te σ H PV) (q : ∀ v H', PV v H' → D.rt v H') : tRet te D σ H := h _ q
end
theorem bd_div {k : Nat} {x g : Int} (b : Bd k x) : Bd k (x / g) := b.of_le (Int.natAbs_ediv_le_natAbs x g)
section
variable {P : Program} {w : World} {K : PySem.W.Frag} {mg : Str → Option Value} {base : Heap}
end
end Q
namespace Q
open PySem L2 PySem.Spec PyProof.Rows PySem.Calls
abbrev sIsInt : Stmt := top 13
section
variable {K : PySem.W.Frag} {σ : L2.St} {H : Hp} {ta tb : TE} {i j : Nat} {D : Ends} {m n : V} {c d : Bool}
theorem st_unp2 (h : ValH ta σ H (fun v H' => ∃ l, v = .ref l ∧ Same H H' ∧ H' l = some (.tup [m, n]))) (q : ∀ H', Same H H' → D.nx ((σ.set i (some m)).set j (some n)) H') :
    tAsg ta (gTup K 2 (gCons (gName i) (gCons (gName j) gNil))) D σ H := by
  refine h _ ?_
  rintro v H' ⟨l, rfl, e, hl⟩
  exact ⟨l, _, rfl, SqT.of hl, rfl, _, _, rfl, _, _, rfl, rfl, q H' e⟩
theorem val_and (h1 : Val ta σ H (.bl c)) (h2 : c = true → Val tb σ H (.bl d)) : Val (tAndV ta tb) σ H (.bl (c && d)) := by
  intro Q q
  refine h1 _ ⟨c, rfl, ?_⟩
  cases c with
  | true => exact h2 rfl _ q
  | false => exact q
theorem val_not (h1 : Val ta σ H (.bl c)) : Val (tNotV ta) σ H (.bl (!c)) := by
  intro Q q
  exact h1 _ ⟨c, rfl, q⟩
theorem ans_i {g : Int → Int → V} {i j : Int} {b : Bool} (ha : Val ta σ H (.int i)) (hb : Val tb σ H (.int j)) (hg : g i j = .bl b) : Ans (tTest (tOp (rI0 g) ta tb)) σ H b :=
  ans_cmp ha hb fun Q q => ⟨_, _, rfl, rfl, by rw [hg]; exact q⟩
theorem val_pair (h1 : Val ta σ H m) (h2 : Val tb σ H n) : ValA (tCons ta (tCons tb tNil)) σ H [m, n] := va_cons h1 (va_cons h2 va_nil)
end
end Q
set_option Elab.async false
set_option linter.all false
set_option maxRecDepth 100000
set_option maxHeartbeats 4000000
namespace Q
open PySem L2 PySem.Spec PyProof.Rows PySem.Calls
open Evl
def EvB (p : Addr) (te : TE) (σ : L2.St) (R : Int → Prop) : Prop := ∀ (H1 : Hp), (∃ a b c : Int, H1 p = some (.lst [.int a, .int b, .int c])) → ∀ Q : VK, (∀ n H2, R n → Bgd p H1 H2 → Q (.int n) H2) → te σ H1 Q
section
variable {p : Addr} {σ : L2.St} {te ta tb tc : TE} {R S : Int → Prop} {n N : Int} {E : XK} {i : Nat} {H : Hp} {D : Ends} {u : TS}
theorem Bgd.id' {H1 : Hp} (h : ∃ a b c : Int, H1 p = some (.lst [.int a, .int b, .int c])) : Bgd p H1 H1 := ⟨h, fun _ _ _ e => e⟩
theorem eb_val (h : ∀ H, Val te σ H (.int n)) (r : R n) : EvB p te σ R := fun H1 hb Q q => h H1 _ (q n H1 r (Bgd.id' hb))
theorem eb_c (r : R n) : EvB p (tC (.int n)) σ R := eb_val (fun _ => val_c) r
theorem eb_var (h : σ[i]? = some (some (.int n))) (r : R n) : EvB p (tVar i) σ R := eb_val (fun _ => val_var h) r
theorem eb_op {g : Int → Int → Int} {T : Int → Prop} (ha : EvB p ta σ R) (hb : EvB p tb σ S) (hr : ∀ m n, R m → S n → T (g m n)) : EvB p (tOp (rI0 fun i j => .int (g i j)) ta tb) σ T := fun H1 x Q q =>
  ha H1 x _ fun m H2 r2 g2 => hb H2 g2.bag _ fun n H3 r3 g3 => ⟨m, n, rfl, rfl, q _ H3 (hr m n r2 r3) (g2.trans g3)⟩
theorem eb_mul {T : Int → Prop} (ha : EvB p ta σ R) (hb : EvB p tb σ S) (hc : ∀ m n, R m → S n → CMulW m n) (hr : ∀ m n, R m → S n → T (m * n)) : EvB p (tOp (rI CMulW fun i j => .int (i * j)) ta tb) σ T := fun H1 x Q q =>
  ha H1 x _ fun m H2 r2 g2 => hb H2 g2.bag _ fun n H3 r3 g3 => ⟨m, n, rfl, rfl, hc m n r2 r3, q _ H3 (hr m n r2 r3) (g2.trans g3)⟩
theorem eb_draw (hs : σ[i]? = some (some (.ref p))) (hn : EvB p tb σ (fun n => 0 < n ∧ n ≤ N ∧ n.natAbs.log2 < 9000)) : EvB p (tCall spDraw [] E (tCons (tVar i) (tCons tb tNil))) σ (fun r => 0 ≤ r ∧ r < N) := fun H1 x Q q =>
  ⟨_, hs, hn H1 x _ fun n H2 r2 g2 => by
    obtain ⟨a, b, c, e⟩ := g2.bag
    exact ⟨p, a, b, c, n, rfl, e, r2.1, r2.2.2, fun r H3 h0 h1 g3 => q r H3 ⟨h0, Int.lt_of_lt_of_le h1 r2.2.1⟩ (g2.trans g3)⟩⟩
theorem eb_one {ta : TA} {xs : List Int} (hs : σ[i]? = some (some (.ref p))) (ha : ∀ H1, ValA ta σ H1 (xs.map V.int)) (h0 : 0 < xs.length) (h1 : xs.length ≤ 1000) (hr : ∀ n ∈ xs, R n) : EvB p (tCall spOne [] E (tCons (tVar i) (tCons (tLst ta) tNil))) σ R := fun H1 x Q q =>
  ⟨_, hs, ha H1 _ ⟨(by rw [List.length_map]; exact Nat.le_trans h1 (by decide)), fun l hl => by
    obtain ⟨a, b, c, e⟩ := x
    have ne : l ≠ p := by
      intro z
      rw [z, e] at hl
      cases hl
    refine ⟨p, l, a, b, c, xs.map V.int, rfl, (by rw [upd_ne ne.symm]; exact e), ne, upd_same, (by rw [List.length_map]; exact h0), (by rw [List.length_map]; exact h1), fun k v H2 hv g2 => ?_⟩
    rw [List.getElem?_map] at hv
    cases hx : xs[k]? with
    | none =>
      rw [hx] at hv
      cases hv
    | some m =>
      rw [hx] at hv
      cases hv
      exact q m H2 (hr m (List.mem_of_getElem? hx)) ((Bgd.new (Bgd.id' ⟨a, b, c, e⟩) hl).trans g2)⟩⟩
theorem q_asgB (h : EvB p te σ R) (hb : ∃ a b c : Int, H p = some (.lst [.int a, .int b, .int c])) (k : ∀ n H1, R n → Bgd p H H1 → u D (σ.set i (some (.int n))) H1) : tSeq (tAsg te (gName i)) u D σ H := h H hb _ k
end
theorem ne_bag {p l : Addr} {H : Hp} (h : ∃ a b c : Int, H p = some (.lst [.int a, .int b, .int c])) (hl : H l = none) : l ≠ p := by
  obtain ⟨a, b, c, e⟩ := h
  intro z
  rw [z, e] at hl
  cases hl
theorem ne_tup {p l : Addr} {H : Hp} {xs : List V} (h : ∃ a b c : Int, H p = some (.lst [.int a, .int b, .int c])) (hl : H l = some (.tup xs)) : l ≠ p := by
  obtain ⟨a, b, c, e⟩ := h
  intro z
  rw [z, e] at hl
  cases hl
theorem tup_at {p l : Addr} {H H' : Hp} {xs : List V} (g : Bgd p H H') (hb : ∃ a b c : Int, H p = some (.lst [.int a, .int b, .int c])) (hl : H l = some (.tup xs)) : H' l = some (.tup xs) := g.keep _ _ (ne_tup hb hl) hl
theorem bag_ex {p : Addr} {H H' : Hp} (e : Ex H H') (h : ∃ a b c : Int, H p = some (.lst [.int a, .int b, .int c])) : Bgd p H H' := by
  obtain ⟨a, b, c, q⟩ := h
  exact ⟨⟨a, b, c, e _ _ q⟩, fun l o _ z => e l o z⟩
theorem val_neg {σ : L2.St} {H : Hp} {n : Int} : Val (tUn (rU fun i => .int (-i)) (tC (.int n))) σ H (.int (-n)) := fun Q q => ⟨n, rfl, q⟩
theorem bd_of {n : Int} (h : n.natAbs ≤ 10 ^ 20) : Bd 100 n := ⟨Nat.lt_of_le_of_lt h (by decide)⟩
theorem log_of {n : Int} (h : n.natAbs ≤ 10 ^ 21) : n.natAbs.log2 < 9000 := (⟨Nat.lt_of_le_of_lt h (by decide)⟩ : Bd 100 n).log (by decide)
end Q
namespace Q
open PySem L2 PySem.Spec PyProof.Rows PySem.Calls
open Evl
section
variable {K : PySem.W.Frag} {σ : L2.St} {H : Hp} {ta tb te : TE} {a b i j : Nat} {m n : Int} {E : XK}
theorem ev_ixT {p : Addr} {xs : List V} {k : Int} {v : V} (h : Ev ta σ H (.ref p)) (hx : H p = some (.tup xs)) (hk : atI xs k = some v) : Ev (tOp (rIxT K) ta (tC (.int k))) σ H v := ev_op h ev_c (rv_ixT (SqT.of hx) hk)
theorem ev_ixL {p : Addr} {xs : List V} {k : Int} {v : V} (h : Ev ta σ H (.ref p)) (hx : H p = some (.lst xs)) (hk : atI xs k = some v) : Ev (tOp (rIxL K) ta (tC (.int k))) σ H v := ev_op h ev_c (rv_ixL (SqL.of hx) hk)
end
end Q
namespace Q
open PySem L2 PySem.Spec PyProof.Rows PySem.Calls
open Evl
section
variable {K : PySem.W.Frag} {σ : L2.St} {H : Hp} {t : TT} {te ta tb : TE} {v : V}
theorem el_lcT {a : Addr} {xs : List V} {tl : TE} {j : Nat} {vs : List Nat} (f : Nat → Bool) (v : Nat → V) (h : Ev tl σ H (.ref a)) (hx : SqT K H a xs) (hz : xs.length ≤ 40000) (hw : ∀ x, wipe ((wipe σ vs).set j (some x)) vs = wipe σ vs)
    (ht : ∀ (i : Nat) (x : V) H1, Ex H H1 → xs[i]? = some x → EvT t ((wipe σ vs).set j (some x)) H1 (f i)) (he : ∀ (i : Nat) (x : V) H1, Ex H H1 → xs[i]? = some x → f i = true → Ev te ((wipe σ vs).set j (some x)) H1 (v i)) :
    EvL (tLc (iTup K tl) (gName j) t te vs) σ H (given xs.length f v) := fun H0 e Q q => h H0 e _ fun H1 e1 => ⟨a, rfl, ⟨xs, ex_t (e.trans e1) hx⟩, fun Dl hD =>
  lc_tup (xs := xs) (Cw H1 f v Dl) ⟨hD, Ex.new hD, upd_same⟩ (fun i H' _ p => ex_t ((e.trans e1).trans p.2.1) hx) (fun i x H' hi p => ⟨hw x, cw_turn p (by have := (List.getElem?_eq_some_iff.mp hi).1; omega) (ht i x H1 (e.trans e1) hi) (fun hf => he i x H1 (e.trans e1) hi hf)⟩)
    (fun H' p => q Dl H' (fresh_back e1 p.1) (e1.trans p.2.1) p.2.2)⟩
theorem el_cat {x : Addr} {xs ys : List V} (h : Ev ta σ H (.ref x)) (hx : H x = some (.lst xs)) (hb : EvL tb σ H ys) (hz : xs.length + ys.length ≤ 100000) : EvL (tOp rCat ta tb) σ H (xs ++ ys) := fun H1 e Q q =>
  h H1 e _ fun H2 e2 => hb H2 (e.trans e2) _ fun l H3 hl e3 hl3 => ⟨x, l, xs, ys, rfl, rfl, e3 _ _ (e2 _ _ (e _ _ hx)), hl3, sz_of hz, fun p hp => q p _ (fresh_back (e2.trans e3) hp) ((e2.trans e3).trans (Ex.new hp)) upd_same⟩
theorem q_par {i j : Nat} {v1 v2 : V} {D : Ends} {tz : TS} (h1 : Ev ta σ H v1) (h2 : Ev tb σ H v2) (k : ∀ H1, Ex H H1 → tz D ((σ.set i (some v1)).set j (some v2)) H1) : tSeq (tPar i j (tCons ta (tCons tb tNil))) tz D σ H :=
  h1 H (Ex.refl H) _ fun H2 e2 => h2 H2 e2 _ fun H3 e3 => ⟨_, _, rfl, k H3 (e2.trans e3)⟩
end
end Q
namespace Q
open PySem L2 PySem.Spec PyProof.Rows PySem.Calls
open Evl
section
variable {K : PySem.W.Frag} {σ : L2.St} {H : Hp} {ta tb tc te : TE} {n m l : Int} {b : Bool} {D : Ends} {u : TS} {p q : P3} {i j : Nat} {E : XK}
theorem ev_min2 (ha : Ev ta σ H (.int n)) (hb : Ev tb σ H (.int m)) : Ev (tCB (fun xs H Q => ∃ i j, xs = [.int i, .int j] ∧ Q (.int (if j < i then j else i)) H) (tCons ta (tCons tb tNil))) σ H (.int (min n m)) := fun H1 e Q q =>
  ha H1 e _ fun H2 e2 => hb H2 (e.trans e2) _ fun H3 e3 => ⟨n, m, rfl, by
    have z : (if m < n then m else n) = min n m := by split <;> omega
    rw [z]
    exact q H3 (e2.trans e3)⟩
theorem ev_max2' (ha : Ev ta σ H (.int n)) (hb : Ev tb σ H (.int m)) : Ev (tCB (fun xs H Q => ∃ i j, xs = [.int i, .int j] ∧ Q (.int (if j > i then j else i)) H) (tCons ta (tCons tb tNil))) σ H (.int (max n m)) := fun H1 e Q q =>
  ha H1 e _ fun H2 e2 => hb H2 (e.trans e2) _ fun H3 e3 => ⟨n, m, rfl, by
    have z : (if m > n then m else n) = max n m := by split <;> omega
    rw [z]
    exact q H3 (e2.trans e3)⟩
theorem q_not {t : TT} {tu : TS} (h : EvT t σ H false) (k : ∀ H1, Ex H H1 → u D σ H1) : tSeq (tIfS t tu tNext) u D σ H := q_when h (fun z => nomatch z) fun _ => k
end
end Q
namespace Q
open PySem L2
theorem pick {α : Type} : ∀ (ws : List α) (r : Nat) (y : α), ws[r]? = some y → (y :: ws.eraseIdx r).Perm ws
  | [], r, y, h => by simp at h
  | a :: l, 0, y, h => by
    have e : a = y := Option.some.inj h
    subst e
    exact List.Perm.refl _
  | a :: l, r + 1, y, h => by
    have ih := pick l r y h
    exact (List.Perm.swap a y _).trans (List.Perm.cons a ih)
theorem yes_ite {σ : L2.St} {H : Hp} {A B : Hp → Prop} (h : A H) : tYes σ H (fun b H3 => if b = true then A H3 else B H3) := by
  show (if true = true then A H else B H)
  rw [if_pos rfl]
  exact h
theorem seqAt {r : Int} {n : Nat} (h0 : 0 ≤ r) (h : r < n) : seqIndex? r n = some r.toNat := PySem.seqIndex_of h0 h
theorem Bgd.old {p l : Addr} {H H1 : Hp} {o : HO} (x : Bgd p H H1) (hl : H l = none) (n : l ≠ p) : Bgd p H (upd H1 l o) := by
  obtain ⟨a, b, c, e⟩ := x.bag
  refine ⟨⟨a, b, c, by rw [upd_ne (Ne.symm n)]; exact e⟩, fun m u nm q => ?_⟩
  rw [upd_ne (ne_of_none q hl)]
  exact x.keep m u nm q
def rLn (K : PySem.W.Frag) : List V → Hp → VK → Prop := fun xs H Q => ∃ p ys, xs = [.ref p] ∧ (SqL K H p ys ∨ SqT K H p ys) ∧ Q (.int ys.length) H
end Q
namespace Q
open PySem L2 PySem.Spec PyProof.Rows PySem.Calls
open Evl
section
variable {K : PySem.W.Frag} {σ : L2.St} {H : Hp} {te tl : TE}
theorem et_yes : EvT tYes σ H true := fun H1 _ Q q => q H1 (Ex.refl _)
theorem given_map {α : Type} (xs : List α) (g : α → V) (d : α) : given xs.length (fun _ => true) (fun i => g (xs.getD i d)) = xs.map g := by
  unfold given
  rw [List.filter_eq_self.mpr (fun _ _ => rfl)]
  refine List.ext_getElem (by simp) fun i h1 h2 => ?_
  simp at h1
  simp [h1]
end
section
variable {P : Program} {w : World} {K : PySem.W.Frag} {mg : Str → Option Value} {base : Heap}
theorem getD_at {α : Type} {l : List α} {k : Nat} {m d : α} (h : l[k]? = some m) : l.getD k d = m := by
  rw [List.getD_eq_getElem?_getD, h]
  rfl
end
end Q
namespace Q
open PySem L2 PySem.Spec PyProof.Rows PySem.Calls
open Evl
section
variable {X : Cx}
def rInDT (K : PySem.W.Frag) : R2 := fun x y H Q => ∃ d ds, Dp K H x d ∧ Dp K H y (.tuple ds) ∧ PyData.canLayAll0 ds = true ∧ d.canLay0 = true ∧ PyData.depthAll ds ≤ 5 ∧ Q (.bl (ds.any fun z => PyData.eqv z d)) H
theorem op_inDT (hu : X.A.units + 65 < cLine) : OpR X (compareOp .In) (rInDT X.K) := by
  intro pins s σ H x y v u Q I rx ry h
  obtain ⟨d, ds, hd, he, sd, se, h5, q⟩ := h
  obtain ⟨as, r1⟩ := Dp.reads I d x v hd rx
  obtain ⟨bs, r2⟩ := Dp.reads I (.tuple ds) y u he ry
  exact SeqAt.in_tuple_reads r2 r1 sd se (by omega) ⟨.bl _, H, I, rfl, q⟩
end
end Q
set_option Elab.async false
set_option linter.all false
set_option maxRecDepth 100000
set_option maxHeartbeats 4000000
/-! sorted of tuples of ints of any sign -/
namespace Lx
open PySem PyProof.Rows
def lexL : List Int → List Int → Bool
  | [], [] => false
  | [], _ :: _ => true
  | _ :: _, [] => false
  | x :: xs, y :: ys => if x = y then lexL xs ys else decide (x < y)
theorem lexL_asym : ∀ {xs ys : List Int}, lexL xs ys = true → lexL ys xs = false
  | [], [], h => by cases h
  | [], _ :: _, _ => rfl
  | _ :: _, [], h => by cases h
  | x :: xs, y :: ys, h => by
    unfold lexL at h ⊢
    by_cases e : x = y
    · rw [if_pos e] at h
      rw [if_pos e.symm]
      exact lexL_asym h
    · rw [if_neg e] at h
      rw [if_neg (fun z => e z.symm)]
      have := of_decide_eq_true h
      exact decide_eq_false (by omega)
theorem lexL_tr : ∀ {xs ys zs : List Int}, lexL ys xs = false → lexL zs ys = false → lexL zs xs = false
  | [], _, [], _, _ => rfl
  | _ :: _, [], [], h, _ => by cases h
  | _ :: _, _ :: _, [], _, h => by cases h
  | [], _, _ :: _, _, _ => rfl
  | _ :: _, [], _ :: _, h, _ => by cases h
  | x :: xs, y :: ys, z :: zs, h1, h2 => by
    unfold lexL at h1 h2 ⊢
    by_cases e : y = x
    · rw [if_pos e] at h1
      by_cases f : z = y
      · rw [if_pos f] at h2
        rw [if_pos (f.trans e)]
        exact lexL_tr h1 h2
      · rw [if_neg f] at h2
        rw [if_neg (fun g => f (g.trans e.symm))]
        have := of_decide_eq_false h2
        exact decide_eq_false (by omega)
    · rw [if_neg e] at h1
      have a := of_decide_eq_false h1
      by_cases f : z = y
      · rw [if_neg (fun g => e (f.symm.trans g))]
        exact decide_eq_false (by omega)
      · rw [if_neg f] at h2
        have b := of_decide_eq_false h2
        rw [if_neg (by omega)]
        exact decide_eq_false (by omega)
theorem swo (k : α → List Int) : SrtO.Swo fun v u => lexL (k v) (k u) := ⟨fun _ _ h => lexL_asym h, fun _ _ _ h1 h2 => lexL_tr h1 h2⟩
section
variable {prog : Program} {w : World} {A : Around} {E : Value → Shared → Prop} {s : Shared} {Q : Bool → Shared → Prop}
theorem walk_lex {b : Bool} {xs ys : List Value} {ns ms : List Int} (i : Nat) (hx : IntsAre xs ns) (hy : IntsAre ys ms) (hl : ns.length = ms.length) (h : Q (lexL ns ms) s) : PySem.W.KatLex prog w A b false Q (xs.zip ys) i s := by
  induction hx generalizing ys ms i with
  | nil =>
    cases hy with
    | nil => exact PySem.W.kat_nil h
    | cons q u hy => simp at hl
  | @cons p t xs ns hx ih =>
    cases hy with
    | nil => simp at hl
    | @cons q u ys ms hy =>
      have hl' : ns.length = ms.length := by simpa using hl
      show PySem.W.KatLex prog w A b false Q ((Value.int p t, Value.int q u) :: xs.zip ys) i s
      refine PySem.W.kat_cons (wpAny_eqBool_int ?_)
      unfold lexL at h
      by_cases e : p = q
      · rw [if_pos e] at h
        rw [show (p == q) = true from beq_iff_eq.mpr e]
        refine PySem.W.kat_yes ?_
        first
          | exact ih (i + 1) hy hl' h
          | exact ih _ _ (i + 1) hy hl' h
      · rw [if_neg e] at h
        rw [show (p == q) = false from beq_eq_false_iff_ne.mpr e]
        exact PySem.W.kat_no (TS.oneLt_ints _ h)
def Tups (h : Heap) (d : Nat) (k : Value → List Int) (vs : List Value) : Prop := ∀ v, v ∈ vs → TS.TupInts h v (k v) ∧ (k v).length = d
theorem heads {h : Heap} {d : Nat} {k : Value → List Int} (hd : 1 ≤ d) : ∀ vs : List Value, Tups h d k vs → ∃ fs, PySem.W.KatTups h vs fs ∧ fs.length = vs.length ∧ ∀ f, f ∈ fs → ∃ n t, f = Value.int n t
  | [], _ => ⟨[], PySem.W.KatTups.nil, rfl, fun f hf => by simp at hf⟩
  | v :: vs, x => by
    obtain ⟨fs, kt, hl, hi⟩ := heads hd vs fun u hu => x u (List.mem_cons_of_mem _ hu)
    obtain ⟨⟨a, xs, e, ⟨o, ho, hc, n, hdt⟩, i⟩, hn⟩ := x v (List.mem_cons_self ..)
    subst e
    have hlen := i.length
    match q : xs.toList, i with
    | [], i =>
      have l := i.length
      rw [List.length_nil, hn] at l
      omega
    | y :: ys, i =>
      obtain ⟨m, t, hy⟩ := i.all y (List.mem_cons_self ..)
      have hk0 : xs[0]? = some y := by
        have z := congrArg (fun l : List Value => l[0]?) q
        simpa using z
      refine ⟨y :: fs, PySem.W.KatTups.cons ho hc hdt hk0 kt, by simp [hl], fun f hf => ?_⟩
      rcases List.mem_cons.mp hf with rfl | hf
      · exact ⟨m, t, hy⟩
      · exact hi f hf
theorem sortable {a : Addr} {vs : List Value} {d : Nat} {k : Value → List Int} (hd : 1 ≤ d) (h0 : 0 < vs.length) (hp : Tups s.heap d k vs) (ha : ∀ o, s.heap.get? a = some o → o.cls ≠ .type "tuple") : SrtO.SortableO prog w A s a vs fun v u => lexL (k v) (k u) := by
  intro h' keep
  have hp' : Tups h' d k vs := fun v hm => ⟨(hp v hm).1.keeps fun b o e c => keep b o (fun z => by subst z; exact ha o e c) e, (hp v hm).2⟩
  obtain ⟨fs, h1, h2, h3⟩ := heads hd vs hp'
  refine ⟨tuples' true, fun Q E hq => ?_, ?_⟩
  · refine PySem.W.kat_kind (T := .type "int") h1 (by omega) (fun f hm => ?_) (by rfl) ?_
    · obtain ⟨x, t, rfl⟩ := h3 f hm
      exact PySem.W.Looks.now
    · have e : (Value.type "int" != Value.type "tuple") = true := by first | decide +kernel | rfl | decide
      rw [e]
      exact hq
  · intro p q hm hm'
    obtain ⟨⟨a1, xs, e1, ⟨o1, ho1, hc1, n1, hd1⟩, i1⟩, l1⟩ := hp' _ hm
    obtain ⟨⟨a2, ys, e2, ⟨o2, ho2, hc2, n2, hd2⟩, i2⟩, l2⟩ := hp' _ hm'
    show wpAny (model prog w) A (keyLt' (tuples' true) p.1 q.1) (fun r s' => s' = _ ∧ r = lexL (k p.1) (k q.1)) (fun _ _ => False) _
    generalize k p.1 = ns at i1 l1 ⊢
    generalize k q.1 = ms at i2 l2 ⊢
    rw [e1, e2]
    refine PySem.W.kat_lt ho1 hd1 ho2 hd2 ?_
    have sz : decide (xs.size < ys.size) = false := by
      have j1 := i1.length
      have j2 := i2.length
      rw [Array.length_toList] at j1 j2
      exact decide_eq_false (by omega)
    rw [sz]
    exact walk_lex 0 i1 i2 (by omega) ⟨rfl, rfl⟩
end
end Lx
namespace L2
open PySem PySem.Spec PyProof.Rows
/-- sorted(xs), xs a list of tuples of d ints -/
def rSortLex (K : PySem.W.Frag) : List V → Hp → VK → Prop := fun vs H Q => ∃ (a : Addr) (xs : List V) (k : V → List Int) (d : Nat), vs = [V.ref a] ∧ SqL K H a xs ∧ 1 ≤ d ∧ (∀ x ∈ xs, TupI K H x (k x) ∧ (k x).length = d) ∧
  ∀ ys p, ys.Perm xs → ys.Pairwise (fun x y => Lx.lexL (k y) (k x) = false) → H p = none → Q (.ref p) (upd H p (.lst ys))
section
variable {X : Cx}
theorem cr_sortLex : CallR X (.builtin "sorted") (rSortLex X.K) := by
  intro pins s σ H vs us Q I r h
  obtain ⟨a, xs, k, d, rfl, hs, hd, hx, q⟩ := h
  obtain ⟨its, rv, hl, hz⟩ := I.list hs
  rw [Vals.ref1 r]
  obtain ⟨e1, e2⟩ := bkV_refs rv fun x m => by
    obtain ⟨⟨t, e, _⟩, _⟩ := hx x m
    exact ⟨t, e⟩
  have hT : Lx.Tups s.heap d (fun u => k (bkV u)) its := fun v hv => by
    obtain ⟨t, rfl⟩ := e2 v hv
    have hm : V.ref t ∈ xs := by
      rw [e1]
      exact List.mem_map.mpr ⟨_, hv, rfl⟩
    obtain ⟨⟨t', e, ht⟩, hn⟩ := hx _ hm
    cases e
    exact ⟨tupI_raw I ht, hn⟩
  refine SrtO.sorted_ord (Lx.swo fun u => k (bkV u)) hl.isList (by rw [← rv.length]; exact hz) (fun h2 h₁ b hb kk => ?_) fun out h1 h2 => ?_
  · refine Lx.sortable (s := { s with heap := h₁ }) hd (by omega) (fun v hm => ⟨(hT v hm).1.keeps fun b o e _ => (kk b o e).2, (hT v hm).2⟩) fun o e => ?_
    have e' : some o = some (seqObj "list" its.toArray 0) := e.symm.trans hb
    cases e'
    intro c
    exact absurd (Value.type.inj c) (by decide)
  · obtain ⟨ep, he'⟩ := PyProof.Rows.sortedAll_at s.heap its out.toArray
    have h3 : ∀ u ∈ out, ∃ a, u = Value.ref a := fun u hu => e2 u (h2.perm.mem_iff.mp hu)
    have hp : (out.map bkV).Perm xs := by
      rw [e1]
      exact h2.perm.map bkV
    have hlen : (out.map bkV).length ≤ sizeLine := by
      rw [hp.length_eq]
      exact hz
    refine ⟨.ref _, upd H (s.heap.objs.size + 1) (.lst (out.map bkV)), I.laid (t' := s.toks) (fun _ _ => PyProof.Rows.sortedAll_old) (Nat.le_succ _) ⟨hlen, out, ep, bkV_vals h3, he'⟩, rfl, q _ _ hp ?_ (I.hok.fresh (Nat.le_succ _))⟩
    rw [List.pairwise_map]
    exact h1
end
end L2
set_option Elab.async false
set_option linter.all false
set_option maxRecDepth 100000
set_option maxHeartbeats 2000000
/-! what tuples tell: ints, texts and tuples of them -/
namespace Q
open PySem L2 PySem.Spec PyProof.Rows PySem.Calls
open Evl
inductive TDs (H : Hp) : List V → List PyData → Prop where
  | nil : TDs H [] []
  | int (i : Int) {xs : List V} {ds : List PyData} (t : TDs H xs ds) : TDs H (.int i :: xs) (.int i :: ds)
  | str (s : Str) {xs : List V} {ds : List PyData} (t : TDs H xs ds) : TDs H (.str s :: xs) (.str s :: ds)
  | bl (b : Bool) {xs : List V} {ds : List PyData} (t : TDs H xs ds) : TDs H (.bl b :: xs) (.bool b :: ds)
  | non {xs : List V} {ds : List PyData} (t : TDs H xs ds) : TDs H (.non :: xs) (.none :: ds)
  | tup {a : Addr} {ys : List V} {es : List PyData} {xs : List V} {ds : List PyData} (h : H a = some (.tup ys)) (m : TDs H ys es) (t : TDs H xs ds) : TDs H (.ref a :: xs) (.tuple es :: ds)
def TD1 (H : Hp) (v : V) (d : PyData) : Prop := TDs H [v] [d]
theorem TDs.by {H H' : Hp} {xs : List V} {ds : List PyData} (h : TDs H xs ds) (k : ∀ a ys, H a = some (.tup ys) → H' a = some (.tup ys)) : TDs H' xs ds := by
  induction h with
  | nil => exact .nil
  | int i _ ih => exact .int i ih
  | str s _ ih => exact .str s ih
  | bl b _ ih => exact .bl b ih
  | non _ ih => exact .non ih
  | tup h _ _ im ih => exact .tup (k _ _ h) im ih
theorem TDs.mono {H H' : Hp} (e : Ex H H') {xs : List V} {ds : List PyData} (h : TDs H xs ds) : TDs H' xs ds := h.by fun _ _ q => e _ _ q
theorem TDs.len {H : Hp} {xs : List V} {ds : List PyData} (h : TDs H xs ds) : xs.length = ds.length := by
  induction h with
  | nil => rfl
  | int i _ ih => rw [List.length_cons, List.length_cons, ih]
  | str s _ ih => rw [List.length_cons, List.length_cons, ih]
  | bl b _ ih => rw [List.length_cons, List.length_cons, ih]
  | non _ ih => rw [List.length_cons, List.length_cons, ih]
  | tup h _ _ _ ih => rw [List.length_cons, List.length_cons, ih]
theorem TDs.cons {H : Hp} {v : V} {d : PyData} {xs : List V} {ds : List PyData} (h : TD1 H v d) (t : TDs H xs ds) : TDs H (v :: xs) (d :: ds) := by
  cases h with
  | int i _ => exact .int i t
  | str s _ => exact .str s t
  | bl b _ => exact .bl b t
  | non _ => exact .non t
  | tup h m _ => exact .tup h m t
theorem TDs.inv {H : Hp} {xs : List V} {d : PyData} {ds : List PyData} (h : TDs H xs (d :: ds)) : ∃ v ys, xs = v :: ys ∧ TD1 H v d ∧ TDs H ys ds := by
  cases h with
  | int i t => exact ⟨_, _, rfl, .int i .nil, t⟩
  | str s t => exact ⟨_, _, rfl, .str s .nil, t⟩
  | bl b t => exact ⟨_, _, rfl, .bl b .nil, t⟩
  | non t => exact ⟨_, _, rfl, .non .nil, t⟩
  | tup h m t => exact ⟨_, _, rfl, .tup h m .nil, t⟩
theorem TDs.inv0 {H : Hp} {xs : List V} (h : TDs H xs []) : xs = [] := by
  cases h with
  | nil => rfl
theorem TDs.app {H : Hp} {xs ys : List V} {ds es : List PyData} (h : TDs H xs ds) (k : TDs H ys es) : TDs H (xs ++ ys) (ds ++ es) := by
  induction h with
  | nil => exact k
  | int i _ ih => exact .int i ih
  | str s _ ih => exact .str s ih
  | bl b _ ih => exact .bl b ih
  | non _ ih => exact .non ih
  | tup h m _ _ ih => exact .tup h m ih
theorem TDs.at {H : Hp} : ∀ {ds : List PyData} {xs : List V} {i : Nat} {d : PyData}, TDs H xs ds → ds[i]? = some d → ∃ v, xs[i]? = some v ∧ TD1 H v d
  | [], _, i, d, _, h => by simp at h
  | e :: ds, xs, i, d, t, h => by
    obtain ⟨v, ys, rfl, hv, ht⟩ := t.inv
    match i, h with
    | 0, h =>
      cases h
      exact ⟨v, rfl, hv⟩
    | i + 1, h => exact TDs.at (i := i) ht (by simpa using h)
theorem TDs.to {H : Hp} {ds : List PyData} {xs : List V} {i : Nat} {v : V} (t : TDs H xs ds) (h : xs[i]? = some v) : ∃ d, ds[i]? = some d ∧ TD1 H v d := by
  have hl := t.len
  have hi := (List.getElem?_eq_some_iff.mp h).1
  have e : ds[i]? = some (ds[i]'(by omega)) := List.getElem?_eq_getElem (by omega)
  obtain ⟨u, hu, x⟩ := t.at e
  rw [h] at hu
  cases hu
  exact ⟨_, e, x⟩
theorem TDs.take {H : Hp} : ∀ {ds : List PyData} {xs : List V} (n : Nat), TDs H xs ds → TDs H (xs.take n) (ds.take n)
  | [], xs, n, h => by
    rw [h.inv0, List.take_nil, List.take_nil]
    exact .nil
  | d :: ds, xs, 0, h => .nil
  | d :: ds, xs, n + 1, h => by
    obtain ⟨v, ys, rfl, hv, ht⟩ := h.inv
    exact TDs.cons hv (TDs.take n ht)
theorem TDs.drop {H : Hp} : ∀ {ds : List PyData} {xs : List V} (n : Nat), TDs H xs ds → TDs H (xs.drop n) (ds.drop n)
  | [], xs, n, h => by
    rw [h.inv0, List.drop_nil, List.drop_nil]
    exact .nil
  | d :: ds, xs, 0, h => h
  | d :: ds, xs, n + 1, h => by
    obtain ⟨v, ys, rfl, hv, ht⟩ := h.inv
    exact TDs.drop n ht
theorem TDs.ints {H : Hp} : ∀ ns : List Int, TDs H (ns.map V.int) (ns.map PyData.int)
  | [] => .nil
  | n :: ns => .int n (TDs.ints ns)
theorem TDs.ints_inv {H : Hp} : ∀ {ns : List Int} {xs : List V}, TDs H xs (ns.map PyData.int) → xs = ns.map V.int
  | [], xs, h => h.inv0
  | n :: ns, xs, h => by
    obtain ⟨v, ys, rfl, hv, ht⟩ := h.inv
    cases hv
    rw [TDs.ints_inv ht]
    rfl
theorem TDs.bls_inv {H : Hp} : ∀ {bs : List Bool} {xs : List V}, TDs H xs (bs.map PyData.bool) → xs = bs.map V.bl
  | [], xs, h => h.inv0
  | b :: bs, xs, h => by
    obtain ⟨v, ys, rfl, hv, ht⟩ := h.inv
    cases hv
    rw [TDs.bls_inv ht]
    rfl
theorem TD1.tup {H : Hp} {v : V} {ds : List PyData} (h : TD1 H v (.tuple ds)) : ∃ a xs, v = .ref a ∧ H a = some (.tup xs) ∧ TDs H xs ds := by
  cases h with
  | tup h m _ => exact ⟨_, _, rfl, h, m⟩
theorem TD1.mk {H : Hp} {a : Addr} {xs : List V} {ds : List PyData} (h : H a = some (.tup xs)) (t : TDs H xs ds) : TD1 H (.ref a) (.tuple ds) := TDs.tup h t .nil
theorem TD1.int {H : Hp} {v : V} {n : Int} (h : TD1 H v (.int n)) : v = .int n := by
  cases h with
  | int i _ => rfl
theorem TD1.str {H : Hp} {v : V} {s : Str} (h : TD1 H v (.str s)) : v = .str s := by
  cases h with
  | str s _ => rfl
theorem TD1.mono {H H' : Hp} (e : Ex H H') {v : V} {d : PyData} (h : TD1 H v d) : TD1 H' v d := TDs.mono e h
theorem TD1.by {H H' : Hp} {v : V} {d : PyData} (h : TD1 H v d) (k : ∀ a ys, H a = some (.tup ys) → H' a = some (.tup ys)) : TD1 H' v d := TDs.by h k
theorem TDs.dp {K : PySem.W.Frag} {H : Hp} {xs : List V} {ds : List PyData} (h : TDs H xs ds) : DpAll K H xs ds := by
  induction h with
  | nil => exact .nil
  | int i _ ih => exact .cons (.int i) ih
  | str s _ ih => exact .cons (.str s) ih
  | bl b _ ih => exact .cons (.bl b) ih
  | non _ ih => exact .cons .non ih
  | tup h _ _ im ih => exact .cons (.tup (SqT.of h) im) ih
theorem TD1.dp {K : PySem.W.Frag} {H : Hp} {v : V} {d : PyData} (h : TD1 H v d) : Dp K H v d := by
  have z := TDs.dp (K := K) h
  cases z with
  | cons z _ => exact z
/-! what evaluates to something that tells so -/
def EvD (te : TE) (σ : L2.St) (H : Hp) (d : PyData) : Prop := ∀ H1, Ex H H1 → ∀ Q : VK, (∀ v H2, Ex H1 H2 → TD1 H2 v d → Q v H2) → te σ H1 Q
/-- a new list of such -/
def EvDs (te : TE) (σ : L2.St) (H : Hp) (ds : List PyData) : Prop := ∀ H1, Ex H H1 → ∀ Q : VK, (∀ p xs H2, H1 p = none → Ex H1 H2 → H2 p = some (.lst xs) → TDs H2 xs ds → Q (.ref p) H2) → te σ H1 Q
/-- arguments -/
def EvDa (ta : TA) (σ : L2.St) (H : Hp) (ds : List PyData) : Prop := ∀ H1, Ex H H1 → ∀ Q : List V → Hp → Prop, (∀ vs H2, Ex H1 H2 → TDs H2 vs ds → Q vs H2) → ta σ H1 Q
section
variable {K : PySem.W.Frag} {σ : L2.St} {H H' : Hp} {ta : TA} {te tl tb : TE} {d : PyData} {ds es : List PyData} {i : Nat} {v : V} {n : Int} {D : Ends} {tz : TS} {E : XK}
theorem EvD.mono (e : Ex H H') (h : EvD te σ H d) : EvD te σ H' d := fun H1 a Q q => h H1 (e.trans a) Q q
theorem EvDs.mono (e : Ex H H') (h : EvDs te σ H ds) : EvDs te σ H' ds := fun H1 a Q q => h H1 (e.trans a) Q q
theorem ed_var (h : σ[i]? = some (some v)) (x : TD1 H v d) : EvD (tVar i) σ H d := fun H1 e Q q => ⟨v, h, q v H1 (Ex.refl _) (x.mono e)⟩
theorem ed_of (h : Ev te σ H v) (x : TD1 H v d) : EvD te σ H d := fun H1 e Q q => h H1 e _ fun H2 e2 => q v H2 e2 (x.mono (e.trans e2))
theorem ed_ix {k : Int} (h : EvD te σ H (.tuple ds)) (hk : 0 ≤ k ∧ ds[k.toNat]? = some d) : EvD (tOp (rIxT K) te (tC (.int k))) σ H d := fun H1 e Q q =>
  h H1 e _ fun v H2 e2 x => by
    obtain ⟨a, xs, rfl, ha, t⟩ := x.tup
    obtain ⟨u, hu, y⟩ := t.at hk.2
    have e3 : k = ((k.toNat : Nat) : Int) := by omega
    have z : atI xs ((k.toNat : Nat) : Int) = some u := atI_nat hu
    rw [← e3] at z
    exact ⟨a, xs, k, u, rfl, rfl, SqT.of ha, z, q u H2 e2 y⟩
theorem ev_ofD (h : EvD te σ H (.int n)) : Ev te σ H (.int n) := fun H1 e Q q => h H1 e _ fun v H2 e2 x => by
  rw [x.int]
  exact q H2 e2
theorem ev_ofS {s : Str} (h : EvD te σ H (.str s)) : Ev te σ H (.str s) := fun H1 e Q q => h H1 e _ fun v H2 e2 x => by
  rw [x.str]
  exact q H2 e2
theorem ed_int (h : Ev te σ H (.int n)) : EvD te σ H (.int n) := ed_of h (TDs.int n .nil)
theorem ed_str {s : Str} (h : Ev te σ H (.str s)) : EvD te σ H (.str s) := ed_of h (TDs.str s .nil)
theorem da_nil : EvDa tNil σ H [] := fun H1 _ Q q => q [] H1 (Ex.refl _) .nil
theorem da_cons (h : EvD te σ H d) (t : EvDa ta σ H ds) : EvDa (tCons te ta) σ H (d :: ds) := fun H1 e Q q =>
  h H1 e _ fun v H2 e2 x => t H2 (e.trans e2) _ fun vs H3 e3 y => q (v :: vs) H3 (e2.trans e3) (TDs.cons (x.mono e3) y)
theorem ed_tup (h : EvDa ta σ H ds) (hl : ds.length ≤ 100000) : EvD (tTup ta) σ H (.tuple ds) := fun H1 e Q q =>
  h H1 e _ fun vs H2 e2 x => ⟨sz_of (by rw [x.len]; exact hl), fun p hp => q (.ref p) _ (e2.trans (Ex.new hp)) (TD1.mk upd_same (x.mono (Ex.new hp)))⟩
theorem eds_lst (h : EvDa ta σ H ds) (hl : ds.length ≤ 100000) : EvDs (tLst ta) σ H ds := fun H1 e Q q =>
  h H1 e _ fun vs H2 e2 x => ⟨sz_of (by rw [x.len]; exact hl), fun p hp => q p vs _ (fresh_back e2 hp) (e2.trans (Ex.new hp)) upd_same (x.mono (Ex.new hp))⟩
theorem q_asgD (h : EvD te σ H d) (k : ∀ v H1, Ex H H1 → TD1 H1 v d → tz D (σ.set i (some v)) H1) : tSeq (tAsg te (gName i)) tz D σ H := h H (Ex.refl H) _ fun v H1 e x => k v H1 e x
theorem q_asgDs (h : EvDs te σ H ds) (k : ∀ l xs H1, Ex H H1 → H l = none → H1 l = some (.lst xs) → TDs H1 xs ds → tz D (σ.set i (some (.ref l))) H1) : tSeq (tAsg te (gName i)) tz D σ H := h H (Ex.refl H) _ fun l xs H1 n e hl x => k l xs H1 e n hl x
theorem s_retD (h : EvD te σ H d) (k : ∀ v H1, Ex H H1 → TD1 H1 v d → D.rt v H1) : tRet te D σ H := h H (Ex.refl H) _ k
theorem s_retDs (h : EvDs te σ H ds) (k : ∀ l xs H1, H l = none → Ex H H1 → H1 l = some (.lst xs) → TDs H1 xs ds → D.rt (.ref l) H1) : tRet te D σ H := h H (Ex.refl H) _ k
/-- tuple(list) -/
theorem ed_tupL (h : EvDs te σ H ds) : EvD (tCB (fun xs H Q => ∃ p ys, xs = [.ref p] ∧ ((SqL K H p ys ∧ ∀ l, H l = none → Q (.ref l) (upd H l (.tup ys))) ∨ (SqT K H p ys ∧ Q (.ref p) H))) (tCons te tNil)) σ H (.tuple ds) := fun H0 e0 Q q =>
  h H0 e0 _ fun p xs H1 hn e hp x => ⟨p, xs, rfl, .inl ⟨SqL.of hp, fun l hl => q (.ref l) _ (e.trans (Ex.new hl)) (TD1.mk upd_same (x.mono (Ex.new hl)))⟩⟩
theorem ed_tupV {L : Addr} {xs : List V} (h : Ev te σ H (.ref L)) (hL : H L = some (.lst xs)) (x : TDs H xs ds) : EvD (tCB (fun xs H Q => ∃ p ys, xs = [.ref p] ∧ ((SqL K H p ys ∧ ∀ l, H l = none → Q (.ref l) (upd H l (.tup ys))) ∨ (SqT K H p ys ∧ Q (.ref p) H))) (tCons te tNil)) σ H (.tuple ds) := fun H0 e0 Q q =>
  h H0 e0 _ fun H1 e => ⟨L, xs, rfl, .inl ⟨SqL.of ((e0.trans e) _ _ hL), fun l hl => q (.ref l) _ (e.trans (Ex.new hl)) (TD1.mk upd_same (x.mono ((e0.trans e).trans (Ex.new hl))))⟩⟩
end
/-- a def called once, a new or old value told by it -/
theorem ed_call {sp : Sp} {E : XK} {ta : TA} {σ : L2.St} {H : Hp} {ds : List PyData} {d : PyData} (h : EvDa ta σ H ds) (hs : ∀ vs H1, Ex H H1 → TDs H1 vs ds → ∀ Q : VK, (∀ v H2, Ex H1 H2 → TD1 H2 v d → Q v H2) → sp vs H1 Q E) : EvD (tCall sp [] E ta) σ H d := fun H1 e Q q =>
  h H1 e _ fun vs H2 e2 x => by
    have z := hs vs H2 (e.trans e2) x Q fun v H3 e3 y => q v H3 (e2.trans e3) y
    show sp (vs ++ []) H2 Q E
    rw [List.append_nil]
    exact z
theorem ev_callD {sp : Sp} {E : XK} {ta : TA} {σ : L2.St} {H : Hp} {ds : List PyData} {z : V} (h : EvDa ta σ H ds) (hs : ∀ vs H1, Ex H H1 → TDs H1 vs ds → ∀ Q : VK, (∀ H2, Ex H1 H2 → Q z H2) → sp vs H1 Q E) : Ev (tCall sp [] E ta) σ H z := fun H1 e Q q =>
  h H1 e _ fun vs H2 e2 x => by
    have z := hs vs H2 (e.trans e2) x Q fun H3 e3 => q H3 (e2.trans e3)
    show sp (vs ++ []) H2 Q E
    rw [List.append_nil]
    exact z
end Q
set_option Elab.async false
set_option linter.all false
set_option maxRecDepth 100000
set_option maxHeartbeats 2000000
/-! comprehensions over what is told -/
namespace Q
open PySem L2 PySem.Spec PyProof.Rows PySem.Calls
open Evl
/-- some list that tells so -/
def EvLd (te : TE) (σ : L2.St) (H : Hp) (ds : List PyData) : Prop := ∀ H1, Ex H H1 → ∀ Q : VK, (∀ p xs H2, Ex H1 H2 → H2 p = some (.lst xs) → TDs H2 xs ds → Q (.ref p) H2) → te σ H1 Q
section
variable {K : PySem.W.Frag} {σ : L2.St} {H H' : Hp} {ta : TA} {te tl tb : TE} {d : PyData} {ds es : List PyData} {i : Nat} {v : V} {n : Int} {D : Ends} {tz : TS} {E : XK} {xs : List V} {a : Addr}
theorem ld_new (h : EvDs te σ H ds) : EvLd te σ H ds := fun H1 e Q q => h H1 e _ fun p xs H2 _ e2 hp x => q p xs H2 e2 hp x
theorem ld_of (h : Ev te σ H (.ref a)) (ha : H a = some (.lst xs)) (x : TDs H xs ds) : EvLd te σ H ds := fun H1 e Q q => h H1 e _ fun H2 e2 => q a xs H2 e2 ((e.trans e2) _ _ ha) (x.mono (e.trans e2))
theorem EvLd.mono (e : Ex H H') (h : EvLd te σ H ds) : EvLd te σ H' ds := fun H1 a Q q => h H1 (e.trans a) Q q
theorem ev_all {bs : List Bool} (h : EvDs te σ H (bs.map PyData.bool)) : Ev (tCB (rAll K) (tCons te tNil)) σ H (.bl (bs.all id)) := fun H1 e Q q =>
  h H1 e _ fun p xs H2 _ e2 hp x => by
    rw [x.bls_inv] at hp
    exact ⟨p, bs, rfl, SqL.of hp, q H2 e2⟩
theorem ev_lenL (h : EvLd te σ H ds) : Ev (tCB (rLn K) (tCons te tNil)) σ H (.int ds.length) := fun H1 e Q q =>
  h H1 e _ fun p xs H2 e2 hp x => ⟨p, xs, rfl, .inl (SqL.of hp), by
    rw [x.len]
    exact q H2 e2⟩
theorem ev_lenT (h : EvD te σ H (.tuple ds)) : Ev (tCB (rLn K) (tCons te tNil)) σ H (.int ds.length) := fun H1 e Q q =>
  h H1 e _ fun v H2 e2 x => by
    obtain ⟨p, xs, rfl, hp, y⟩ := x.tup
    exact ⟨p, xs, rfl, .inr (SqT.of hp), by
      rw [y.len]
      exact q H2 e2⟩
end
section
variable {α : Type} {enc : α → PyData} {es : List α} {p : α → Bool} {F : α → PyData}
/-- the comprehension's list as it grows -/
def Cd (H : Hp) (p : α → Bool) (F : α → PyData) (es : List α) (Dl : Addr) (i : Nat) (H' : Hp) : Prop := H Dl = none ∧ Ex H H' ∧ ∃ acc : List V, H' Dl = some (.lst acc) ∧ TDs H' acc (((es.take i).filter p).map F)
theorem take_snoc {i : Nat} {e : α} (h : es[i]? = some e) : es.take (i + 1) = es.take i ++ [e] := by
  rw [List.take_add_one, h]
  rfl
theorem upd_tup {H : Hp} {Dl : Addr} {xs ys : List V} (h : H Dl = some (.lst xs)) : ∀ a zs, H a = some (.tup zs) → upd H Dl (.lst ys) a = some (.tup zs) := fun a zs ha => by
  have na : a ≠ Dl := by
    intro z
    rw [z, h] at ha
    cases ha
  rw [upd_ne na]
  exact ha
variable {K : PySem.W.Frag} {σ : L2.St} {H : Hp} {te tl : TE} {tt : TT} {g : TG} {vs : List Nat}
theorem cd_turn {H1 H' H3 : Hp} {Dl : Addr} {i : Nat} {e : α} {σ2 : L2.St} (c : Cd H1 p F es Dl i H') (hi : es[i]? = some e) (hz : es.length ≤ 40000) (e3 : Ex H' H3) (ht : EvT tt σ2 H3 (p e)) (he : p e = true → EvD te σ2 H3 (F e)) :
    tt σ2 H3 fun b H4 => if b = true then te σ2 H4 fun y H5 => ∃ acc, H5 Dl = some (.lst acc) ∧ acc.length < sizeLine ∧ Cd H1 p F es Dl (i + 1) (upd H5 Dl (.lst (acc ++ [y]))) else Cd H1 p F es Dl (i + 1) H4 := by
  obtain ⟨c1, c2, acc, c3, c4⟩ := c
  have hlt := (List.getElem?_eq_some_iff.mp hi).1
  refine ht H3 (Ex.refl _) _ fun H4 e4 => ?_
  have e34 := e3.trans e4
  cases hp : p e with
  | true =>
    show te σ2 H4 fun y H5 => ∃ acc, H5 Dl = some (.lst acc) ∧ acc.length < sizeLine ∧ Cd H1 p F es Dl (i + 1) (upd H5 Dl (.lst (acc ++ [y])))
    refine he hp H4 e4 _ fun y H5 e5 x => ⟨acc, (e34.trans e5) _ _ c3, sz_lt ?_, c1, Ex.mut (c2.trans (e34.trans e5)) c1, acc ++ [y], upd_same, ?_⟩
    · rw [c4.len, List.length_map]
      have := List.length_filter_le p (es.take i)
      rw [List.length_take] at this
      omega
    · rw [take_snoc hi, List.filter_append, List.map_append]
      have hf : [e].filter p = [e] := by rw [List.filter_cons, if_pos hp]; rfl
      rw [hf]
      exact ((c4.mono (e34.trans e5)).app x).by (upd_tup ((e34.trans e5) _ _ c3))
  | false =>
    show Cd H1 p F es Dl (i + 1) H4
    refine ⟨c1, c2.trans e34, acc, e34 _ _ c3, ?_⟩
    rw [take_snoc hi, List.filter_append, List.map_append]
    have hf : [e].filter p = [] := by rw [List.filter_cons, if_neg (by rw [hp]; decide)]; rfl
    rw [hf, List.map_nil, List.append_nil]
    exact c4.mono e34
/-- what one turn asks: the item told, any heap further on -/
def Turn1 (g : TG) (tt : TT) (te : TE) (vs : List Nat) (σ : L2.St) (H : Hp) (enc : α → PyData) (p : α → Bool) (F : α → PyData) (e : α) : Prop := ∀ v H1, Ex H H1 → TD1 H1 v (enc e) → ∀ kk : L2.St → Hp → Prop,
  (∀ σ2 H2, Ex H1 H2 → wipe σ2 vs = wipe σ vs → EvT tt σ2 H2 (p e) → (p e = true → EvD te σ2 H2 (F e)) → kk σ2 H2) → g v (wipe σ vs) H1 kk
theorem Turn1.mono {H' : Hp} {e : α} (x : Ex H H') (t : Turn1 g tt te vs σ H enc p F e) : Turn1 g tt te vs σ H' enc p F e := fun v H1 e1 => t v H1 (x.trans e1)
theorem eds_lc (p : α → Bool) (F : α → PyData) (h : EvLd tl σ H (es.map enc)) (hz : es.length ≤ 40000) (hs : ∀ e ∈ es, Turn1 g tt te vs σ H enc p F e) : EvDs (tLc (iList K tl) g tt te vs) σ H ((es.filter p).map F) := fun H0 e0 Q q =>
  h H0 e0 _ fun a xs H1 e1 ha x => ⟨a, rfl, ⟨xs, SqL.of ha⟩, fun Dl hD =>
    lc_list (xs := xs) (Cd H1 p F es Dl) ⟨hD, Ex.new hD, [], upd_same, by rw [List.take_zero]; exact .nil⟩ (fun i H' _ c => SqL.of (c.2.1 _ _ ha)) (fun i v H' hv c => by
      obtain ⟨d, hd, y⟩ := x.to hv
      rw [List.getElem?_map] at hd
      obtain ⟨e, he, rfl⟩ := Option.map_eq_some_iff.mp hd
      exact hs e (List.mem_of_getElem? he) v H' ((e0.trans e1).trans c.2.1) (y.mono c.2.1) _ fun σ2 H3 e3 hw ht hte => ⟨hw, cd_turn c he hz e3 ht hte⟩)
      (fun H' c => by
        obtain ⟨c1, c2, acc, c3, c4⟩ := c
        have hl := x.len
        rw [List.length_map] at hl
        rw [hl, List.take_length] at c4
        exact q Dl acc H' (fresh_back e1 c1) (e1.trans c2) c3 c4)⟩
theorem eds_lcT (p : α → Bool) (F : α → PyData) (h : EvD tl σ H (.tuple (es.map enc))) (hz : es.length ≤ 40000) (hs : ∀ e ∈ es, Turn1 g tt te vs σ H enc p F e) : EvDs (tLc (iTup K tl) g tt te vs) σ H ((es.filter p).map F) := fun H0 e0 Q q =>
  h H0 e0 _ fun u H1 e1 hu => by
    obtain ⟨a, xs, rfl, ha, x⟩ := hu.tup
    exact ⟨a, rfl, ⟨xs, SqT.of ha⟩, fun Dl hD =>
    lc_tup (xs := xs) (Cd H1 p F es Dl) ⟨hD, Ex.new hD, [], upd_same, by rw [List.take_zero]; exact .nil⟩ (fun i H' _ c => SqT.of (c.2.1 _ _ ha)) (fun i v H' hv c => by
      obtain ⟨d, hd, y⟩ := x.to hv
      rw [List.getElem?_map] at hd
      obtain ⟨e, he, rfl⟩ := Option.map_eq_some_iff.mp hd
      exact hs e (List.mem_of_getElem? he) v H' ((e0.trans e1).trans c.2.1) (y.mono c.2.1) _ fun σ2 H3 e3 hw ht hte => ⟨hw, cd_turn c he hz e3 ht hte⟩)
      (fun H' c => by
        obtain ⟨c1, c2, acc, c3, c4⟩ := c
        have hl := x.len
        rw [List.length_map] at hl
        rw [hl, List.take_length] at c4
        exact q Dl acc H' (fresh_back e1 c1) (e1.trans c2) c3 c4)⟩
theorem eds_lcR {ta : TA} {m : Nat} (p : Nat → Bool) (F : Nat → PyData) (h : EvA ta σ H [.int (m : Int)]) (hz : m ≤ 40000) (hs : ∀ i, i < m → Turn1 g tt te vs σ H (fun i : Nat => PyData.int (i : Int)) p F i) : EvDs (tLc (iRng1 ta) g tt te vs) σ H (((List.range m).filter p).map F) := fun H0 e0 Q q =>
  h H0 e0 _ fun H1 e1 => ⟨(m : Int), rfl, by omega, by omega, fun Dl hD =>
    lc_range (lo := 0) (n := (m : Int).toNat) (Cd H1 p F (List.range m) Dl) ⟨hD, Ex.new hD, [], upd_same, by rw [List.take_zero]; exact .nil⟩ (fun i H' hi c => by
      rw [show (0 : Int) + (i : Int) = (i : Int) from Int.zero_add _]
      have hm : i < m := by omega
      exact hs i hm (.int (i : Int)) H' ((e0.trans e1).trans c.2.1) (TDs.int _ .nil) _ fun σ2 H3 e3 hw ht hte => ⟨hw, cd_turn c (List.getElem?_range hm) (by rw [List.length_range]; exact hz) e3 ht hte⟩)
      (fun H' c => by
        obtain ⟨c1, c2, acc, c3, c4⟩ := c
        rw [Int.toNat_natCast, List.take_of_length_le (by rw [List.length_range]; exact Nat.le_refl _)] at c4
        exact q Dl acc H' (fresh_back e1 c1) (e1.trans c2) c3 c4)⟩
/-- the target a name -/
theorem turn_nm {j : Nat} {e : α} (hw : ∀ x, wipe ((wipe σ vs).set j (some x)) vs = wipe σ vs) (ht : ∀ v H1, Ex H H1 → TD1 H1 v (enc e) → EvT tt ((wipe σ vs).set j (some v)) H1 (p e)) (he : ∀ v H1, Ex H H1 → TD1 H1 v (enc e) → p e = true → EvD te ((wipe σ vs).set j (some v)) H1 (F e)) : Turn1 (gName j) tt te vs σ H enc p F e :=
  fun v H1 e1 x kk k => k _ H1 (Ex.refl _) (hw v) (ht v H1 e1 x) (he v H1 e1 x)
/-- the target two names -/
theorem turn_t2 {i1 i2 : Nat} {e : α} {d1 d2 : PyData} (henc : enc e = .tuple [d1, d2]) (hw : ∀ x y, wipe (((wipe σ vs).set i1 (some x)).set i2 (some y)) vs = wipe σ vs)
    (ht : ∀ u v H1, Ex H H1 → TD1 H1 u d1 → TD1 H1 v d2 → EvT tt (((wipe σ vs).set i1 (some u)).set i2 (some v)) H1 (p e)) (he : ∀ u v H1, Ex H H1 → TD1 H1 u d1 → TD1 H1 v d2 → p e = true → EvD te (((wipe σ vs).set i1 (some u)).set i2 (some v)) H1 (F e)) :
    Turn1 (gTup K 2 (gCons (gName i1) (gCons (gName i2) gNil))) tt te vs σ H enc p F e := fun v H1 e1 x kk k => by
  rw [henc] at x
  obtain ⟨a, xs, rfl, ha, y⟩ := x.tup
  obtain ⟨u1, ys, rfl, x1, y⟩ := y.inv
  obtain ⟨u2, zs, rfl, x2, y⟩ := y.inv
  cases y.inv0
  exact ⟨a, _, rfl, SqT.of ha, rfl, u1, _, rfl, u2, _, rfl, rfl, k _ H1 (Ex.refl _) (hw u1 u2) (ht u1 u2 H1 e1 x1 x2) (he u1 u2 H1 e1 x1 x2)⟩
theorem filt_all (es : List α) : es.filter (fun _ => true) = es := List.filter_eq_self.mpr fun _ _ => rfl
end
end Q
set_option Elab.async false
set_option linter.all false
set_option maxRecDepth 100000
set_option maxHeartbeats 2000000
/-! walks over what is told, comprehensions over them, of one clause and of two -/
namespace Q
open PySem L2 PySem.Spec PyProof.Rows PySem.Calls
open Evl
/-- a walk that gives what is told, from this heap on -/
structure DW (J : It) (H1 : Hp) (ds : List PyData) : Prop where
  ex : ∃ (G : Hp → Prop) (Y : Nat → Hp → V → Hp → Prop), Walk J ds.length G Y ∧ (∀ H', Ex H1 H' → G H') ∧ ∀ (i : Nat) x H H', i < ds.length → Ex H1 H → Y i H x H' → Ex H H' ∧ ∃ d, ds[i]? = some d ∧ TD1 H' x d
theorem dw_list {K : PySem.W.Frag} {H1 : Hp} {a : Addr} {xs : List V} {ds : List PyData} (ha : H1 a = some (.lst xs)) (x : TDs H1 xs ds) : DW (Itl K a) H1 ds := by
  refine ⟨_, _, x.len ▸ walk_list (K := K) (a := a) (xs := xs), fun H' e => SqL.of (e _ _ ha), fun i v H H' hi e y => ?_⟩
  obtain ⟨rfl, hv⟩ := y
  obtain ⟨d, hd, t⟩ := x.to hv
  exact ⟨Ex.refl _, d, hd, t.mono e⟩
theorem dw_tup {K : PySem.W.Frag} {H1 : Hp} {a : Addr} {xs : List V} {ds : List PyData} (ha : H1 a = some (.tup xs)) (x : TDs H1 xs ds) : DW (Itt K a) H1 ds := by
  refine ⟨_, _, x.len ▸ walk_tup (K := K) (a := a) (xs := xs), fun H' e => SqT.of (e _ _ ha), fun i v H H' hi e y => ?_⟩
  obtain ⟨rfl, hv⟩ := y
  obtain ⟨d, hd, t⟩ := x.to hv
  exact ⟨Ex.refl _, d, hd, t.mono e⟩
/-- each with its index -/
def numD (ds : List PyData) : List PyData := (List.range ds.length).map fun (i : Nat) => PyData.tuple [.int (i : Int), ds.getD i .none]
theorem numD_len (ds : List PyData) : (numD ds).length = ds.length := by
  unfold numD
  rw [List.length_map, List.length_range]
theorem numD_at {ds : List PyData} {i : Nat} {d : PyData} (h : ds[i]? = some d) : (numD ds)[i]? = some (.tuple [.int (i : Int), d]) := by
  have hlt := (List.getElem?_eq_some_iff.mp h).1
  unfold numD
  rw [List.getElem?_map, List.getElem?_range hlt]
  show some (PyData.tuple [PyData.int (i : Int), ds.getD i PyData.none]) = _
  rw [List.getD_eq_getElem?_getD, h]
  rfl
theorem pair_td {H H' : Hp} {v x y : V} {T : Addr} {d e : PyData} (hn : H T = none) (he : H' = upd H T (.tup [x, y])) (hx : TD1 H x d) (hy : TD1 H y e) : Ex H H' ∧ TD1 H' (.ref T) (.tuple [d, e]) := by
  subst he
  exact ⟨Ex.new hn, TD1.mk upd_same ((TDs.cons hx (TDs.cons hy .nil)).mono (Ex.new hn))⟩
theorem dw_enum {K : PySem.W.Frag} {H1 : Hp} {a : Addr} {xs : List V} {ds : List PyData} (ha : H1 a = some (.lst xs)) (x : TDs H1 xs ds) : DW (Ite K a) H1 (numD ds) := by
  refine ⟨_, _, (by rw [numD_len]; exact x.len ▸ walk_enum (K := K) (a := a) (xs := xs)), fun H' e => SqL.of (e _ _ ha), fun i v H H' hi e y => ?_⟩
  obtain ⟨T, u, z, rfl, hT, hH, hu, hz⟩ := y
  cases hu
  obtain ⟨d, hd, t⟩ := x.to hz
  obtain ⟨e2, t2⟩ := pair_td (v := .ref T) hT hH (TDs.int (i : Int) .nil) (t.mono e)
  exact ⟨e2, _, numD_at hd, t2⟩
theorem dw_zip {K : PySem.W.Frag} {H1 : Hp} {a b : Addr} {xs ys : List V} {α : Type} {f g : α → PyData} {es : List α} (ha : H1 a = some (.lst xs)) (hb : H1 b = some (.lst ys)) (x : TDs H1 xs (es.map f)) (y : TDs H1 ys (es.map g)) : DW (Itz K a b) H1 (es.map fun e => .tuple [f e, g e]) := by
  have l1 := x.len
  have l2 := y.len
  rw [List.length_map] at l1 l2
  refine ⟨_, _, walk_zip (K := K) (a := a) (b := b) (xs := xs) (ys := ys) (by rw [List.length_map]; omega), fun H' e => ⟨SqL.of (e _ _ ha), SqL.of (e _ _ hb)⟩, fun i v H H' hi e q => ?_⟩
  obtain ⟨T, u, z, rfl, hT, hH, hu, hz⟩ := q
  obtain ⟨d, hd, t⟩ := x.to hu
  obtain ⟨c, hc, s⟩ := y.to hz
  rw [List.getElem?_map] at hd hc
  obtain ⟨α1, he, rfl⟩ := Option.map_eq_some_iff.mp hd
  rw [he] at hc
  cases hc
  obtain ⟨e2, t2⟩ := pair_td (v := .ref T) hT hH (t.mono e) (s.mono e)
  exact ⟨e2, _, by rw [List.getElem?_map, he]; rfl, t2⟩
/-- something walked that gives what is told -/
def EvI (wi : L2.TI) (σ : L2.St) (H : Hp) (ds : List PyData) : Prop := ∀ H1, Ex H H1 → ∀ R : It → Hp → Prop, (∀ J H2, Ex H1 H2 → DW J H2 ds → R J H2) → wi σ H1 R
section
variable {K : PySem.W.Frag} {σ : L2.St} {H H' : Hp} {ta : TA} {te tl tb : TE} {ds : List PyData} {wi wi1 : L2.TI}
theorem EvI.mono (e : Ex H H') (h : EvI wi σ H ds) : EvI wi σ H' ds := fun H1 a R q => h H1 (e.trans a) R q
theorem ei_list (h : EvLd tl σ H ds) : EvI (iList K tl) σ H ds := fun H1 e R q => h H1 e _ fun a xs H2 e2 ha x => ⟨a, rfl, ⟨xs, SqL.of ha⟩, q _ H2 e2 (dw_list ha x)⟩
theorem ei_tup (h : EvD tl σ H (.tuple ds)) : EvI (iTup K tl) σ H ds := fun H1 e R q => h H1 e _ fun v H2 e2 hv => by
  obtain ⟨a, xs, rfl, ha, x⟩ := hv.tup
  exact ⟨a, rfl, ⟨xs, SqT.of ha⟩, q _ H2 e2 (dw_tup ha x)⟩
theorem ei_enum (h : EvLd tl σ H ds) : EvI (iEnum K (tCons tl tNil)) σ H (numD ds) := fun H1 e R q => h H1 e _ fun a xs H2 e2 ha x => ⟨a, xs, rfl, SqL.of ha, q _ H2 e2 (dw_enum ha x)⟩
theorem ei_zip {α : Type} {f g : α → PyData} {es : List α} (h1 : EvLd tl σ H (es.map f)) (h2 : EvLd tb σ H (es.map g)) : EvI (iZip K (tCons tl (tCons tb tNil))) σ H (es.map fun e => .tuple [f e, g e]) := fun H1 e R q =>
  h1 H1 e _ fun a xs H2 e2 ha x => h2 H2 (e.trans e2) _ fun b ys H3 e3 hb y => ⟨a, b, xs, ys, rfl, SqL.of (e3 _ _ ha), SqL.of hb, q _ H3 (e2.trans e3) (dw_zip (e3 _ _ ha) hb (x.mono e3) y)⟩
end
/-- the comprehension's list as it grows behind what stands there -/
def Cb {α : Type} (H : Hp) (b : List PyData) (p : α → Bool) (F : α → PyData) (es : List α) (Dl : Addr) (i : Nat) (H' : Hp) : Prop := H Dl = none ∧ Ex H H' ∧ ∃ acc : List V, H' Dl = some (.lst acc) ∧ TDs H' acc (b ++ ((es.take i).filter p).map F)
section
variable {α : Type} {enc : α → PyData} {es : List α} {p : α → Bool} {F : α → PyData} {b0 : List PyData}
variable {K : PySem.W.Frag} {σ : L2.St} {H : Hp} {te tl : TE} {tt : TT} {g : TG} {vs : List Nat} {wi : L2.TI}
theorem cb_turn {H1 H' H3 : Hp} {Dl : Addr} {i : Nat} {e : α} {σ2 : L2.St} (c : Cb H1 b0 p F es Dl i H') (hi : es[i]? = some e) (hz : b0.length + es.length ≤ 50000) (e3 : Ex H' H3) (ht : EvT tt σ2 H3 (p e)) (he : p e = true → EvD te σ2 H3 (F e)) :
    tt σ2 H3 fun b H4 => if b = true then te σ2 H4 fun y H5 => ∃ acc, H5 Dl = some (.lst acc) ∧ acc.length < sizeLine ∧ Cb H1 b0 p F es Dl (i + 1) (upd H5 Dl (.lst (acc ++ [y]))) else Cb H1 b0 p F es Dl (i + 1) H4 := by
  obtain ⟨c1, c2, acc, c3, c4⟩ := c
  have hlt := (List.getElem?_eq_some_iff.mp hi).1
  refine ht H3 (Ex.refl _) _ fun H4 e4 => ?_
  have e34 := e3.trans e4
  cases hp : p e with
  | true =>
    show te σ2 H4 fun y H5 => ∃ acc, H5 Dl = some (.lst acc) ∧ acc.length < sizeLine ∧ Cb H1 b0 p F es Dl (i + 1) (upd H5 Dl (.lst (acc ++ [y])))
    refine he hp H4 e4 _ fun y H5 e5 x => ⟨acc, (e34.trans e5) _ _ c3, sz_lt ?_, c1, Ex.mut (c2.trans (e34.trans e5)) c1, acc ++ [y], upd_same, ?_⟩
    · rw [c4.len, List.length_append, List.length_map]
      have := List.length_filter_le p (es.take i)
      rw [List.length_take] at this
      omega
    · rw [take_snoc hi, List.filter_append, List.map_append]
      have hf : [e].filter p = [e] := by rw [List.filter_cons, if_pos hp]; rfl
      rw [hf, ← List.append_assoc]
      exact ((c4.mono (e34.trans e5)).app x).by (upd_tup ((e34.trans e5) _ _ c3))
  | false =>
    show Cb H1 b0 p F es Dl (i + 1) H4
    refine ⟨c1, c2.trans e34, acc, e34 _ _ c3, ?_⟩
    rw [take_snoc hi, List.filter_append, List.map_append]
    have hf : [e].filter p = [] := by rw [List.filter_cons, if_neg (by rw [hp]; decide)]; rfl
    rw [hf, List.map_nil, List.append_nil]
    exact c4.mono e34
theorem eds_it (p : α → Bool) (F : α → PyData) (h : EvI wi σ H (es.map enc)) (hz : es.length ≤ 40000) (hs : ∀ e ∈ es, Turn1 g tt te vs σ H enc p F e) : EvDs (tLc wi g tt te vs) σ H ((es.filter p).map F) := fun H0 e0 Q q =>
  h H0 e0 _ fun J H1 e1 dw Dl hD => by
    obtain ⟨G, Y, w, hG, hY⟩ := dw.ex
    rw [List.length_map] at w hY
    refine lc_it w (Cb H1 [] p F es Dl) ⟨hD, Ex.new hD, [], upd_same, by rw [List.take_zero]; exact .nil⟩ (fun i H' _ c => hG H' c.2.1) (fun i x H2 H3 hi c y => ?_) fun H' c => ?_
    · obtain ⟨e3, d, hd, t⟩ := hY i x H2 H3 hi c.2.1 y
      rw [List.getElem?_map] at hd
      obtain ⟨e, he, rfl⟩ := Option.map_eq_some_iff.mp hd
      exact hs e (List.mem_of_getElem? he) x H3 ((e0.trans e1).trans (c.2.1.trans e3)) t _ fun σ2 H4 e4 hw ht hte => ⟨hw, cb_turn c he (by show 0 + es.length ≤ 50000; omega) (e3.trans e4) ht hte⟩
    · obtain ⟨c1, c2, acc, c3, c4⟩ := c
      rw [List.take_length] at c4
      exact q Dl acc H' (fresh_back e1 c1) (e1.trans c2) c3 c4
/-- as it was but for the list at D -/
def Mx (D : Addr) (H H' : Hp) : Prop := ∀ l o, l ≠ D → H l = some o → H' l = some o
def TKp (H H' : Hp) : Prop := ∀ a xs, H a = some (.tup xs) → H' a = some (.tup xs)
theorem Mx.tk {D : Addr} {H H' : Hp} {xs : List V} (m : Mx D H H') (h : H D = some (.lst xs)) : TKp H H' := fun a ys ha => m a _ (fun z => by
  rw [z, h] at ha
  cases ha) ha
structure DWm (Dl : Addr) (J : It) (H1 : Hp) (ds : List PyData) : Prop where
  ex : ∃ (G : Hp → Prop) (Y : Nat → Hp → V → Hp → Prop), Walk J ds.length G Y ∧ (∀ H', Mx Dl H1 H' → G H') ∧ ∀ (i : Nat) x H H', i < ds.length → Mx Dl H1 H → Y i H x H' → Ex H H' ∧ ∃ d, ds[i]? = some d ∧ TD1 H' x d
theorem dwm_list {K : PySem.W.Frag} {H1 : Hp} {a Dl : Addr} {xs ys : List V} {ds : List PyData} (ha : H1 a = some (.lst xs)) (x : TDs H1 xs ds) (hD : H1 Dl = some (.lst ys)) (na : a ≠ Dl) : DWm Dl (Itl K a) H1 ds := by
  refine ⟨_, _, x.len ▸ walk_list (K := K) (a := a) (xs := xs), fun H' e => SqL.of (e _ _ na ha), fun i v H H' hi e y => ?_⟩
  obtain ⟨rfl, hv⟩ := y
  obtain ⟨d, hd, t⟩ := x.to hv
  exact ⟨Ex.refl _, d, hd, t.by (e.tk hD)⟩
theorem dwm_tup {K : PySem.W.Frag} {H1 : Hp} {a Dl : Addr} {xs ys : List V} {ds : List PyData} (ha : H1 a = some (.tup xs)) (x : TDs H1 xs ds) (hD : H1 Dl = some (.lst ys)) : DWm Dl (Itt K a) H1 ds := by
  refine ⟨_, _, x.len ▸ walk_tup (K := K) (a := a) (xs := xs), fun H' e => SqT.of (e.tk hD _ _ ha), fun i v H H' hi e y => ?_⟩
  obtain ⟨rfl, hv⟩ := y
  obtain ⟨d, hd, t⟩ := x.to hv
  exact ⟨Ex.refl _, d, hd, t.by (e.tk hD)⟩
/-- something walked within a comprehension's turn -/
def EvIm (wi : L2.TI) (σ : L2.St) (H : Hp) (ds : List PyData) : Prop := ∀ H1, Ex H H1 → ∀ Dl, (∃ xs, H1 Dl = some (.lst xs)) → ∀ R : It → Hp → Prop, (∀ J H2, Ex H1 H2 → DWm Dl J H2 ds → R J H2) → wi σ H1 R
theorem em_new {K : PySem.W.Frag} {σ : L2.St} {H : Hp} {tl : TE} {ds : List PyData} (h : EvDs tl σ H ds) : EvIm (iList K tl) σ H ds := fun H1 e Dl ⟨ys, hD⟩ R q => h H1 e _ fun a xs H2 hn e2 ha x => ⟨a, rfl, ⟨xs, SqL.of ha⟩, q _ H2 e2 (dwm_list ha x (e2 _ _ hD) fun z => by
  rw [z, hD] at hn
  cases hn)⟩
theorem em_tup {K : PySem.W.Frag} {σ : L2.St} {H : Hp} {tl : TE} {ds : List PyData} (h : EvD tl σ H (.tuple ds)) : EvIm (iTup K tl) σ H ds := fun H1 e Dl ⟨ys, hD⟩ R q => h H1 e _ fun v H2 e2 hv => by
  obtain ⟨a, xs, rfl, ha, x⟩ := hv.tup
  exact ⟨a, rfl, ⟨xs, SqT.of ha⟩, q _ H2 e2 (dwm_tup ha x (e2 _ _ hD))⟩
/-- the outer turn of two clauses: the target, then the inner walk with its own turns -/
def Turn2 {β : Type} (g : TG) (wi1 : L2.TI) (g1 : TG) (tt1 : TT) (te : TE) (vs vs1 : List Nat) (σ : L2.St) (H : Hp) (enc : α → PyData) (enc1 : β → PyData) (sub : α → List β) (p1 : α → β → Bool) (F1 : α → β → PyData) (e : α) : Prop := ∀ v H1, Ex H H1 → TD1 H1 v (enc e) → ∀ kk : L2.St → Hp → Prop,
  (∀ σ2 H2, Ex H1 H2 → wipe σ2 vs = wipe σ vs → EvIm wi1 σ2 H2 ((sub e).map enc1) → (∀ f ∈ sub e, ∀ H3, TKp H2 H3 → Turn1 g1 tt1 te vs1 σ2 H3 enc1 (p1 e) (F1 e) f) → kk σ2 H2) → g v (wipe σ vs) H1 kk
theorem flat_len {β : Type} (R : α → List β) {c : Nat} : ∀ {l : List α}, (∀ e ∈ l, (R e).length ≤ c) → (l.flatMap R).length ≤ l.length * c
  | [], _ => by simp
  | e :: l, h => by
    rw [List.flatMap_cons, List.length_append, List.length_cons, Nat.add_mul, Nat.one_mul]
    have h1 := flat_len R (l := l) fun x hx => h x (List.mem_cons_of_mem _ hx)
    have h2 := h e List.mem_cons_self
    omega
theorem Mx.upd {D : Addr} {H H' : Hp} {o : HO} (m : Mx D H H') : Mx D H (upd H' D o) := fun l u n q => by
  rw [upd_ne n]
  exact m l u n q
/-- what has been put in by the outer turns -/
def Co (H : Hp) (R : α → List PyData) (es : List α) (Dl : Addr) (i : Nat) (H' : Hp) : Prop := H Dl = none ∧ Ex H H' ∧ ∃ acc : List V, H' Dl = some (.lst acc) ∧ TDs H' acc ((es.take i).flatMap R)
/-- .. within a turn -/
def Ci {β : Type} (H H5 : Hp) (b0 : List PyData) (p : β → Bool) (F : β → PyData) (es : List β) (Dl : Addr) (i : Nat) (H' : Hp) : Prop := Cb H b0 p F es Dl i H' ∧ Mx Dl H5 H'
theorem ci_turn {β : Type} {b0 : List PyData} {p : β → Bool} {F : β → PyData} {es : List β} {H1 H5 H' H3 : Hp} {Dl : Addr} {i : Nat} {e : β} {σ2 : L2.St} (c : Ci H1 H5 b0 p F es Dl i H') (hi : es[i]? = some e) (hz : b0.length + es.length ≤ 50000) (e3 : Ex H' H3) (ht : EvT tt σ2 H3 (p e)) (he : p e = true → EvD te σ2 H3 (F e)) :
    tt σ2 H3 fun b H4 => if b = true then te σ2 H4 fun y H6 => ∃ acc, H6 Dl = some (.lst acc) ∧ acc.length < sizeLine ∧ Ci H1 H5 b0 p F es Dl (i + 1) (upd H6 Dl (.lst (acc ++ [y]))) else Ci H1 H5 b0 p F es Dl (i + 1) H4 := by
  obtain ⟨⟨c1, c2, acc, c3, c4⟩, c5⟩ := c
  have hlt := (List.getElem?_eq_some_iff.mp hi).1
  refine ht H3 (Ex.refl _) _ fun H4 e4 => ?_
  have e34 := e3.trans e4
  cases hp : p e with
  | true =>
    show te σ2 H4 fun y H6 => ∃ acc, H6 Dl = some (.lst acc) ∧ acc.length < sizeLine ∧ Ci H1 H5 b0 p F es Dl (i + 1) (upd H6 Dl (.lst (acc ++ [y])))
    refine he hp H4 e4 _ fun y H6 e6 x => ⟨acc, (e34.trans e6) _ _ c3, sz_lt ?_, ⟨c1, Ex.mut (c2.trans (e34.trans e6)) c1, acc ++ [y], upd_same, ?_⟩, Mx.upd fun l o n q => (e34.trans e6) _ _ (c5 l o n q)⟩
    · rw [c4.len, List.length_append, List.length_map]
      have := List.length_filter_le p (es.take i)
      rw [List.length_take] at this
      omega
    · rw [take_snoc hi, List.filter_append, List.map_append]
      have hf : [e].filter p = [e] := by rw [List.filter_cons, if_pos hp]; rfl
      rw [hf, ← List.append_assoc]
      exact ((c4.mono (e34.trans e6)).app x).by (upd_tup ((e34.trans e6) _ _ c3))
  | false =>
    show Ci H1 H5 b0 p F es Dl (i + 1) H4
    refine ⟨⟨c1, c2.trans e34, acc, e34 _ _ c3, ?_⟩, fun l o n q => e34 _ _ (c5 l o n q)⟩
    rw [take_snoc hi, List.filter_append, List.map_append]
    have hf : [e].filter p = [] := by rw [List.filter_cons, if_neg (by rw [hp]; decide)]; rfl
    rw [hf, List.map_nil, List.append_nil]
    exact c4.mono e34
theorem eds_it2 {β : Type} {enc1 : β → PyData} {wi1 : L2.TI} {g1 : TG} {tt1 : TT} {vs1 : List Nat} {sub : α → List β} {p1 : α → β → Bool} {F1 : α → β → PyData} (h : EvI wi σ H (es.map enc)) (hz : es.length ≤ 300) (hz1 : ∀ e ∈ es, (sub e).length ≤ 100)
    (hs : ∀ e ∈ es, Turn2 g wi1 g1 tt1 te vs vs1 σ H enc enc1 sub p1 F1 e) : EvDs (tLc2 wi g tYes wi1 g1 tt1 te vs vs1) σ H (es.flatMap fun e => ((sub e).filter (p1 e)).map (F1 e)) := fun H0 e0 Q q =>
  h H0 e0 _ fun J H1 e1 dw Dl hD => by
    obtain ⟨G, Y, w, hG, hY⟩ := dw.ex
    rw [List.length_map] at w hY
    have hR : ∀ e ∈ es, (((sub e).filter (p1 e)).map (F1 e)).length ≤ 100 := fun e he => by
      rw [List.length_map]
      exact Nat.le_trans (List.length_filter_le _ _) (hz1 e he)
    refine ⟨fun i m H' => m = es.length - i ∧ i ≤ es.length ∧ Co H1 (fun e => ((sub e).filter (p1 e)).map (F1 e)) es Dl i H', ⟨es.length, by simp, Nat.zero_le _, hD, Ex.new hD, [], upd_same, by rw [List.take_zero]; exact .nil⟩, ?_⟩
    rintro i m H2 ⟨rfl, hi, c⟩
    obtain ⟨c1, c2, acc, c3, c4⟩ := c
    by_cases hlt : i < es.length
    · refine .inr ⟨w.goes i H2 hlt (hG H2 c2), Co H1 (fun e => ((sub e).filter (p1 e)).map (F1 e)) es Dl (i + 1), fun H' c' => ⟨es.length - (i + 1), by omega, rfl, hlt, c'⟩, fun x H3 y => ?_⟩
      obtain ⟨e3, d, hd, t⟩ := hY i x H2 H3 hlt c2 (w.yields i H2 x H3 hlt (hG H2 c2) y)
      rw [List.getElem?_map] at hd
      obtain ⟨e, he, rfl⟩ := Option.map_eq_some_iff.mp hd
      have hem := List.mem_of_getElem? he
      have b0 : ((es.take i).flatMap fun e => ((sub e).filter (p1 e)).map (F1 e)).length ≤ 30000 := by
        have z := flat_len (fun e => ((sub e).filter (p1 e)).map (F1 e)) (c := 100) (l := es.take i) fun a ha => hR a (List.mem_of_mem_take ha)
        rw [List.length_take] at z
        omega
      refine hs e hem x H3 ((e0.trans e1).trans (c2.trans e3)) t _ fun σ2 H4 e4 hw hi1 ht1 => ⟨hw, yes_ite ?_⟩
      have e24 := e3.trans e4
      refine hi1 H4 (Ex.refl _) Dl ⟨acc, e24 _ _ c3⟩ _ fun J1 H5 e5 dw1 => ?_
      obtain ⟨G1, Y1, w1, hG1, hY1⟩ := dw1.ex
      rw [List.length_map] at w1 hY1
      have e25 := e24.trans e5
      have l1 := hz1 e hem
      refine ⟨fun j k H' => k = (sub e).length - j ∧ j ≤ (sub e).length ∧ Ci H1 H5 ((es.take i).flatMap fun e => ((sub e).filter (p1 e)).map (F1 e)) (p1 e) (F1 e) (sub e) Dl j H', ⟨(sub e).length, by simp, Nat.zero_le _, ⟨c1, c2.trans e25, acc, e25 _ _ c3, ?_⟩, fun l o _ q => q⟩, ?_⟩
      · rw [List.take_zero, List.filter_nil, List.map_nil, List.append_nil]
        exact c4.mono e25
      · rintro j k H6 ⟨rfl, hj, ci⟩
        by_cases hjl : j < (sub e).length
        · refine .inr ⟨w1.goes j H6 hjl (hG1 H6 ci.2), Ci H1 H5 _ (p1 e) (F1 e) (sub e) Dl (j + 1), fun H' c' => ⟨(sub e).length - (j + 1), by omega, rfl, hjl, c'⟩, fun x1 H7 y1 => ?_⟩
          obtain ⟨e7, d1, hd1, t1⟩ := hY1 j x1 H6 H7 hjl ci.2 (w1.yields j H6 x1 H7 hjl (hG1 H6 ci.2) y1)
          rw [List.getElem?_map] at hd1
          obtain ⟨f, hf, rfl⟩ := Option.map_eq_some_iff.mp hd1
          have tk : TKp H4 H7 := fun a xs ha => e7 _ _ (ci.2.tk (e25 _ _ c3) _ _ (e5 _ _ ha))
          exact ht1 f (List.mem_of_getElem? hf) H7 tk x1 H7 (Ex.refl _) t1 _ fun σ3 H8 e8 hw3 htt hte => ⟨hw3, ci_turn ci hf (by omega) (e7.trans e8) htt hte⟩
        · have ej : j = (sub e).length := by omega
          subst ej
          refine .inl ⟨w1.stops H6 (hG1 H6 ci.2), ?_⟩
          obtain ⟨⟨d1, d2, acc2, d3, d4⟩, _⟩ := ci
          rw [List.take_length] at d4
          refine ⟨d1, d2, acc2, d3, ?_⟩
          rw [take_snoc he, List.flatMap_append, List.flatMap_cons, List.flatMap_nil, List.append_nil]
          exact d4
    · have e : i = es.length := by omega
      subst e
      rw [List.take_length] at c4
      exact .inl ⟨w.stops H2 (hG H2 c2), q Dl acc H2 (fresh_back e1 c1) (e1.trans c2) c3 c4⟩
end
end Q
set_option Elab.async false
set_option linter.all false
set_option maxRecDepth 100000
set_option maxHeartbeats 4000000
/-! lambdas with one parameter that has a written default, handed to a def -/
namespace LamY
open PySem PySem.Spec PyProof.Rows L2 LamX
section
variable {X : Cx} {pins : List (Addr × Obj)} {σ : L2.St} {H : Hp} {s : Shared}
theorem frs_new (I : Inv X pins σ H s) {f : Addr} (hf : s.heap.objs.size ≤ f) : f ∉ frs X.stack := fun z => by
  rcases List.mem_cons.mp (I.stkSub _ z) with e | e
  · have l : X.env.locals < s.heap.objs.size := I.lt
    have e : f = X.env.locals := e
    rw [← e] at l
    exact absurd (Nat.lt_of_lt_of_le l hf) (Nat.lt_irrefl _)
  · exact I.nofs hf e
/-- the rest of the making: the code object is new, or in the table -/
theorem tail_make {T : List (Addr × Str)} {c P : Addr} {params : Arguments} {body : Expr} {scope : Scope} {pos : Pos} {dV : Value} {R : Value → Shared → Prop} {Q : Value → Shared → Prop} (I : Inv X pins σ H s) (TB : TabB X.base X.mg c P) (hcode : X.env.code = .ref c)
    (hm : (P, X.env.qual ++ "<lambda>") ∈ T) (hu : ∀ p ∈ T, p.1 = P → p.2 = X.env.qual ++ "<lambda>") (hT : Tabs T H) (hfree : ∀ y ∈ scope.names, y.2 = .free → ∃ c, X.env.cells.lookup y.1 = some c)
    (h : ∀ (f c' : Addr) (doc pm ctv : Value) (H1 : Hp) (s' : Shared), Inv X pins σ H1 s' → ExtN H H1 → Tabs T H1 → (∀ b o, b ≠ P → s.heap.get? b = some o → s'.heap.get? b = some o) → (∀ b, b < s.heap.objs.size → H b = none → H1 b = none) →
      s'.heap.get? f = some (PySem.W.kdv_obj "<lambda>" (X.env.qual ++ "<lambda>") params (.expr body) scope (cloFrom X.env.cells scope.names []) dV doc pm c' ctv) → H1 f = none → f ∉ frs X.stack → H1 c' = some (CodeO c' (X.env.qual ++ "<lambda>")) → Q (.ref f) s') :
    wpAny (model X.prog X.w) X.A (makeTail "<lambda>" (X.env.qual ++ "<lambda>") params (.expr body) scope X.env dV .none none pos pos.line) Q R s := by
  obtain ⟨ps, tabP, trip, named⟩ := hT _ hm
  have builtP : s.heap.BuiltinsAt X.mg P := TB.bm.keeps I.bk
  have objP : s.heap.get? P = some { cls := .none, data := .fields ps } := I.hok P _ tabP
  cases hc : codeAmong pos ps.toList with
  | none =>
    refine PySem.W.kdv_makeTail (mg := X.mg) (c := c) (P := P) (ps := ps) (closure_ok hfree) I.ok.glob (I.mod.glob.keeps I.bk) hcode (TB.code.keeps I.bk) objP trip hc TB.gP builtP fun c' ctv doc h' tk keep ge lt rec tab' => ?_
    obtain ⟨c2, oc, vs, t, ec, hoc, hd, hv⟩ := rec
    cases ec
    have szs : s.heap.objs.size ≤ h'.objs.size := Nat.le_trans ge (Nat.le_of_lt lt)
    have nC : H c' = none := I.hok.fresh ge
    have J := inv_table (t' := tk) (more := #[rawInt pos.line, rawInt pos.col, .ref c']) (h' := h'.push (PySem.W.kdv_obj "<lambda>" (X.env.qual ++ "<lambda>") params (.expr body) scope (cloFrom X.env.cells scope.names []) dV doc ((X.mg "__name__").getD .none) c' ctv)) I tabP
      (fun b o nb e => Heap.get?_push_of_some _ (keep b o nb e)) (Heap.get?_push_of_some _ tab') ge ⟨oc, vs, t, Heap.get?_push_of_some _ hoc, hd, hv⟩
    have nPc : P ≠ c' := ne_of_none tabP nC
    have ext : ExtN H (upd (upd H P (.tbl (ps ++ #[rawInt pos.line, rawInt pos.col, .ref c']))) c' (CodeO c' (X.env.qual ++ "<lambda>"))) := fun b o e n => by
      have nbP : b ≠ P := fun z => n ps (Option.some.inj (e.symm.trans (by rw [z]; exact tabP)))
      rw [upd_ne (ne_of_none e nC), upd_ne nbP]
      exact e
    have lst : (ps ++ #[rawInt pos.line, rawInt pos.col, .ref c']).toList = ps.toList ++ [rawInt pos.line, rawInt pos.col, .ref c'] := by simp
    refine h h'.objs.size c' doc ((X.mg "__name__").getD .none) ctv _ _ J ext (fun p hp => ?_) (fun b o nb e => Heap.get?_push_of_some _ (keep b o nb e)) (fun b hb n => ?_) (Heap.get?_push_size _ rfl) ?_ (frs_new I szs) upd_same
    · by_cases q : p.1 = P
      · rw [hu p hp q, q]
        refine ⟨_, by rw [upd_ne nPc, upd_same], by rw [lst]; exact PySem.TriplesOk_snoc _ _ _ _ trip, fun p' cv hcv => ?_⟩
        rw [lst] at hcv
        rcases among_app _ trip hcv with z | z
        · obtain ⟨c0, e1, e2⟩ := named p' cv z
          exact ⟨c0, e1, ext _ _ e2 codeO_ne⟩
        · exact ⟨c', z, upd_same⟩
      · obtain ⟨ps', a1, a2, a3⟩ := hT p hp
        refine ⟨ps', by rw [upd_ne (ne_of_none a1 nC), upd_ne q]; exact a1, a2, fun p' cv hcv => ?_⟩
        obtain ⟨c0, e1, e2⟩ := a3 p' cv hcv
        exact ⟨c0, e1, ext _ _ e2 codeO_ne⟩
    · have nb : b ≠ P := fun z => by
        rw [z, tabP] at n
        cases n
      rw [upd_ne (show b ≠ c' by omega), upd_ne nb]
      exact n
    · have n2 : h'.objs.size ≠ P := Nat.ne_of_gt (Nat.lt_of_lt_of_le (Heap.lt_size objP) szs)
      rw [upd_ne (Nat.ne_of_gt lt), upd_ne n2]
      exact I.hok.fresh szs
  | some cv =>
    obtain ⟨c', ecv, hco⟩ := named pos cv hc
    subst ecv
    refine PySem.W.kdv_makeTailHit (mg := X.mg) (c := c) (P := P) (ps := ps) (closure_ok hfree) I.ok.glob (I.mod.glob.keeps I.bk) hcode (TB.code.keeps I.bk) objP trip hc builtP fun ctv doc h' tk keep szs => ?_
    have J : Inv X pins σ H { s with heap := h'.push (PySem.W.kdv_obj "<lambda>" (X.env.qual ++ "<lambda>") params (.expr body) scope (cloFrom X.env.cells scope.names []) dV doc ((X.mg "__name__").getD .none) c' ctv), toks := tk } := I.kept fun b o e => Heap.get?_push_of_some _ (keep b o e)
    exact h h'.objs.size c' doc ((X.mg "__name__").getD .none) ctv H _ J (ExtN.refl H) hT (fun b o _ e => Heap.get?_push_of_some _ (keep b o e)) (fun _ _ n => n) (Heap.get?_push_size _ rfl) (I.hok.fresh szs) (frs_new I szs) hco
end
/-! the names: one parameter, captured names, globals -/
structure LamP (sc scope : Scope) (x : Str) : Prop where
  kind : scope.kind = .function
  co : scope.isCoroutine = false
  gen : scope.isGenerator = false
  nocell : ∀ y ∈ scope.names, y.2 ≠ .cell
  own : ∀ y ∈ scope.names, y.2 = .local → y.1 = x
  par : scope.names.lookup x = some .local
  free : ∀ y ∈ scope.names, y.2 = .free → sc.names.lookup y.1 = some .cell ∨ sc.names.lookup y.1 = some .free
def lamPB (sc scope : Scope) (x : Str) : Bool :=
  decide (scope.kind = .function) && !scope.isCoroutine && !scope.isGenerator && decide (scope.names.lookup x = some .local) && scope.names.all fun y => !decide (y.2 = .cell) && (!decide (y.2 = .local) || decide (y.1 = x)) && (!decide (y.2 = .free) || decide (sc.names.lookup y.1 = some .cell) || decide (sc.names.lookup y.1 = some .free))
theorem lamP_by {sc scope : Scope} {x : Str} (h : lamPB sc scope x = true) : LamP sc scope x := by
  unfold lamPB at h
  simp only [Bool.and_eq_true, Bool.or_eq_true, Bool.not_eq_true', decide_eq_true_eq, decide_eq_false_iff_not, List.all_eq_true] at h
  obtain ⟨⟨⟨⟨q1, q2⟩, q3⟩, q4⟩, q5⟩ := h
  refine ⟨q1, q2, q3, fun y hy => (q5 y hy).1.1, fun y hy e => ?_, q4, fun y hy e => ?_⟩
  · rcases (q5 y hy).1.2 with z | z
    · exact absurd e z
    · exact z
  · rcases (q5 y hy).2 with (z | z) | z
    · exact absurd e z
    · exact .inl z
    · exact .inr z
theorem LamP.has {X : Cx} {scope : Scope} {x : Str} (L : LamP X.env.scope scope x) (ok : X.Ok) : ∀ y ∈ scope.names, y.2 = .free → ∃ c, X.env.cells.lookup y.1 = some c := fun y hy e => by
  rcases L.free y hy e with k | k
  · exact ok.has _ (.inl k)
  · exact ok.has _ (.inr k)
section
variable {X : Cx} {pins : List (Addr × Obj)} {σ : L2.St} {H HZ : Hp} {s s1 : Shared}
theorem start_lam {A : Around} {outer : List Env} {E : XK} {scope : Scope} {x : Str} {v0 : Value} {f c' : Addr} {h₁ : Heap} {tk : Nat} (I : Inv X pins σ H s) (L : LamP X.env.scope scope x) (nx : x ∉ X.N) (e0 : Env0 X.prog X.w X.K X.mg X.base A outer s1 HZ) (hd : A.handled = none)
    (un : Un (frs X.stack) [] H HZ s.heap s1.heap) (hns : h₁.Ns s1.heap.objs.size fun y => ([(x, v0)] : List (Str × Value)).reverse.lookup y) (kp : ∀ b o, s1.heap.get? b = some o → h₁.get? b = some o) :
    Inv (lamCx X A outer s1 HZ E scope f c') [] σ HZ { s1 with heap := h₁, toks := tk } := by
  have captured := L.has I.ok
  have same : ∀ {y c}, (cloFrom X.env.cells scope.names []).lookup y = some c → X.env.cells.lookup y = some c := fun {y c} e => by
    rcases cloFrom_mem (PySem.mem_of_lookup e) with m | ⟨m1, m2⟩
    · cases m
    · obtain ⟨c1, k1⟩ := captured _ m1 rfl
      have k1 : X.env.cells.lookup y = some c1 := k1
      have k2 : c = c1 := by
        rw [m2, k1] <;> rfl
      rw [k2]
      exact k1
  have there : ∀ {y}, scope.names.lookup y = some .free → ∃ c, (cloFrom X.env.cells scope.names []).lookup y = some c := fun {y} hl =>
    mem_lookup (cloFrom_has (cells := X.env.cells) (acc := []) (show (y, NameKind.free) ∈ scope.names from PySem.mem_of_lookup hl))
  have cells : ∀ {c : Addr} {v : Option Value}, H c = none → s.heap.IsCell c v → h₁.IsCell c v := fun {c v} n ⟨o, ho, dt⟩ => by
    obtain ⟨sl, q⟩ := un.any ho n (by simp)
    exact ⟨_, kp _ _ q, dt⟩
  have noEx : ∀ b : Addr, b ∉ (lamCx X A outer s1 HZ E scope f c').ex := fun b z => absurd (show b ∈ ([] : List Addr) from z) (by simp)
  refine ⟨⟨e0.mod, L.kind, rfl, rfl, Nat.le_refl _, fun y z c a b => I.ok.inj y z c (same a) (same b), fun y hy => ?_, fun y c z _ => ?_, fun _ => hd, Around.frames_deeper e0.frames, .inr ⟨rfl, rfl⟩, fun b z => absurd z (noEx b), e0.bs, e0.bsz, fun b _ _ => noEx b,
      fun b z => absurd z (noEx b), e0.funs, e0.frf⟩,
    rfl, e0.bare, Un.kept kp, ⟨_, hns, fun i y v at_ is_ vis => ?_⟩, fun y c e => ?_, e0.hok.fresh (Nat.le_refl _), fun y c e => ?_, fun q hq => absurd (show q ∈ ([] : List (Addr × Obj)) ++ [] from hq) (by simp), e0.hok.kept kp, I.len⟩
  · have hy : scope.names.lookup y = some .cell ∨ scope.names.lookup y = some .free := hy
    rcases hy with k | k
    · exact absurd rfl (L.nocell _ (PySem.mem_of_lookup k))
    · exact there k
  · have z : false = true := z
    cases z
  · have vis : Vis scope y := vis
    have at_ : X.N[i]? = some y := at_
    rcases vis with k | k | k
    · have e := L.own _ (PySem.mem_of_lookup k) rfl
      have e : y = x := e
      rw [e] at at_
      exact absurd (List.mem_of_getElem? at_) nx
    · exact absurd rfl (L.nocell _ (PySem.mem_of_lookup k))
    · obtain ⟨m, hn, hl⟩ := I.loc
      have seen : Vis X.env.scope y := (L.free _ (PySem.mem_of_lookup k) rfl).elim (fun k => .inr (.inl k)) (fun k => .inr (.inr k))
      obtain ⟨w', r, q⟩ := hl i y v at_ is_ seen
      obtain ⟨c2, k2⟩ := there k
      refine ⟨w', r, .inr ⟨.inr k, c2, k2, ?_⟩⟩
      have c1 := same k2
      rcases q with ⟨k', _⟩ | ⟨_, c3, e', z⟩
      · have k' : X.env.scope.names.lookup y = some .local := k'
        rcases L.free _ (PySem.mem_of_lookup k) rfl with a | a <;> rw [show X.env.scope.names.lookup y = _ from a] at k' <;> cases k'
      · rw [c1] at e'
        cases e'
        exact cells (I.freeC y _ c1) z
  · obtain ⟨w', z⟩ := I.cell y c (same e)
    exact ⟨w', cells (I.freeC y c (same e)) z⟩
  · obtain ⟨v, o, ho, dt⟩ := I.cell y c (same e)
    exact un.free c o ho (I.freeC y c (same e)) (by simp)
/-- how its parameters are bound by a call with nothing -/
def BindsY (params : Arguments) (body : Expr) (scope : Scope) (x : Str) : Prop := ∀ (q : Str) (cl : List (Str × Addr)) (T0 : Addr) (doc pm cv ctv : Value), ∃ k, bindArgs (PySem.W.kdv_fn "<lambda>" q params (.expr body) scope cl (.ref T0) doc pm cv ctv) ⟨[], []⟩ = seqItems? (.ref T0) >>= k ∧ ∀ v : Value, k (some #[v]) = pure [(x, v)]
/-- a() in the def that got it -/
theorem act_lam {CXg : CXT} {Eg : XK} {Ng : List Str} {qg : Str} {sg : Scope} {g f c' T0 : Addr} {cdg doc pm ctv v0 : Value} {params : Arguments} {body : Expr} {scope : Scope} {k i : Nat} {a x : Str} {pn : List (Addr × Obj)} {xe : Value → Shared → Prop} {W : WX} {E : XK} {tb : TE} {p1 p2 : Pos}
    (I : Inv X pins σ H s) (L : LamP X.env.scope scope x) (nx : x ∉ X.N) (hf : s.heap.get? f = some (PySem.W.kdv_obj "<lambda>" (X.env.qual ++ "<lambda>") params (.expr body) scope (cloFrom X.env.cells scope.names []) (.ref T0) doc pm c' ctv)) (hfn : H f = none) (hfr : f ∉ frs X.stack)
    (ht : s.heap.get? T0 = some { cls := .type "tuple", data := .seq #[v0] }) (htn : H T0 = none) (htr : T0 ∉ frs X.stack) (hbind : BindsY params body scope x)
    (tk : Takes ((cxOf CXg X.prog X.w X.K X.mg X.base Ng qg sg g cdg X.A X.stack s H Eg).tr pn xe) W) (hW : ∀ cls d σ' H', E cls d H' → W cls d σ' H') (hr : Room (k + 1) (X.A.deeper (envOfC qg sg s.heap.objs.size g cdg)))
    (hbody : ∀ (A : Around) (outer : List Env) (s : Shared) (H : Hp), Room k (A.deeper (lamEnv X scope s.heap.objs.size f c')) → PE (lamCx X A outer s H E scope f c') body tb)
    (hN : Ng[i]? = some a) (hv : Vis sg a) (hd : (a == ("__debug__" : Str)) = false := by decide) (hcd : (a == ("__classdict__" : Str)) = false := by decide) :
    PE ((cxOf CXg X.prog X.w X.K X.mg X.base Ng qg sg g cdg X.A X.stack s H Eg).tr pn xe) (.Call (.Name a p1) [] [] p2)
      (fun σZ HZ Q => σZ[i]? = some (some (.ref f)) ∧ HZ c' = some (CodeO c' (X.env.qual ++ "<lambda>")) ∧ tb σ HZ Q) := by
  constructor
  intro pinsZ sZ σZ HZ Q IZ h
  obtain ⟨hs, hc, read⟩ := h
  refine wpAny_Call_Name_kw (thn ((pe_var (pos := p1) (i := i) hN hv hd hcd).run pinsZ sZ σZ HZ (fun v H1 => v = .ref f ∧ H1 = HZ) IZ ⟨.ref f, hs, rfl, rfl⟩) ?_)
  rintro u s1 ⟨v, H1, J, rv, ev, eH⟩
  subst ev
  rw [eH] at J
  obtain rfl : u = Value.ref f := rv
  have noEx : ∀ b : Addr, b ∉ ([] : List Addr) := fun b z => nomatch z
  have funAt : s1.heap.get? f = some (PySem.W.kdv_obj "<lambda>" (X.env.qual ++ "<lambda>") params (.expr body) scope (cloFrom X.env.cells scope.names []) (.ref T0) doc pm c' ctv) := J.base.keep f _ hf hfn hfr (noEx f)
  have tupAt : s1.heap.get? T0 = some { cls := .type "tuple", data := .seq #[v0] } := J.base.keep T0 _ ht htn htr (noEx T0)
  refine PySem.W.callWith_F0 ⟨_, _, _, _, funAt⟩ ?_
  have un : Un (frs X.stack) [] H HZ s.heap s1.heap := J.base
  obtain ⟨⟨oc, vs, t, hoc, hdc, hvc⟩, _, _⟩ := J.hok c' _ hc
  obtain ⟨kb, b1, b2⟩ := hbind (X.env.qual ++ "<lambda>") (cloFrom X.env.cells scope.names []) T0 doc pm (.ref c') ctv
  have bound : BindsTo s1 (PySem.W.kdv_fn "<lambda>" (X.env.qual ++ "<lambda>") params (.expr body) scope (cloFrom X.env.cells scope.names []) (.ref T0) doc pm (.ref c') ctv) ⟨[], []⟩ [(x, v0)] := BindsTo.of_defaults rfl tupAt rfl b1 (b2 v0)
  have rc : codeAny (model X.prog X.w) (X.A.deeper (envOfC qg sg s.heap.objs.size g cdg)) (.call (.ref f) ⟨[], []⟩) (CR (L2.CX X.prog X.w) (envOfC qg sg s.heap.objs.size g cdg :: X.stack) X.prog X.w HZ s1 Q E) s1 := by
    refine PySem.W.kla_callFunE hr.depth funAt rfl L.co L.gen rfl ⟨c', oc, vs, t, rfl, hoc, hdc, hvc⟩ (bound _ _ _ _ ?_)
    refine wpAny_newFunctionEnv (fun y hy => L.nocell y hy) (fun y hy => ?_) (fun h₁ hns hsb => ⟨J.nolimit.fresh _ hsb, ?_⟩) L.kind
    · rw [List.mem_singleton.mp hy]
      exact L.par
    show codeAny _ _ (.expr body (lamEnv X scope s1.heap.objs.size f c')) _ _
    have kp : ∀ b o, s1.heap.get? b = some o → h₁.get? b = some o := fun b o e => hsb.extBut b o (Nat.ne_of_lt (Heap.lt_size e)) (Heap.get?_push_of_some _ e)
    have JL : Inv (lamCx X (X.A.deeper (envOfC qg sg s.heap.objs.size g cdg)) (envOfC qg sg s.heap.objs.size g cdg :: X.stack) s1 HZ E scope f c') [] σ HZ { s1 with heap := h₁, toks := s1.toks + ([(x, v0)] : List (Str × Value)).length } :=
      start_lam I L nx J.env0 hr.hd un hns kp
    refine PySem.W.kla_codeExpr (wpAny_mono ((hbody _ _ s1 HZ (hr.deeper _)).run [] _ _ HZ Q JL read) (fun v s' hq => ?_) fun e s' hq => hq)
    obtain ⟨w', H', J', rv, q⟩ := hq
    exact ⟨w', H', J'.os, J'.bare, J'.base, J'.hok, rv, q⟩
  have hx : Passes (L2.CX X.prog X.w) ((cxOf CXg X.prog X.w X.K X.mg X.base Ng qg sg g cdg X.A X.stack s H Eg).tr pn xe) E := passes_call tk hW
  refine wpAny_call (codeAny_mono rc ?_)
  rintro (er | fl) s' hq
  · exact hx pinsZ σZ HZ s1 er s' J hq
  · cases fl with
    | ret u => exact J.after hq
    | next => exact False.elim hq
    | brk => exact False.elim hq
    | cont => exact False.elim hq
end
section
variable {X : Cx}
/-- g(lambda x=i: body) -/
theorem pe_lamD {T : List (Addr × Str)} {TT : (XK → Hp → VK → Prop) → Hp → VK → Prop} {x a y : Str} {g c P : Addr} {k kk : Nat} {n : Int} {pg : Arguments} {bg : List Stmt} {sg : Scope} {dV kV doc pm cdv ct oc : Value} {an od : Option Addr} {osl : Array (Option Value)} {Ng : List Str}
    {params : Arguments} {body : Expr} {scope : Scope} {t : XK → TE} {p lpos pos dp : Pos} (hg : Gl X x) (hm : X.mg x = some (.ref g)) (hk : PySem.W.keepIn X.K (.ref g) = true)
    (lk : X.K.lookup g = some ⟨oc, od, .func (PySem.W.fnOf x x pg bg sg dV kV doc pm an cdv ct), osl⟩) (hcg : PySem.W.codeIn X.K cdv x = true) (hb : L2.Binds X.K (PySem.W.fnOf x x pg bg sg dV kV doc pm an cdv ct) [a] []) (Sg : FnScope Ng [a] sg) (hNg : Ng[0]? = some a) (hva : Vis sg a)
    (hG : GivesTo X Ng x sg g cdv bg a (X.env.qual ++ "<lambda>") TT)
    (TB : TabB X.base X.mg c P) (hcode : X.env.code = .ref c) (hmT : (P, X.env.qual ++ "<lambda>") ∈ T) (hu : ∀ p ∈ T, p.1 = P → p.2 = X.env.qual ++ "<lambda>") (hr : Room (k + 2) X.A) (L : LamP X.env.scope scope y) (nx : y ∉ X.N)
    (hds : params.defaults = [.Constant (.int n) kk dp]) (hk0 : params.kw_defaults = []) (hbind : BindsY params body scope y)
    (hbody : ∀ (A : Around) (outer : List Env) (s : Shared) (H : Hp) (E : XK) (f c' : Addr), Room k (A.deeper (lamEnv X scope s.heap.objs.size f c')) → PE (lamCx X A outer s H E scope f c') body (t E))
    (hdb : (x == ("__debug__" : Str)) = false := by decide) (hd : (a == ("__debug__" : Str)) = false := by decide) (hcd : (a == ("__classdict__" : Str)) = false := by decide) :
    PE X (.Call (.Name x p) [.Lambda params body scope lpos] [] pos) (tLam T TT t) := by
  constructor
  intro pins s σ H Q I h
  obtain ⟨hT, h⟩ := h
  refine wpAny_Call_Name_kw (ld_glob I hg hm ?_ hdb)
  refine PySem.W.callWith_K (h₀ := X.base) I.ok.mod.kin hk ?_ (by rfl) (by rfl)
  show wpAny _ _ (spliced ((false, eval (.Lambda params body scope lpos) X.env) :: backTo pos (starEach [] X.env))) _ _ s
  refine Calls.spliced_cons (PySem.W.kdv_lam (by rw [hds]; rfl) hk0 ?_)
  rw [hds]
  refine PySem.W.kdv_all1 (thn ((pe_int (X := X)).run pins s σ H (fun v H1 => v = .int n ∧ H1 = H) I ⟨rfl, rfl⟩) ?_)
  rintro v0 s1 ⟨xv, H1, I1, rx, e1, e2⟩
  rw [e2] at I1
  refine PySem.W.kdv_all0 ?_
  rw [makeFunction_eq]
  simp only [List.zip_nil_right, List.filterMap_nil, List.isEmpty_nil, List.isEmpty_cons, if_true, pure_bind, Bool.false_eq_true, if_false]
  refine wpAny_bind (wpAny_newTextTuple ?_)
  have I2 : Inv X pins σ H { s1 with heap := s1.heap.push { cls := .type "tuple", data := .seq #[v0] } } := I1.kept fun b o e => Heap.get?_push_of_some _ e
  have tupAt : (s1.heap.push { cls := .type "tuple", data := .seq #[v0] }).get? s1.heap.objs.size = some { cls := .type "tuple", data := .seq #[v0] } := Heap.get?_push_size _ rfl
  have noT : H s1.heap.objs.size = none := I1.hok.fresh (Nat.le_refl _)
  have frT : s1.heap.objs.size ∉ frs X.stack := frs_new I1 (Nat.le_refl _)
  refine tail_make I2 TB hcode hmT hu hT (L.has I.ok) fun f c' doc' pm' ctv H1 s' I3 eN T1 keep hold hf hfn hfr hco => ?_
  have neP : s1.heap.objs.size ≠ P := fun z => by
    obtain ⟨ps, hP, _⟩ := hT _ hmT
    have hP : H P = some (.tbl ps) := hP
    rw [← z, noT] at hP
    cases hP
  have tupAt' := keep _ _ neP tupAt
  have noT' := hold s1.heap.objs.size (by rw [Heap.size_push]; omega) noT
  refine Calls.spliced_nil ⟨I3.kIn, ?_⟩
  have rc : codeAny (model X.prog X.w) X.A (.call (.ref g) ⟨[.ref f], []⟩) (CR C8.CX0 X.stack X.prog X.w H1 s' Q C8.E0) s' := by
    refine run_ofS (N := Ng) (ps := [a]) (us := [.ref f]) (vs := [.ref f]) lk hcg Sg hr I3.env0 (hb s' [.ref f] I3.kIn rfl) (.cons rfl .nil) rfl fun hr' => ?_
    obtain ⟨t', ht', hq'⟩ := hG f c' s' H1 Q (fun E H' Q' => t E σ H' Q') (fun W pn xe E p1 p2 tk hW => act_lam (i := 0) I3 L nx hf hfn hfr tupAt' noT' frT hbind tk hW hr' (fun A outer s H hr2 => hbody A outer s H E f c' hr2) hNg hva hd hcd) hco (h H1 eN T1)
    exact ⟨t', ht'.nox, hq'⟩
  refine wpAny_call (codeAny_mono rc ?_)
  rintro (er | fl) s2 hq
  · exact (show False from hq).elim
  · cases fl with
    | ret u => exact I3.after hq
    | next => exact False.elim hq
    | brk => exact False.elim hq
    | cont => exact False.elim hq
end
end LamY
set_option Elab.async false
set_option linter.all false
set_option maxRecDepth 100000
set_option maxHeartbeats 4000000
/-! a try with clauses of several kinds -/
namespace L2
open PySem PySem.Spec PyProof.Rows
theorem flying_more {B h h' : Heap} {l : List Env} {a : Addr} {Z : Obj → Prop} (fl : HandSPX.FlyingZ B l a Z h) (k : ∀ b o, h.get? b = some o → h'.get? b = some o) : HandSPX.FlyingZ B l a Z h' := by
  obtain ⟨x1, x2, x3, oe, vs, T, oT, ts, y1, y2, y3, y4, y5, y6, y7, y8, y9⟩ := fl
  exact ⟨fun b o e => k b o (x1 b o e), x2, Heap.FunFrames.of_keeps (fun b o e _ => ⟨o, k b o e, rfl⟩) x3, oe, vs, T, oT, ts, k _ _ y1, y2, y3, y4, y5, y6, k _ _ y7, y8, y9⟩
theorem upTo_more {h h1 h2 : Heap} (u : h.UpToSlots h1) (k : ∀ b o, h1.get? b = some o → h2.get? b = some o) : h.UpToSlots h2 := fun b o e nd => by
  obtain ⟨sl, q⟩ := u b o e nd
  exact ⟨sl, k _ _ q⟩
/-- an error that has come to the try of X: sI is the state without it -/
structure Air (X : Cx) (pins : List (Addr × Obj)) (σ : St) (H : Hp) (cls : Value) (d : Option Addr) (a : Addr) (B : Heap) (sI s3 : Shared) : Prop where
  J : Inv X pins σ H sI
  nb : ∀ b o, sI.heap.get? b = some o → b ∉ frs X.stack → B.get? b = some o
  up : sI.heap.UpToSlots s3.heap
  fl : HandSPX.FlyingZ B (X.env :: X.outer) a (Zc cls d) s3.heap
  na : H a = none
  os : s3.os = sI.os
  ag : AllBare s3.gens
section
variable {X : Cx} {pins : List (Addr × Obj)} {σ : St} {H : Hp} {cls : Value} {d : Option Addr} {a : Addr} {B : Heap} {sI s3 : Shared}
theorem Air.inv (x : Air X pins σ H cls d a B sI s3) : Inv X pins σ H s3 := x.J.landed x.nb x.fl.1 x.up x.os x.ag
theorem Air.more (x : Air X pins σ H cls d a B sI s3) {h' : Heap} {tk : Nat} (k : ∀ b o, s3.heap.get? b = some o → h'.get? b = some o) : Air X pins σ H cls d a B sI { s3 with heap := h', toks := tk } :=
  ⟨x.J, x.nb, upTo_more x.up k, flying_more x.fl k, x.na, x.os, x.ag⟩
theorem Air.place (x : Air X pins σ H cls d a B sI s3) (hf : X.env.frame = some X.env.locals) : a ≠ X.env.locals ∧ a ∉ X.fs := by
  obtain ⟨oe, vs, he, _, hd⟩ := x.fl.there
  have nfr : a ∉ frs (X.env :: X.outer) := fun hm => by
    obtain ⟨_, o', e', hnf⟩ := x.fl.2.2.1.mem hm
    have q : oe = o' := Option.some.inj (he.symm.trans e')
    exact hnf vs (q ▸ hd)
  refine ⟨fun z => nfr ?_, fun hm => nfr ?_⟩
  · exact List.mem_filterMap.mpr ⟨X.env, List.mem_cons_self, by rw [hf, z]⟩
  · obtain ⟨e, he', q⟩ := List.mem_filterMap.mp hm
    exact List.mem_filterMap.mpr ⟨e, List.mem_cons_of_mem _ he', q⟩
theorem Air.suite (x : Air X pins σ H cls d a B sI s3) (hf : X.env.frame = some X.env.locals) : ∃ oe, s3.heap.get? a = some oe ∧ Zc cls d oe ∧ (∃ vs, oe.data = .fields vs) ∧ Inv (X.suite a ((a, oe) :: (X.pn ++ pins))) [] σ H s3 := by
  obtain ⟨oe, vs, he, hz, hd⟩ := x.fl.there
  obtain ⟨nL, nF⟩ := x.place hf
  exact ⟨oe, he, hz, ⟨vs, hd⟩, x.inv.suite he hd x.na nL nF⟩
theorem Air.again {A : Around} {E : Value → Shared → Prop} {Q : Unit → Shared → Prop} (x : Air X pins σ H cls d a B sI s3) (q : ∀ h4, Air X pins σ H cls d a B sI { s3 with heap := h4 } → Q () { s3 with heap := h4 }) :
    wpAny (model X.prog X.w) A (setFlight (.ref a) none) Q E s3 :=
  HandSPX.lands_againZ x.fl fun h4 fl4 up4 => q h4 ⟨x.J, x.nb, x.up.trans up4, fl4, x.na, x.os, x.ag⟩
/-- how the test of a clause comes out: for an error of the class cls it is b -/
structure TestOk (X : Cx) (t : Expr) (ex : Value → Bool → Prop) : Prop where
  run : ∀ (a : Addr) (oe : Obj) (pn : List (Addr × Obj)) (σ : St) (H : Hp) (s : Shared) (b : Bool) (Q : Value → Shared → Prop) (E : Value → Shared → Prop),
    Inv (X.suite a ((a, oe) :: pn)) [] σ H s → s.heap.get? a = some oe → ex oe.cls b →
    (∀ (h' : Heap) (c : Value), (∀ q o, s.heap.get? q = some o → h'.get? q = some o) → PySem.W.Looks (model X.prog X.w) h' (excMatches (.ref a) c) b → Q c { s with heap := h' }) →
    wpAny (model X.prog X.w) (X.A.mark (some (.ref a))) (eval t X.env) Q E s
theorem suite_name {x : Str} {c : Value} {np : Pos} {a : Addr} {oe : Obj} {pn : List (Addr × Obj)} {σ : St} {H : Hp} {s : Shared} {Q : Value → Shared → Prop} {E : Value → Shared → Prop} (hc : Names X x c) (I : Inv (X.suite a ((a, oe) :: pn)) [] σ H s) (q : Q c s) :
    wpAny (model X.prog X.w) (X.A.mark (some (.ref a))) (eval (.Name x np) X.env) Q E s := by
  obtain ⟨hg, hdbg, hm | ⟨hm, hv, hnn⟩⟩ := hc
  · exact ld_glob (X := X.suite a ((a, oe) :: pn)) I hg hm q hdbg
  · exact ld_blt (X := X.suite a ((a, oe) :: pn)) I hg hm hv q hnn hdbg
theorem looks_cls {h : Heap} {oe : Obj} (he : h.get? a = some oe) : PySem.W.Looks (model X.prog X.w) h (typeOf (.ref a)) oe.cls := fun A Q E s k q => wpAny_typeOf_ref (k _ _ he) q
theorem test_one {x : Str} {c : Value} {np : Pos} (hc : Names X x c) : TestOk X (.Name x np) (fun cls b => PySem.W.exmOne X.K cls c = some b) :=
  ⟨fun a oe pn σ H s b Q E I he ex q => suite_name hc I (q s.heap c (fun _ _ z => z) (PySem.W.exm_one I.kIn (looks_cls he) ex))⟩
/-- a clause as it is met; wh: what it wishes, by what the clauses behind it wish -/
def HdRun (X : Cx) (h : ExceptHandler) (wh : Ends → WX → WX) : Prop :=
  ∀ (pins : List (Addr × Obj)) (D : Ends) (a : Addr) (B : Heap) (sI s3 : Shared) (σ : St) (H : Hp) (cls : Value) (d : Option Addr) (rest : List ExceptHandler) (Wr : WX), Air X pins σ H cls d a B sI s3 →
    (∀ s4, Air X pins σ H cls d a B sI s4 → Wr cls d σ H → wpAny (model X.prog X.w) X.A (handleBy (.ref a) X.env rest) (SP X pins D) X.xe s4) → wh D Wr cls d σ H →
    wpAny (model X.prog X.w) X.A (handleBy (.ref a) X.env (h :: rest)) (SP X pins D) X.xe s3
inductive HdsRun (X : Cx) : List ExceptHandler → (Ends → WX → WX) → Prop
  | nil : HdsRun X [] (fun _ W => W)
  | cons {h : ExceptHandler} {hs : List ExceptHandler} {wh wr : Ends → WX → WX} (r : HdRun X h wh) (rs : HdsRun X hs wr) : HdsRun X (h :: hs) (fun D W => wh D (wr D W))
end
end L2
namespace L2
open PySem PySem.Spec PyProof.Rows
section
variable {X : Cx} {t : Expr} {ex : Value → Bool → Prop} {n : Str} {i : Nat} {suite body : List Stmt} {b₀ : Stmt} {pos pos' : Pos} {ts : Addr → Value → Option Addr → TS} {tb : WX → TS} {Wout : WX} {hds : List ExceptHandler} {wl : Ends → WX → WX}
def wTest (ex : Value → Bool → Prop) (ts : Addr → Value → Option Addr → TS) (D : Ends) (Wr : WX) : WX := fun cls d σ H => ∃ b, ex cls b ∧ (b = true → ∀ a, H a = none → ts a cls d D σ H) ∧ (b = false → Wr cls d σ H)
/-- except T: suite -/
theorem hd_only (hf : X.env.frame = some X.env.locals) (T : TestOk X t ex)
    (hsu : ∀ (a : Addr) (oe : Obj) (cls : Value) (d : Option Addr) (pn : List (Addr × Obj)), Zc cls d oe → (∃ vs, oe.data = .fields vs) → PSs (X.suite a ((a, oe) :: pn)) (b₀ :: suite) (ts a cls d)) :
    HdRun X (.ExceptHandler (some t) none (b₀ :: suite) pos') (wTest ex ts) := by
  intro pins D a B sI s3 σ H cls d rest Wr x hrest hw
  obtain ⟨b, hb, hyes, hno⟩ := hw
  obtain ⟨oe, he, hz, hd, S⟩ := x.suite hf
  refine PySem.W.exc_clause (T.run a oe (X.pn ++ pins) σ H s3 b _ _ S he (by rw [hz.1]; exact hb) fun h' c k L => ⟨b, L, ?_⟩)
  have x' := x.more (tk := s3.toks) k
  cases b with
  | false => exact hrest _ x' (hno rfl)
  | true =>
    refine x'.again fun h4 x4 => ?_
    obtain ⟨oe4, he4, hz4, hd4, S4⟩ := x4.suite hf
    refine wpAny_mono ((hsu a oe4 cls d (X.pn ++ pins) hz4 hd4).run [] _ _ H _ S4 (hyes rfl a x.na)) (fun f s6 hsp => ?_) (fun _ _ z => False.elim z)
    have ok := x.J.ok
    cases f with
    | next =>
      obtain ⟨σ6, H6, S6, q6⟩ := hsp
      exact ⟨σ6, H6, S6.unsuite ok, q6⟩
    | brk =>
      obtain ⟨σ6, H6, S6, q6⟩ := hsp
      exact ⟨σ6, H6, S6.unsuite ok, q6⟩
    | cont =>
      obtain ⟨σ6, H6, S6, q6⟩ := hsp
      exact ⟨σ6, H6, S6.unsuite ok, q6⟩
    | ret u =>
      obtain ⟨v6, σ6, H6, S6, r6, q6⟩ := hsp
      exact ⟨v6, σ6, H6, S6.unsuite ok, r6, q6⟩
def endsAs (i : Nat) (D : Ends) : Ends := { nx := fun σ' H' => D.nx (σ'.set i none) H', rt := D.rt, bk := fun σ' H' => D.bk (σ'.set i none) H', ct := fun σ' H' => D.ct (σ'.set i none) H' }
def wTestAs (ex : Value → Bool → Prop) (i : Nat) (ts : Addr → Value → Option Addr → TS) (D : Ends) (Wr : WX) : WX := fun cls d σ H =>
  ∃ b, ex cls b ∧ (b = true → ∀ a, H a = none → ts a cls d (endsAs i D) (σ.set i (some (.ref a))) H) ∧ (b = false → Wr cls d σ H)
/-- except T as n: suite -/
theorem hd_as (hf : X.env.frame = some X.env.locals) (hN : X.N.Nodup) (hi : X.N[i]? = some n) (hln : X.env.kindOf n = some .local) (T : TestOk X t ex)
    (hsu : ∀ (a : Addr) (oe : Obj) (cls : Value) (d : Option Addr) (pn : List (Addr × Obj)), Zc cls d oe → (∃ vs, oe.data = .fields vs) → PSs (X.suite a ((a, oe) :: pn)) (b₀ :: suite) (ts a cls d)) :
    HdRun X (.ExceptHandler (some t) (some n) (b₀ :: suite) pos') (wTestAs ex i ts) := by
  intro pins D a B sI s3 σ H cls d rest Wr x hrest hw
  obtain ⟨b, hb, hyes, hno⟩ := hw
  obtain ⟨oe, he, hz, hd, S⟩ := x.suite hf
  refine PySem.W.exc_clause_as (T.run a oe (X.pn ++ pins) σ H s3 b _ _ S he (by rw [hz.1]; exact hb) fun h' c k L => ⟨b, L, ?_⟩)
  have x' := x.more (tk := s3.toks) k
  cases b with
  | false => exact hrest _ x' (hno rfl)
  | true =>
    refine x'.again fun h4 x4 => ?_
    obtain ⟨oe4, he4, hz4, hd4, S4⟩ := x4.suite hf
    refine store_ok (X := X.suite a ((a, oe4) :: (X.pn ++ pins))) (v := .ref a) S4 hN hi (.inl hln) rfl (fun s5 S5 => ?_) (.inr hln)
    have ok := x.J.ok
    refine wpAny_mono ((hsu a oe4 cls d (X.pn ++ pins) hz4 hd4).run [] s5 _ H _ S5 (hyes rfl a x.na)) (fun f s6 hsp => ?_) (fun _ _ z => False.elim z)
    have leave : ∀ {σ6 : St} {H6 : Hp} {Q : Shared → Prop}, Inv (X.suite a ((a, oe4) :: (X.pn ++ pins))) [] σ6 H6 s6 → (∀ s7, Inv X pins (σ6.set i none) H6 s7 → Q s7) →
        wpAny (model X.prog X.w) X.A (do bindName X.env n .none; unbindBehindTheSuite X.env n pos') (fun _ s7 => Q s7) X.xe s6 := fun {σ6 H6 Q} S6 hq => gone_ok (S6.unsuite ok) hN hi hln hq
    cases f with
    | next =>
      obtain ⟨σ6, H6, S6, q6⟩ := hsp
      exact leave S6 fun s7 J7 => ⟨_, H6, J7, q6⟩
    | brk =>
      obtain ⟨σ6, H6, S6, q6⟩ := hsp
      exact leave S6 fun s7 J7 => ⟨_, H6, J7, q6⟩
    | cont =>
      obtain ⟨σ6, H6, S6, q6⟩ := hsp
      exact leave S6 fun s7 J7 => ⟨_, H6, J7, q6⟩
    | ret u =>
      obtain ⟨v6, σ6, H6, S6, r6, q6⟩ := hsp
      exact leave S6 fun s7 J7 => ⟨v6, _, H6, J7, r6, q6⟩
/-- no clause takes it: on it goes -/
theorem air_on {pins : List (Addr × Obj)} {σ : St} {H : Hp} {cls : Value} {d : Option Addr} {a : Addr} {B : Heap} {sI s3 : Shared} {D : Ends} (hs : X.stack = X.env :: X.outer) (hf : X.env.frame = some X.env.locals) (tk : Takes X Wout)
    (x : Air X pins σ H cls d a B sI s3) (w : Wout cls d σ H) : wpAny (model X.prog X.w) X.A (handleBy (.ref a) X.env []) (SP X pins D) X.xe s3 := by
  refine wpAny_handleBy_nil ?_
  obtain ⟨_, _, _, oe, vs, T, oT, ts', he, hz, hd, h1, _⟩ := id x.fl
  have last : wpAny (model X.prog X.w) X.A (setFlight (.ref a) X.env.frame) (fun _ s4 => wpAny (model X.prog X.w) X.A (throw (.ref a) : Sem Flow) (SP X pins D) X.xe s4) X.xe s3 := by
    rw [hf]
    refine HandSPX.setFlight_upZ x.fl fun h4 held up4 => wpAny_throw (tk _ _ ?_)
    exact ⟨a, B, sI, pins, σ, H, cls, d, rfl, x.J, x.nb, x.up.trans up4, .inr (.inr (by rw [hs]; exact held)), x.na, x.os, x.ag, w⟩
  unfold PySem.passOn
  refine wpAny_bind (wpAny_field he hd h1 ?_)
  rw [if_neg (show ¬ ((Value.ref T == Value.none) = true) by simp)]
  first
    | exact wpAny_bind (wpAny_pure (wpAny_bind last))
    | exact wpAny_bind last
theorem hds_meet (hs : X.stack = X.env :: X.outer) (hf : X.env.frame = some X.env.locals) (tk : Takes X Wout) (r : HdsRun X hds wl) :
    ∀ {pins : List (Addr × Obj)} {σ : St} {H : Hp} {cls : Value} {d : Option Addr} {a : Addr} {B : Heap} {sI s3 : Shared} {D : Ends}, Air X pins σ H cls d a B sI s3 → wl D Wout cls d σ H →
      wpAny (model X.prog X.w) X.A (handleBy (.ref a) X.env hds) (SP X pins D) X.xe s3 := by
  induction r with
  | nil => exact fun x w => air_on hs hf tk x w
  | cons h1 rs ih => exact fun x w => h1 _ _ _ _ _ _ _ _ _ _ _ _ x (fun s4 x4 w4 => ih x4 w4) w
/-- try: body, clauses of any kinds -/
theorem ps_try_any (hs : X.stack = X.env :: X.outer) (hf : X.env.frame = some X.env.locals) (tk : Takes X Wout)
    (hb : ∀ (W : WX) (pn : List (Addr × Obj)) (xe : Value → Shared → Prop), Takes (X.tr pn xe) W → PassesOwn (model X.prog X.w) X.A X.env xe → PSs (X.tr pn xe) body (tb W))
    {h₀ : ExceptHandler} (r : HdsRun X (h₀ :: hds) wl) : PS X (.Try body (h₀ :: hds) [] [] pos) (fun D σ H => tb (wl D Wout) D σ H) := by
  refine ⟨fun pins s σ H D I h => ?_⟩
  have ok := I.ok
  have hfr : X.A.frames = some (X.env :: X.outer) := ok.frames.trans (congrArg some hs)
  refine wpAny_Try_except ?_
  refine wpAny_mono ((hb (wl D Wout) (X.pn ++ pins) _ (fun u s' met => ?_) PassesOwn.looking).run [] s σ H D (I.toTry _) h) (fun f s1 hsp => ?_) (fun e s1 he => he)
  · obtain ⟨a, B, sI, pins', σ', H', cls, d, rfl, J', nb, up, sky, na, os, ag, w⟩ := met
    have J : Inv X pins σ' H' sI := J'.ofTry ok
    have sky' : Sky B (X.env :: X.outer) a (Zc cls d) X.env.locals s'.heap := hs ▸ sky
    show wpAny (model X.prog X.w) X.A (noteFrame (.ref a) X.env) _ _ _
    refine Sky.land Zc.steady hfr hf sky' fun h3 fl3 up3 => ?_
    exact hds_meet hs hf tk r (s3 := { s' with heap := h3 }) ⟨J, nb, up.trans up3, fl3, na, os, ag⟩ w
  · cases f with
    | next =>
      obtain ⟨σ', H', J', q⟩ := hsp
      exact wpAny_execs_nil ⟨σ', H', J'.ofTry ok, q⟩
    | brk =>
      obtain ⟨σ', H', J', q⟩ := hsp
      exact ⟨σ', H', J'.ofTry ok, q⟩
    | cont =>
      obtain ⟨σ', H', J', q⟩ := hsp
      exact ⟨σ', H', J'.ofTry ok, q⟩
    | ret u =>
      obtain ⟨v, σ', H', J', rv, q⟩ := hsp
      exact ⟨v, σ', H', J'.ofTry ok, rv, q⟩
end
end L2
set_option Elab.async false
set_option linter.all false
set_option maxRecDepth 100000
set_option maxHeartbeats 4000000
/-! own exceptions with an __init__ that keeps one or three values, over any built-in base -/
namespace PySem
namespace OwnX
open PySem.W PySem.Calls PyProof.Rows PySem.HandSPX Builtin Builtin.ObjectAttr
structure OwnTxt (K : Frag) (C fI : Addr) (bmB : List Value) (newId : String) : Prop where
  cls : ∃ nm q N bs bm sn sub ab col dd k0 k1 k2 k3 k5, K.lookup C = some (excClassObj nm q C N bs bm true sn sub ab col dd k0 k1 k2 k3 k5 newId) ∧ excTail bmB bm = true
  sa : findIn K (.ref C) "__setattr__" = some (some (.builtin "object.__setattr__"))
  ga : findIn K (.ref C) "__getattribute__" = some (some (.builtin "BaseException.__getattribute__"))
  gg : findIn K (.ref C) "__getattr__" = some none
  iC : findIn K (.ref C) "__init__" = some (some (.ref fI))
  tC : typeIn K (.ref fI) = some (.type "function")
  kC : keepIn K (.ref C) = true
  exC : subIn K (.ref C) (.type "BaseException") = some true
  tyC : typeIn K (.ref C) = some (.type "type")
  hdC : hasDictIn K C = true
section
variable {prog : Program} {w : World} {A : Around} {E : Value → Shared → Prop} {R : Result → Shared → Prop} {K : Frag} {C fI : Addr} {bmB : List Value} {newId : String}
theorem OwnTxt.over (T : OwnTxt K C fI bmB newId) : excOver K C bmB = true := by
  obtain ⟨nm, q, N, bs, bm, sn, sub, ab, col, dd, k0, k1, k2, k3, k5, hC, hbm⟩ := T.cls
  have e : clsIn K C = some { name := nm, bases := bs, mro := .ref C :: bm, ns := N, qualname := q, hasDict := true, slotNames := sn, subclasses := sub, abstract := ab, collection := col, hasDel := false } := by
    unfold clsIn
    rw [hC]
    all_goals rfl
  unfold excOver
  rw [e]
  show ((C == C) && excTail bmB bm) = true
  rw [hbm, beq_self_eq_true]
  rfl
theorem taker_none {name : Str} (ha : findIn K (.ref C) name = some none) : takerIn K C name = some none := by
  unfold takerIn
  rw [ha]
  rfl
variable {hp : Heap} {g : Array GenState} {d : Drawn} {t : Nat} {os : OsState} {B initId : String}
/-- the first value kept: the error's own dict is laid -/
theorem keep_first (SF : StoreFacts B bmB "object.__setattr__" "object") (T : OwnTxt K C fI bmB newId) {name : Str} {tk : Tok} {v : Value} {x : Addr} {fv : Array Value} (X : K.In hp)
    (hx : hp.get? x = some { cls := .ref C, data := .fields fv }) (ha : findIn K (.ref C) name = some none)
    (hq : ∀ h' tk' dx, (∀ b o, b ≠ x → hp.get? b = some o → h'.get? b = some o) → hp.objs.size ≤ dx → dx ≠ x → h'.get? x = some { cls := .ref C, dict := some dx, data := .fields fv } →
      h'.Ns1 dx (fun y => if y = name then some v else none) → R (.ok (.ret .none)) ⟨h', g, d, tk', os⟩) :
    codeAny (model prog w) A (.call (.builtin "object.__setattr__") ⟨[.ref x, .str name tk, v], []⟩) R ⟨hp, g, d, t, os⟩ := by
  obtain ⟨nm, q, N, bs, bm, sn, sub, ab, col, dd, k0, k1, k2, k3, k5, hC, hbm⟩ := T.cls
  have ec : clsIn K C = some { name := nm, bases := bs, mro := .ref C :: bm, ns := N, qualname := q, hasDict := true, slotNames := sn, subclasses := sub, abstract := ab, collection := col, hasDel := false } := by
    unfold clsIn
    rw [hC]
    all_goals rfl
  have hxs : x ≠ hp.objs.size := Nat.ne_of_lt (Heap.lt_size hx)
  refine osa_openX (od := none) SF X ⟨hx, rfl, rfl, trivial⟩ T.over (taker_none ha) fun b => ?_
  have LC := looks_clsIn (M := model prog w) X ec
  show wpAny _ _ (storeInOwnDict _ _ _ _ _ _) _ _ _
  unfold storeInOwnDict ownDictForStores
  repeat (first
    | with_reducible refine HandSPX.store_in_new ?_ ?_
    | with_reducible refine wpAny_loadPart_at hx ?_
    | with_reducible refine LC.at ?_
    | wp_step)
  · exact ⟨_, #[], _, (Heap.get?_update_ne _ _ _ _ (Ne.symm hxs)).trans (Heap.get?_push_at rfl rfl), rfl, fun e he => absurd he (by simp), fun _ => rfl⟩
  · intro h' tk' hn' hs
    have hy : (hp.push { cls := .type "dict", data := .dict #[] }).get? x = some { cls := .ref C, data := .fields fv } := Heap.get?_push_of_some _ hx
    refine hq h' tk' hp.objs.size (fun b o hb ho => ?_) (Nat.le_refl _) (Ne.symm hxs) ?_ hn'
    · exact (hs.2 b (Nat.ne_of_lt (Heap.lt_size ho))).trans ((Heap.get?_update_ne _ _ _ _ hb).trans (Heap.get?_push_of_some _ ho))
    · exact (hs.2 x hxs).trans (Heap.get?_update_self _ hy rfl)
/-- a further value -/
theorem keep_more (SF : StoreFacts B bmB "object.__setattr__" "object") (T : OwnTxt K C fI bmB newId) {name : Str} {tk : Tok} {v : Value} {x dx : Addr} {fv : Array Value} {m0 : Str → Option Value} {nl : List Str} (X : K.In hp)
    (hx : hp.get? x = some { cls := .ref C, dict := some dx, data := .fields fv }) (hns : hp.Ns1 dx m0) (hw : Within m0 nl) (hz : nl.length ≤ 1000) (ha : findIn K (.ref C) name = some none)
    (hq : ∀ h' tk', (∀ b o, b ≠ dx → hp.get? b = some o → h'.get? b = some o) → h'.Ns1 dx (fun y => if y = name then some v else m0 y) → R (.ok (.ret .none)) ⟨h', g, d, tk', os⟩) :
    codeAny (model prog w) A (.call (.builtin "object.__setattr__") ⟨[.ref x, .str name tk, v], []⟩) R ⟨hp, g, d, t, os⟩ := by
  obtain ⟨nm, q, N, bs, bm, sn, sub, ab, col, dd, k0, k1, k2, k3, k5, hC, hbm⟩ := T.cls
  have ec : clsIn K C = some { name := nm, bases := bs, mro := .ref C :: bm, ns := N, qualname := q, hasDict := true, slotNames := sn, subclasses := sub, abstract := ab, collection := col, hasDel := false } := by
    unfold clsIn
    rw [hC]
    all_goals rfl
  obtain ⟨oD, esD, epD, hoD, hdD, _⟩ := hns.count hw
  refine osa_openX (od := some oD) SF X ⟨hx, rfl, rfl, hoD⟩ T.over (taker_none ha) fun b => ?_
  have LC := looks_clsIn (M := model prog w) X ec
  show wpAny _ _ (storeInOwnDict _ _ _ _ _ _) _ _ _
  unfold storeInOwnDict ownDictForStores
  repeat (first
    | with_reducible refine OEX.store_in_old hns hw hz ?_
    | with_reducible refine wpAny_loadPart_at hx ?_
    | with_reducible refine LC.at ?_
    | wp_step)
  intro h' tk' hn' hs
  exact hq h' tk' (fun b o hb ho => (hs.2 b hb).trans ho) hn'
end
end OwnX
end PySem
set_option Elab.async false
set_option linter.all false
set_option maxRecDepth 100000
set_option maxHeartbeats 4000000
/-! the call of an own error class with an __init__ of its own, where only a base further up has a __new__ (KeyError has none) -/
namespace PySem
namespace OwnX
open PySem.W PySem.Calls PyProof.Rows PySem.HandSPX Builtin Builtin.ObjectAttr
/-- what the classes behind the own one say -/
structure Behind (B : String) (bm : List Value) : Prop where
  has : bm.contains (.type B) = true
  noA : bm.contains (.type "AttributeError") = false
  noN : bm.contains (.type "NameError") = false
section
variable {prog : Program} {w : World} {A : Around} {E : Value → Shared → Prop} {R : Result → Shared → Prop} {hp : Heap} {g : Array GenState} {d : Drawn} {t : Nat} {os : OsState}
variable {nm q : Str} {C N fI : Addr} {bs bm bmF rest : List Value} {hdct : Bool} {sn : List Str} {sub : List Value} {ab : Bool} {col : Option Bool} {dd : Option Addr} {k0 k1 k2 k3 k5 : Option Value} {B newId initId : String}
theorem mk_check {M : Model} {Q : Unit → Shared → Prop} (F : ExcBaseFacts B newId initId bmF) (b : Behind B bm)
    (hC : hp.get? C = some (excClassObj nm q C N bs bm hdct sn sub ab col dd k0 k1 k2 k3 k5 newId)) (done : Q () ⟨hp, g, d, t, os⟩) :
    wpAny M A (checkBuiltinCall newId ⟨.ref C :: rest, []⟩) Q E ⟨hp, g, d, t, os⟩ := by
  have inB : (Value.ref C :: bm).contains (.type B) = true := by
    rw [List.contains_cons, b.has]
    exact Bool.or_true _
  have star := F.noStar
  simp only [checkBuiltinCall, F.newKind,
    F.newSplit, F.newRow]
  repeat (first
    | refine wpAny_loadPart_at hC ?_
    | (refine wpAny_isSubtype_exc hC ?_
       rw [inB])
    | refine wpAny_staticBase_exc hC ?_
    | refine wpAny_madeBy_exc hC ?_
    | simp only [bne_self_eq_false, if_false,
        Bool.false_eq_true]
    | wp_step)
  exact done
theorem mk_new (F : ExcBaseFacts B newId initId bmF) (b : Behind B bm) (hC : hp.get? C = some (excClassObj nm q C N bs bm hdct sn sub ab col dd k0 k1 k2 k3 k5 newId))
    (few : rest.length ≤ sizeLine) (done : R (.ok (.ret (.ref (hp.objs.size + 1)))) ⟨(hp.push (kdv_tup rest)).push (excO C hp.objs.size), g, d, t, os⟩) :
    codeAny (model prog w) A (.builtin newId ⟨.ref C :: rest, []⟩) R ⟨hp, g, d, t, os⟩ := by
  have ends := F.ends
  have inB : (Value.ref C :: bm).contains (.type B) = true := by
    rw [List.contains_cons, b.has]
    exact Bool.or_true _
  have inA : (Value.ref C :: bm).contains (.type "AttributeError") = false := by
    rw [List.contains_cons, b.noA]
    rfl
  have inN : (Value.ref C :: bm).contains (.type "NameError") = false := by
    rw [List.contains_cons, b.noN]
    rfl
  refine codeAny_builtinAt F.entry ?_
  unfold Builtin.«BaseException.__new__»
  refine wpAt_bind ?_
  show wpAt _ _ _ (stack >>= _) _ _ _
  refine wpAt_bind (wpAt_stack fun _ _ => wpAt_of_wpAny ?_)
  wp_walk
  refine wpAt_of_wpAny ?_
  rw [F.owner]
  repeat (first
    | with_reducible refine wpAny_madeHere_exc F.canon hC ?_
    | with_reducible refine wpAny_loadPart_at hC ?_
    | (with_reducible refine wpAny_isSubtype_exc hC ?_
       first
         | rw [inB]
         | rw [inA]
         | rw [inN])
    | wp_step)
  show R _ _
  rw [Heap.size_push]
  exact done
theorem mk_body (F : ExcBaseFacts B newId initId bmF) (b : Behind B bm) {Q : Fin → Shared → Prop} (hC : hp.get? C = some (excClassObj nm q C N bs bm hdct sn sub ab col dd k0 k1 k2 k3 k5 newId))
    (li : Looks (model prog w) hp (typeLookup (.ref C) "__init__") (some (.ref fI))) (lb : ∀ x, Looks (model prog w) hp (bindSpecial (.ref fI) x) (.ref fI, [x])) (few : rest.length ≤ sizeLine)
    (done : codeAny (model prog w) A (.call (.ref fI) ⟨.ref (hp.objs.size + 1) :: rest, []⟩)
      (fun r s' => match r with
        | .ok (.ret v) => v = .none ∧ Q (.done (.ret (.ref (hp.objs.size + 1)))) s'
        | .ok _ => False
        | .error e => E e s') ⟨(hp.push (kdv_tup rest)).push (excO C hp.objs.size), g, d, t, os⟩) :
    wpAny (model prog w) A (Builtin.«type.__call__» ⟨.ref C :: rest, []⟩) Q E ⟨hp, g, d, t, os⟩ := by
  repeat (first
    | with_reducible refine wpAny_loadPart_at hC ?_
    | with_reducible refine wpAny_madeBy_exc hC ?_
    | wp_step)
  refine codeAny_call_builtin_code (Code.quiet_builtin _ F.quiet) (mk_check F b hC ?_)
  refine mk_new F b hC few ?_
  show wpAny _ _ _ _ _ _
  have old : ∀ b o, hp.get? b = some o → ((hp.push (kdv_tup rest)).push (excO C hp.objs.size)).get? b = some o := fun _ _ e => Heap.get?_push_of_some _ (Heap.get?_push_of_some _ e)
  have cls1 := old _ _ hC
  have made : ((hp.push (kdv_tup rest)).push (excO C hp.objs.size)).get? (hp.objs.size + 1) = some (excO C hp.objs.size) := by
    heap_get
  have own : (Value.ref C :: bm).contains (.ref C) = true := by
    simp
  have li' := li.keeps old
  have lb' := (lb (.ref (hp.objs.size + 1))).keeps old
  unfold isInstance
  repeat (first
    | with_reducible refine wpAny_loadPart_at made ?_
    | (with_reducible refine wpAny_isSubtype_exc cls1 ?_
       rw [own])
    | wp_step)
  show wpAny _ _ (typeLookup (.ref C) _) _ _ _
  refine li'.at ?_
  refine wpAny_holding (wpAny_bind (lb'.at ?_))
  refine wpAny_bind (wpAny_call (codeAny_mono done fun r s' z => ?_))
  rcases r with e | (v | _ | _ | _) <;> first
    | exact z
    | exact z.elim
    | (obtain ⟨rfl, z2⟩ := z
       first
         | exact wpAny_pure (wpAny_pure z2)
         | (wp_walk
            exact z2))
theorem mk_call (F : ExcBaseFacts B newId initId bmF) (b : Behind B bm) (hC : hp.get? C = some (excClassObj nm q C N bs bm hdct sn sub ab col dd k0 k1 k2 k3 k5 newId))
    (li : Looks (model prog w) hp (typeLookup (.ref C) "__init__") (some (.ref fI))) (lb : ∀ x, Looks (model prog w) hp (bindSpecial (.ref fI) x) (.ref fI, [x])) (few : rest.length ≤ sizeLine)
    (done : codeAny (model prog w) (A.under (.builtin "type.__call__" ⟨.ref C :: rest, []⟩)) (.call (.ref fI) ⟨.ref (hp.objs.size + 1) :: rest, []⟩)
      (InitBack (hp.objs.size + 1) R) ⟨(hp.push (kdv_tup rest)).push (excO C hp.objs.size), g, d, t, os⟩) :
    codeAny (model prog w) A (.call (.ref C) ⟨rest, []⟩) R ⟨hp, g, d, t, os⟩ := by
  have z1 := tc_lookup
  have z2 := tc_bind (.ref C)
  have z3 : (⟨hp, g, d, t, os⟩ : Shared).TypeIs (.ref C) "type" := ⟨_, hC, rfl⟩
  refine codeAny_of_tree ?_
  show wpAny _ _ (callAny (.ref C) _) _ _ _
  repeat (any_goals (first
    | assumption
    | with_reducible refine wpAny_loadPart_at hC ?_
    | wp_step))
  refine ⟨rfl, ?_⟩
  refine codeAny_call_builtin_at (Code.quiet_builtin _ (by decide +kernel)) entry_typeCall (wpAny_check_type_call_sub hC ?_)
  refine mk_body F b hC li lb few (codeAny_mono done fun r s' z => ?_)
  rcases r with e | (v | _ | _ | _) <;> exact z
end
end OwnX
end PySem
set_option Elab.async false
set_option linter.all false
set_option maxRecDepth 100000
set_option maxHeartbeats 4000000
/-! the making of own errors: __init__ keeps what it is given -/
namespace PySem
namespace OwnX
open PySem.W PySem.Calls PyProof.Rows PySem.HandSPX
def argOf (n : Str) (p : Pos) : Arg := { arg := n, annotation := none, pos := p }
def iArgs (l : List Arg) : Arguments := { posonlyargs := [], args := l, vararg := none, kwonlyargs := [], kw_defaults := [], kwarg := none, defaults := [] }
def putSt (f p : Str) (q1 q2 q3 q4 : Pos) : Stmt := .Assign [.Attribute (.Name "self" q1) f q2] (.Name p q3) q4
def iScope (l : List Str) : Scope := { kind := .function, names := l.map fun n => (n, .local), isGenerator := false, isCoroutine := false, more := [] }
/-- the def at fI is such an __init__: its parameters and its text -/
def IsInit (K : Frag) (fI : Addr) (qual : Str) (args : Arguments → Prop) (body : List Stmt → Prop) (sc : Scope) : Prop :=
  ∃ (oc : Value) (od : Option Addr) (doc pm : Value) (an : Option Addr) (cdv ct : Value) (osl : Array (Option Value)) (a : Arguments) (b : List Stmt),
    K.lookup fI = some ⟨oc, od, .func (fnOf "__init__" qual a b sc .none .none doc pm an cdv ct), osl⟩ ∧ codeIn K cdv qual = true ∧ args a ∧ body b
theorem size_few (l : List Value) (h : l.length ≤ 5) : l.length ≤ sizeLine := by
  rw [sizeLine_eq]
  exact Nat.le_trans h (by decide)
theorem loadL {M : Model} {s : Shared} {name : Str} {scope : Scope} {L a : Addr} {cd : Value} {m : Str → Option Value} {x : Str} {pos : Pos} {v : Value} {Q : Value → Shared → Prop} {A : Around} {E : Value → Shared → Prop}
    (hn : s.heap.Ns L m) (hv : m x = some v) (h : Q v s) (hk : scope.kind = .function := by rfl) (hl : (envOfC name scope L a cd).kindOf x = some .local := by rfl) (hd : (x == ("__debug__" : Str)) = false := by decide) :
    wpAny M A (eval (.Name x pos) (envOfC name scope L a cd)) Q E s := wpAny_Name (wpAny_loadName_local hk hl hn hv h) hd
/-- what __init__ leaves of a fresh error at x: its own dict, new, says m -/
structure Kept (h h' : Heap) (x C dx t1 : Addr) (m : Str → Option Value) : Prop where
  keep : ∀ b o, b ≠ x → h.get? b = some o → h'.get? b = some o
  obj : h'.get? x = some { cls := .ref C, dict := some dx, data := .fields #[.ref t1, .none, .none, .none, .bool false, .none] }
  dbig : h.objs.size ≤ dx
  dne : dx ≠ x
  ns : h'.Ns1 dx m
/-- a made error -/
structure Made (h h' : Heap) (e C d : Addr) (m : Str → Option Value) : Prop where
  keep : ∀ b o, h.get? b = some o → h'.get? b = some o
  new : h.objs.size ≤ e
  obj : ∃ oe vs, h'.get? e = some oe ∧ oe.cls = .ref C ∧ oe.dict = some d ∧ oe.data = .fields vs ∧ vs[1]? = some .none
  dbig : h.objs.size ≤ d
  dne : d ≠ e
  ns : h'.Ns1 d m
section
variable {prog : Program} {w : World} {A : Around} {E : Value → Shared → Prop} {R : Result → Shared → Prop} {s : Shared} {K : Frag} {C fI : Addr} {bmB : List Value} {newId B initId : String}
/-- the class is called: it is made if its __init__ keeps -/
theorem made_of {bmF : List Value} (FB : ExcBaseFacts B newId initId bmF) (bh : Behind B bmB) (T : OwnTxt K C fI bmB newId) {us : List Value} {m : Str → Option Value} (hus : us.length ≤ 5) (X : K.In s.heap) (hlim : s.heap.NoLimit) (hroom : A.depth + 1 < recursionLimit)
    (hI : ∀ {A' : Around} {R' : Result → Shared → Prop} {s' : Shared} {x t0 : Addr}, K.In s'.heap → s'.heap.NoLimit → s'.heap.get? x = some (excO C t0) → K.lookup x = none → A'.depth < recursionLimit →
      (∀ h' tk dx, Kept s'.heap h' x C dx t0 m → R' (.ok (.ret .none)) { s' with heap := h', toks := tk }) → codeAny (model prog w) A' (.call (.ref fI) ⟨.ref x :: us, []⟩) R' s')
    (hq : ∀ h' tk e d, Made s.heap h' e C d m → R (.ok (.ret (.ref e))) { s with heap := h', toks := tk }) :
    codeAny (model prog w) A (.call (.ref C) ⟨us, []⟩) R s := by
  obtain ⟨nm, q, N, bs, bm, sn, sub, ab, col, dd, k0, k1, k2, k3, k5, hC, hbm⟩ := T.cls
  obtain ⟨hp, g, dr, tk, os⟩ := s
  have k : ∀ b o, hp.get? b = some o → ((hp.push (kdv_tup us)).push (excO C hp.objs.size)).get? b = some o := fun b o e => Heap.get?_push_of_some _ (Heap.get?_push_of_some _ e)
  have hget : ((hp.push (kdv_tup us)).push (excO C hp.objs.size)).get? (hp.objs.size + 1) = some (excO C hp.objs.size) := by heap_get
  have bh' : Behind B bm := ⟨(excTail_contains _ bm hbm).trans bh.has, (excTail_contains _ bm hbm).trans bh.noA, (excTail_contains _ bm hbm).trans bh.noN⟩
  refine mk_call FB bh' (X _ _ hC) (looks_findIn X T.iC) (fun self => bind_fn X self T.tC) (size_few us hus) ?_
  have hnx : K.lookup (hp.objs.size + 1) = none := by
    cases e : K.lookup (hp.objs.size + 1) with
    | none => rfl
    | some o => exact absurd (Nat.lt_of_succ_lt (Heap.lt_size (X _ _ e : hp.get? (hp.objs.size + 1) = some o))) (Nat.lt_irrefl _)
  refine hI (s' := ⟨(hp.push (kdv_tup us)).push (excO C hp.objs.size), g, dr, tk, os⟩) (X.keeps k) (hlim.keeps k) hget hnx ?_ fun h' tk' dx ⟨k', hx, dn, dne, hns⟩ => ?_
  · show A.depth + 1 < recursionLimit
    exact hroom
  · have old : ∀ b o, hp.get? b = some o → h'.get? b = some o := fun b o e => k' b o (Nat.ne_of_lt (Nat.lt_succ_of_lt (Heap.lt_size e))) (k b o e)
    have z : hp.objs.size + 1 + 1 ≤ dx := by
      first
        | (simpa only [Heap.size_push] using dn)
        | exact dn
        | (have q := dn; rw [Heap.size_push, Heap.size_push] at q; exact q)
    exact ⟨rfl, hq h' tk' (hp.objs.size + 1) dx ⟨old, Nat.le_succ _, ⟨_, _, hx, rfl, rfl, rfl, rfl⟩, Nat.le_trans (Nat.le_trans (Nat.le_succ _) (Nat.le_succ _)) z, dne, hns⟩⟩
theorem init_value (SF : StoreFacts B bmB "object.__setattr__" "object") (T : OwnTxt K C fI bmB newId) {qual : Str} (noN : findIn K (.ref C) "value" = some none)
    (fn : IsInit K fI qual (fun a => ∃ p1 p2, a = iArgs [argOf "self" p1, argOf "value" p2]) (fun b => ∃ q1 q2 q3 q4, b = [putSt "value" "value" q1 q2 q3 q4]) (iScope ["self", "value"]))
    {x t0 : Addr} {v : Value} (X : K.In s.heap) (hlim : s.heap.NoLimit) (hx : s.heap.get? x = some (excO C t0)) (hnx : K.lookup x = none) (hroom : A.depth < recursionLimit)
    (hq : ∀ h' tk dx, Kept s.heap h' x C dx t0 (fun y => if y = "value" then some v else none) → R (.ok (.ret .none)) { s with heap := h', toks := tk }) :
    codeAny (model prog w) A (.call (.ref fI) ⟨[.ref x, v], []⟩) R s := by
  obtain ⟨oc, od, doc, pm, an, cdv, ct, osl, a, b, ho, hcd, ⟨p1, p2, rfl⟩, ⟨q1, q2, q3, q4, rfl⟩⟩ := fn
  refine Att.call_fn (binds := [("self", .ref x), ("value", v)]) X hlim ho hcd hroom (BindsTo.of_eq (by first | rfl | with_unfolding_all rfl)) (by first | rfl | decide | with_unfolding_all rfl) (fun s₁ IC => ?_) rfl rfl rfl
  obtain ⟨h₁, tk₁, rfl⟩ := IC.toInCall.same
  have k : ∀ b o, s.heap.get? b = some o → h₁.get? b = some o := IC.toInCall.keep
  have hn := IC.toInCall.ns
  have X₁ : K.In h₁ := X.keeps k
  have hx₁ := k _ _ hx
  show wpAny _ _ (execs _ _) _ _ _
  refine wpAny_execs_cons (plainObj_wpAny_Assign_Attribute ?_)
  refine loadL (v := v) hn (by first | rfl | with_unfolding_all rfl | kernel_rfl) (loadL (v := .ref x) hn (by first | rfl | with_unfolding_all rfl | kernel_rfl) ?_)
  refine set_plain X₁ (ox := excO C t0) (od := none) ⟨hx₁, rfl, rfl, trivial⟩ T.sa ?_
  refine keep_first SF T X₁ hx₁ noN (fun h₃ tk₃ dx k₃ dn dne hx₃ hn₃ => ?_)
  show wpAny _ _ (execs _ _) _ _ _
  have z : s.heap.objs.size < h₁.objs.size := hn.lt
  exact wpAny_execs_nil (hq h₃ tk₃ dx ⟨fun b o hb e => k₃ b o hb (k b o e), hx₃, Nat.le_of_lt (Nat.lt_of_lt_of_le z dn), dne, hn₃⟩)
end
end OwnX
end PySem
set_option Elab.async false
set_option linter.all false
set_option maxRecDepth 100000
set_option maxHeartbeats 4000000
namespace L2
open PySem PySem.Spec PyProof.Rows PySem.OwnX
/-- X(e, ..), X an own error whose __init__ keeps what it is given: its own dict says fs of the values -/
def tMkK (C : Addr) (n : Nat) (fs : List V → List (Str × V)) (ta : TA) : St → Hp → XK → Prop := fun σ H Q => ta σ H fun vs H1 => vs.length = n ∧ ∀ d, H1 d = none → Q (.ref C) (some d) (upd H1 d (.xd (fs vs)))
/-- what the __init__ at fI does with n values -/
def Keeps (P : Program) (w : World) (K : PySem.W.Frag) (C fI : Addr) (n : Nat) (fs : List V → List (Str × V)) : Prop :=
  ∀ (vs : List V) (us : List Value), Vals vs us → vs.length = n → ∃ m : Str → Option Value, (∀ f, RelO ((fs vs).lookup f) (m f)) ∧
    ∀ {A' : Around} {R' : Result → Shared → Prop} {s' : Shared} {x t0 : Addr}, K.In s'.heap → s'.heap.NoLimit → s'.heap.get? x = some (HandSPX.excO C t0) → K.lookup x = none → A'.depth < recursionLimit →
      (∀ h' tk dx, Kept s'.heap h' x C dx t0 m → R' (.ok (.ret .none)) { s' with heap := h', toks := tk }) → codeAny (model P w) A' (.call (.ref fI) ⟨.ref x :: us, []⟩) R' s'
section
variable {X : Cx} {C fI : Addr} {B newId initId : String} {bmB : List Value}
theorem pmk_keep {x : Str} {e : Expr} {es : List Expr} {ta : TA} {p pos : Pos} {k n : Nat} {fs : List V → List (Str × V)} {bmF : List Value} (FB : ExcBaseFacts B newId initId bmF) (bh : Behind B bmB) (T : OwnTxt X.K C fI bmB newId) (gC : X.mg x = some (.ref C)) (hn : n ≤ 5)
    (hI : Keeps X.prog X.w X.K C fI n fs) (hr : Room k X.A) (ha : PA X (e :: es) ta) (hg : Gl X x := by rfl) (hdb : (x == ("__debug__" : Str)) = false := by decide)
    (he : starEach (e :: es) X.env = (false, eval e X.env) :: starEach es X.env := by rfl) (hpl : (backTo pos (starEach es X.env)).any (·.1) = false := by rfl) :
    PMk X (.Call (.Name x p) (e :: es) [] pos) (tMkK C n fs ta) := by
  intro pins s σ H Q I h
  refine wpAny_Call_Name_kw (ld_glob I hg gC ?_ hdb)
  refine PySem.W.callWith_K (h₀ := X.base) I.ok.mod.kin T.kC (thn (ha.run pos pins s σ H _ I h) fun us s1 hh => ?_) he hpl
  obtain ⟨vs, H1, I1, r1, ln, q1⟩ := hh
  refine ⟨I1.kIn, ?_⟩
  show wpAny _ _ (call (.ref C) us) _ _ _
  obtain ⟨m, hrel, hI⟩ := hI vs us r1 ln
  have hlim := I1.nolimit
  have hus : us.length ≤ 5 := by rw [← r1.length, ln]; exact hn
  obtain ⟨hp, g, dr, tk, os⟩ := s1
  refine wpAny_call (made_of FB bh T (m := m) hus I1.kIn hlim (by have := hr.dp; omega) hI fun h' tk' e' d M => ?_)
  show MkP X pins σ Q (.ref e') ⟨h', g, dr, tk', os⟩
  obtain ⟨oe, fv, hoe, hc, hd, hdat, h1⟩ := M.obj
  have hns := M.ns
  obtain ⟨G', g1, g2⟩ := restrict h' fun b => decide (b ≠ e')
  have gk : ∀ b, b ≠ e' → G'.get? b = h'.get? b := fun b hb => g1 b (decide_eq_true hb)
  have ge : G'.get? e' = none := g2 e' (by simp)
  have old : ∀ b o, hp.get? b = some o → G'.get? b = some o := fun b o q => (gk b (Nat.ne_of_lt (Nat.lt_of_lt_of_le (Heap.lt_size q) M.new))).trans (M.keep b o q)
  have ob : ObjOk X.prog X.w (upd H1 d (.xd (fs vs))) G' d (.xd (fs vs)) := ⟨m, hns.at (fun o q => (gk d M.dne).trans q), hrel⟩
  have J : Inv X pins σ (upd H1 d (.xd (fs vs))) ⟨G', g, dr, tk', os⟩ := I1.laid (t' := tk') old M.dbig ob
  refine ⟨e', oe, fv, ⟨G', g, dr, tk', os⟩, _, .ref C, some d, rfl, J, fun b o q => ?_, ge, hoe, ⟨hc, hd⟩, hdat, h1, ?_, rfl, I1.bare, raises_own T.exC T.tyC, q1 d (I1.hok.fresh M.dbig)⟩
  · by_cases hb : b = e'
    · have q' : G'.get? b = some o := q
      rw [hb, ge] at q'
      cases q'
    · exact (gk b hb).symm.trans q
  · rw [upd_ne (Ne.symm M.dne)]
    exact I1.hok.fresh M.new
/-- low.f, low the error that the suite holds (at a; its class cls, its dict d) -/
def tByE (C : Addr) (f : Str) (a : Addr) (cls : Value) (d : Option Addr) (te : TE) : TE := fun σ H Q => te σ H fun x H1 => x = .ref a ∧ cls = .ref C ∧ ∃ (dd : Addr) (fs : List (Str × V)) (v : V), d = some dd ∧ H1 dd = some (.xd fs) ∧ fs.lookup f = some v ∧ Q v H1
theorem pe_byE {a : Addr} {oe : Obj} {cls : Value} {d : Option Addr} {pn : List (Addr × Obj)} {e : Expr} {te : TE} {f : Str} {pos : Pos} (T : OwnTxt X.K C fI bmB newId) (noF : PySem.W.findIn X.K (.ref C) f = some none) (hz : Zc cls d oe) (hf : ∃ vs, oe.data = .fields vs)
    (he : PE (X.suite a ((a, oe) :: pn)) e te) (hcp : PySem.W.copiedNames.contains f = false := by decide +kernel) (hb : attributeBase e f X.env (eval e X.env) = eval e X.env := by rfl) :
    PE (X.suite a ((a, oe) :: pn)) (.Attribute e f pos) (tByE C f a cls d te) := by
  refine ⟨fun pins s σ H Q I h => ?_⟩
  refine attr_of hb (thn (he.run pins s σ H _ I h) fun u s1 hh => ?_)
  obtain ⟨x, H1, I1, rx, ex, ec, dd, fs, v, ed, ea, lf, q⟩ := hh
  subst ex
  obtain rfl : u = Value.ref a := rx
  subst ec
  subst ed
  obtain ⟨ha, _⟩ := I1.pin (a, oe) (List.mem_append_left _ List.mem_cons_self)
  obtain ⟨vs, hd⟩ := hf
  have hx : ObjOk X.prog X.w H1 s1.heap dd (.xd fs) := I1.hok dd _ ea
  obtain ⟨mA, hns, hr⟩ := hx
  obtain ⟨od, ho, hl⟩ := lookIn_ns hns
  obtain ⟨u, hu, ru⟩ := RelO.some_of (v := v) (o := mA f) (by rw [← lf]; exact hr f)
  have J : PySem.W.InstAt s1.heap a oe C (some od) := ⟨ha, hz.1, by unfold PySem.W.notCls; rw [hd] <;> rfl, by rw [hz.2]; exact ho⟩
  exact HandSPX.exc_get I1.kIn J T.ga T.gg T.exC (PySem.W.findObj_own T.hdC noF rfl (by rw [hl, hu])) (handed_of ru) ⟨v, H1, I1.tok _, ru, q⟩
end
end L2
set_option Elab.async false
set_option linter.all false
set_option maxRecDepth 100000
set_option maxHeartbeats 2000000
/-! defs that are called where nothing is being shown: repr of data -/
namespace L2
open PySem PySem.Spec PyProof.Rows
/-- a def's promise where nothing is being shown -/
structure FnG (P : Program) (w : World) (K : PySem.W.Frag) (mg : Str → Option Value) (base : Heap) (CX : CXT) (k : Nat) (f : Addr) (fd : FuncData) (ps : List Str) (sp : Sp) : Prop where
  few : ∀ vs H Q E, sp vs H Q E → vs.length = ps.length
  go : ∀ (A : Around) (l : List Env) (s : Shared) (H : Hp) (args : Args) (us : List Value) (vs : List V) (Q : VK) (E : XK), A.guards = some [] → Room k A → Env0 P w K mg base A l s H → BindsTo s fd args (ps.zip us) → Vals vs us → sp vs H Q E →
    codeAny (model P w) A (.call (.ref f) args) (CR CX l P w H s Q E) s
section
variable {P : Program} {w : World} {K : PySem.W.Frag} {mg : Str → Option Value} {base : Heap} {CX : CXT} {k : Nat} {f : Addr} {ps : List Str} {sp : Sp}
theorem FnG.of {fd : FuncData} (F : FnOk P w K mg base CX k f fd ps sp) : FnG P w K mg base CX k f fd ps sp := ⟨F.len, fun A l s H args us vs Q E _ => F.run A l s H args us vs Q E⟩
theorem gives_back {N : List Str} {name : Str} {scope : Scope} {cdv : Value} {A : Around} {l : List Env} {s s' : Shared} {H : Hp} {Q : VK} {E : XK} {fl : Flow}
    (h : SP (cxOf CX P w K mg base N name scope f cdv A l s H E) [] { nx := fun _ H' => Q .non H', rt := Q } fl s') : CR CX l P w H s Q E (.ok (.ret (match (generalizing := false) fl with | .ret u => u | _ => .none))) s' := by
  cases fl with
  | ret u =>
    obtain ⟨v, σ', H', J, rv, q⟩ := h
    exact ⟨v, H', J.os, J.bare, J.base, J.hok, rv, q⟩
  | next =>
    obtain ⟨σ', H', J, q⟩ := h
    exact ⟨.non, H', J.os, J.bare, J.base, J.hok, rfl, q⟩
  | brk =>
    obtain ⟨_, _, _, q⟩ := h
    exact q.elim
  | cont =>
    obtain ⟨_, _, _, q⟩ := h
    exact q.elim
theorem kept_in {A : Around} {l : List Env} {s : Shared} {H : Hp} (e : Env0 P w K mg base A l s H) : K.In s.heap ∧ s.heap.NoLimit :=
  ⟨e.mod.kin.keeps fun b o z => (e.bs b o z).1, e.mod.nolimit.keeps fun b o z => (e.bs b o z).1⟩
theorem kinds_of {N : List Str} {scope : Scope} {n : Nat} {us : List Value} (S : FnScope N ps scope) : ∀ y ∈ ps.zip us, scope.names.lookup y.1 = some .local ∨ (scope.names.lookup y.1 = some .cell ∧ ((cellsFrom n scope.names []).lookup y.1).isSome = true) := by
  rintro ⟨x, v⟩ hy
  rcases S.par x (List.of_mem_zip hy).1 with z | z
  · exact .inl z
  · exact .inr ⟨z, PySem.W.cellsFrom_some _ _ _ (.inl z)⟩
theorem fnG_of {name qual : Str} {params : Arguments} {body : List Stmt} {scope : Scope} {dV kV doc pm cdv ct oc : Value} {an od : Option Addr} {osl : Array (Option Value)} {N : List Str}
    (lk : K.lookup f = some ⟨oc, od, .func (PySem.W.fnOf name qual params body scope dV kV doc pm an cdv ct), osl⟩) (hcd : PySem.W.codeIn K cdv qual = true) (S : FnScope N ps scope) (few : ∀ vs H Q E, sp vs H Q E → vs.length = ps.length)
    (hb : ∀ (A : Around) (l : List Env) (s : Shared) (H : Hp) (vs : List V) (Q : VK) (E : XK), A.guards = some [] → Room k (A.deeper (envOfC qual scope s.heap.objs.size f cdv)) → sp vs H Q E →
      ∃ t, PSs (cxOf CX P w K mg base N qual scope f cdv A l s H E) body t ∧ t { nx := fun _ H' => Q .non H', rt := Q } (start N vs) H) :
    FnG P w K mg base CX (k + 1) f (PySem.W.fnOf name qual params body scope dV kV doc pm an cdv ct) ps sp := by
  refine ⟨few, ?_⟩
  intro A l s H args us vs Q E hg hr e hbind r h
  obtain ⟨kin, lim⟩ := kept_in e
  refine codeAny_call_function hr.depth (kin _ _ lk) rfl S.co S.gen rfl (PySem.W.codeRec_of kin hcd) (hbind _ _ _ _ ?_)
  refine wpAny_newFunctionEnv_cells S.kind (kinds_of S) ?_
  rintro env rfl s1 x
  refine ⟨lim.keeps x.toInCall.keep, codeAny_func ?_⟩
  obtain ⟨t, ht, q⟩ := hb A l s H vs Q E hg (hr.deeper _) h
  exact wpAny_mono (ht.run [] s1 (start N vs) H _ (inv_start S hr.hd e (few _ _ _ _ h) r x) q) (fun fl s' z => gives_back z) fun _ _ z => z
theorem FnG.on {x qual : Str} {st : Stmt} {fd : FuncData} {N : List Str} (F : Fun K x qual st f fd) (S : FnScope N ps (defScope st)) (few : ∀ vs H Q E, sp vs H Q E → vs.length = ps.length)
    (hb : ∀ (cdv : Value) (A : Around) (l : List Env) (s : Shared) (H : Hp) (vs : List V) (Q : VK) (E : XK), A.guards = some [] → Room k (A.deeper (envOfC qual (defScope st) s.heap.objs.size f cdv)) → sp vs H Q E →
      ∃ t, PSs (cxOf CX0 P w K mg base N qual (defScope st) f cdv A l s H E).nox (defBody st) t ∧ t { nx := fun _ H' => Q .non H', rt := Q } (start N vs) H) : FnG P w K mg base CX0 (k + 1) f fd ps sp := by
  obtain ⟨oc, od, kV, doc, pm, an, cdv, ct, osl, rfl, lk, hcd⟩ := F.ex
  refine fnG_of lk hcd S few fun A l s H vs Q E hg hr h => ?_
  obtain ⟨t, h1, q⟩ := hb cdv A l s H vs Q E hg hr h
  exact ⟨t, h1.nox, q⟩
end
section
variable {X : Cx} {CX : CXT} {k : Nat} {f : Addr} {fd : FuncData} {ps : List Str} {sp : Sp} {E : XK} {x : Str} {p pos : Pos} {e : Expr} {es : List Expr} {t : TA}
theorem pe_callG (F : FnG X.prog X.w X.K X.mg X.base CX k f fd ps sp) (gd : X.A.guards = some []) (hr : Room k X.A) (hg : Gl X x) (hm : X.mg x = some (.ref f)) (hk : PySem.W.keepIn X.K (.ref f) = true) (hb : Binds X.K fd ps []) (hx : Passes CX X E)
    (ha : PA X (e :: es) t) (hdb : (x == ("__debug__" : Str)) = false := by decide) (he : starEach (e :: es) X.env = (false, eval e X.env) :: starEach es X.env := by rfl) (hpl : (backTo pos (starEach es X.env)).any (·.1) = false := by rfl) :
    PE X (.Call (.Name x p) (e :: es) [] pos) (tCall sp [] E t) := by
  constructor
  intro pins s σ H Q I h
  refine wpAny_Call_Name_kw (ld_glob I hg hm ?_ hdb)
  refine PySem.W.callWith_K (h₀ := X.base) I.ok.mod.kin hk (thn (ha.run pos pins s σ H _ I h) ?_) he hpl
  rintro us s1 ⟨vs, H1, I1, r, q⟩
  rw [List.append_nil] at q
  refine ⟨I1.kIn, wpAny_call (codeAny_mono (F.go X.A X.stack s1 H1 ⟨us, []⟩ us vs Q E gd hr I1.env0 ?_ r q) ?_)⟩
  · have z := hb s1 us I1.kIn (by rw [List.append_nil, ← r.length]; exact F.few _ _ _ _ q)
    rw [List.append_nil] at z
    exact z
  · rintro (er | fl) s' z
    · exact hx pins σ H1 s1 er s' I1 z
    · cases fl with
      | ret u => exact I1.after z
      | next => exact z.elim
      | brk => exact z.elim
      | cont => exact z.elim
end
end L2
set_option Elab.async false
set_option linter.all false
set_option maxRecDepth 100000
set_option maxHeartbeats 2000000
/-! a law's end by a promise that asks that nothing is being shown -/
namespace L2
open PySem PySem.Spec PyProof.Rows
/-- the ground: what stands behind the top, without what H tracks (the script at a, or nothing) -/
structure OneAt (K : PySem.W.Frag) (h : Heap) (H : Hp) (a : Addr) : Prop where
  only : ∀ b, H b ≠ none → b = a
  own : H a ≠ none → K.lookup a = none
section
variable {P : Program} {w : World} {K : PySem.W.Frag} {mg mb : Str → Option Value} {h : Heap} {H : Hp} {a : Addr} {vs : List Value}
theorem OneAt.free (o : OneAt K h H a) (ha : h.get? a = some { cls := .type "list", data := .seq vs.toArray }) {b : Addr} {u : Obj} {es : Array DictEntry} {n : Nat} (e : h.get? b = some u) (d : u.data = .dict es n) : H b = none := by
  by_cases z : H b = none
  · exact z
  · have q := o.only b z
    rw [q, ha] at e
    cases e
    cases d
theorem OneAt.ns (o : OneAt K h H a) (ha : h.get? a = some { cls := .type "list", data := .seq vs.toArray }) {b : Addr} {m : Str → Option Value} : h.Ns b m → (hidT h H).Ns b m := by
  rintro ⟨u, es, n, e, d, r⟩
  exact ⟨u, es, n, hidT_get e (o.free ha e d), d, r⟩
theorem OneAt.kin (o : OneAt K h H a) (kin : K.In h) : K.In (hidT h H) := by
  intro b u e
  refine hidT_get (kin b u e) ?_
  by_cases z : H b = none
  · exact z
  · have q := o.only b z
    subst q
    rw [o.own z] at e
    cases e
theorem OneAt.mod (o : OneAt K h H a) (kin : K.In h) (ha : h.get? a = some { cls := .type "list", data := .seq vs.toArray }) (ng : h.Ns mainGlobals mg) (nb : h.Ns builtinsNs mb) (bb : ∀ x : Str, x ≠ "__name__" → mb x = bootBuiltins x) (lim : h.NoLimit) : Mod K mg (hidT h H) := by
  obtain ⟨mc, l1, l2⟩ := lim
  exact ⟨o.kin kin, o.ns ha ng, ⟨mb, o.ns ha nb, bb⟩, ⟨mc, o.ns ha l1, l2⟩⟩
end
theorem law_at {P : Program} {w : World} {K : PySem.W.Frag} {mg mb : Str → Option Value} {k : Nat} {fa a : Addr} {fd : FuncData} {x : Str} {sp : Sp} {s : Shared} {vs : List Value} {H : Hp}
    (kin : K.In s.heap) (ng : s.heap.Ns mainGlobals mg) (nb : s.heap.Ns builtinsNs mb) (bb : ∀ x : Str, x ≠ "__name__" → mb x = bootBuiltins x) (lim : s.heap.NoLimit) (hgen : s.gens = #[])
    (ha : s.heap.get? a = some { cls := .type "list", data := .seq vs.toArray }) (hr : Room k callerA) (F : ∀ base : Heap, K.In base → base.Ns mainGlobals mg → FnG P w K mg base CX0 k fa fd [x] sp) (bd : ∀ (t : Shared) (u : Value), BindsTo t fd ⟨[u], []⟩ [(x, u)])
    (o : OneAt K s.heap H a) (hO : Only H) (ok : HOk P w H s.heap) (hsp : sp [.ref a] H (fun v _ => v = .bl true) fun _ _ _ => False) :
    codeAny (model P w) callerA (.call (.ref fa) ⟨[.ref a], []⟩) (fun r t => r = .ok (.ret (.bool true)) ∧ OldK s.heap t.heap ∧ t.os = s.os ∧ AllBare t.gens) s := by
  have e0 : Env0 P w K mg (hidT s.heap H) callerA [] s H :=
    ⟨rfl, o.mod kin ha ng nb bb lim, fun _ _ z => of_hidT z, Nat.le_of_eq (hidT_size _ _), trivial, fun b z => (nomatch (show b ∈ ([] : List Addr) from z)), ok, .of_eq hgen⟩
  refine codeAny_mono ((F _ (o.kin kin) (o.ns ha ng)).go callerA [] s H ⟨[.ref a], []⟩ [.ref a] [.ref a] _ _ rfl hr e0 (bd s (.ref a)) (.cons rfl .nil) hsp) ?_
  rintro (er | fl) t z
  · exact (show False from z).elim
  · cases fl with
    | next => exact z.elim
    | brk => exact z.elim
    | cont => exact z.elim
    | ret u =>
      obtain ⟨v, H', e1, e2, un, ok', r, q⟩ := z
      have q : v = .bl true := q
      rw [q] at r
      have r : u = Value.bool true := r
      rw [r]
      refine ⟨rfl, OldK.of_keep ?_, e1, e2⟩
      intro b ob e
      by_cases hn : H b = none
      · exact un.keep b ob e hn (fun z => (nomatch (show b ∈ ([] : List Addr) from z))) (by simp)
      · rcases hO b with n | ⟨of, xs, n⟩
        · exact absurd n hn
        · have g1 := (ok b _ n).1
          have g2 := (ok' b _ (un.frzs b of _ n)).1
          rw [e] at g1
          cases g1
          exact g2
/-- the law's end -/
theorem walk_G {l : PySem.W.OpenLaw} {n k : Nat} {q : Program} {loose : List Str} {XP : (Str → Option Value) → Heap → Prop} {YP : World → Heap → Prop} {d : DefRec} {K : Params → PySem.W.Frag} {sp : World → Sp} {x : Str}
    (hn : l.most = some n) (hn2 : n ≤ sizeLine) (hdf : d.params.defaults = []) (hr : Room k callerA) (hY : ∀ (w : World) (h : Heap), YP w h → (K w.params).In h)
    (F : ∀ (w : World) (mg : Str → Option Value) (fa : Addr) (h : Heap), (K w.params).In h → h.Ns mainGlobals mg → mg d.name = some (.ref fa) →
      ∃ fd : FuncData, (∀ (s : Shared) (u : Value), BindsTo s fd ⟨[u], []⟩ [(x, u)]) ∧ ∀ base : Heap, (K w.params).In base → base.Ns mainGlobals mg → FnG l.prog w (K w.params) mg base CX0 k fa fd [x] (sp w))
    (hsp : ∀ (w : World) (H : Hp) (a : Addr) (ns : List Int), ns.length ≤ n → SqL (K w.params) H a (ns.map V.int) → sp w [.ref a] H (fun v _ => v = .bl true) fun _ _ _ => False) :
    PySem.W.WalkO q loose XP YP l.row.toRowW d [] (fun f vs => PySem.call f vs) := by
  refine Att.attach_call hn hdf ?_
  intro w s0 s mg mb fa ob pm cd doc a vs ns G Y ho hd hcd hmg hobj hi hlen hgen
  have kin := hY w _ Y
  obtain ⟨fd, bd, hF⟩ := F w mg fa _ kin G.T.g hmg
  have hz : ns.length ≤ sizeLine := Nat.le_trans hlen hn2
  have rv := vals_ints hi
  cases hk : (K w.params).lookup a with
  | some u =>
    have e := kin a u hk
    rw [hobj] at e
    cases e
    have no : ∀ b, (fun _ => none : Hp) b ≠ none → b = a := fun b z => absurd rfl z
    refine law_at kin G.T.g G.T.b G.T.builtins G.T.nolimit hgen hobj hr hF bd ⟨no, fun z => absurd rfl z⟩ (fun _ => .inl rfl) (fun b v z => nomatch (show (none : Option HO) = some v from z)) (hsp w _ a ns hlen ?_)
    exact .inr ⟨_, vs.toArray, _, hk, rfl, rfl, rfl, by rw [List.size_toArray, hi.length]; exact hz, by simpa using rv⟩
  | none =>
    have at_ : (fun b => if b = a then some (.frz { cls := .type "list", data := .seq vs.toArray } (.lst (ns.map V.int))) else none : Hp) a = some (.frz { cls := .type "list", data := .seq vs.toArray } (.lst (ns.map V.int))) := if_pos rfl
    have off : ∀ {b : Addr}, b ≠ a → (fun b => if b = a then some (.frz { cls := .type "list", data := .seq vs.toArray } (.lst (ns.map V.int))) else none : Hp) b = none := fun z => if_neg z
    generalize (fun b => if b = a then some (.frz { cls := .type "list", data := .seq vs.toArray } (.lst (ns.map V.int))) else none : Hp) = H at at_ off
    refine law_at kin G.T.g G.T.b G.T.builtins G.T.nolimit hgen hobj hr hF bd ⟨fun b z => ?_, fun _ => hk⟩ (fun b => ?_) (fun b u z => ?_) (hsp w H a ns hlen (.inl (.inr ⟨_, at_⟩)))
    · by_cases c : b = a
      · exact c
      · exact absurd (off c) z
    · by_cases c : b = a
      · rw [c]
        exact .inr ⟨_, _, at_⟩
      · exact .inl (off c)
    · by_cases c : b = a
      · rw [c, at_] at z
        cases z
        rw [c]
        exact ⟨hobj, by rw [List.length_map]; exact hz, vs, _, rv, hobj⟩
      · rw [off c] at z
        cases z
end L2
set_option Elab.async false
set_option linter.all false
set_option maxRecDepth 100000
set_option maxHeartbeats 2000000
/-! repr of data, where nothing is being shown -/
namespace L2
open PySem PySem.Spec PyProof.Rows
/-- data that can be shown -/
structure Sh (d : PyData) : Prop where
  s : d.showable = true
  l : d.leavesShort 13 = true
  b : d.bulk ≤ 2 ^ 20
  p : d.depth ≤ 20
theorem Sh.fits {d : PyData} (h : Sh d) : d.shown.length ≤ sizeLine := PyData.shown_fits_bulk (by decide) (by decide) h.l h.b
/-- a value and what it says -/
inductive Dd (K : PySem.W.Frag) (H : Hp) : V → PyData → Prop where
  | dp {v : V} {d : PyData} (h : Dp K H v d) (n : d.hasDict = false) : Dd K H v d
  | d12 {a : Addr} (h : H a = some (.dK [(Sum.inl 1, .int 2)])) : Dd K H (.ref a) (.dict [(.int 1, .int 2)])
def rRepr (K : PySem.W.Frag) : List V → Hp → VK → Prop := fun xs H Q => ∃ v d, xs = [v] ∧ Dd K H v d ∧ Sh d ∧ Q (.str d.shown) H
section
variable {X : Cx} {pins : List (Addr × Obj)} {σ : St} {H : Hp} {s : Shared}
theorem d12_reads (I : Inv X pins σ H s) {a : Addr} (h : H a = some (.dK [(Sum.inl 1, .int 2)])) : Reads s.heap (.ref a) (.dict [(.int 1, .int 2)]) [a] ∧ a ≠ sysModules := by
  obtain ⟨_, hsm, vs, kv, o, es, ep, ho, hx, hd, _, hp, _⟩ := I.hok a _ h
  have hne : a ≠ sysModules := fun z => by
    rw [z] at hsm
    simp at hsm
  refine ⟨?_, hne⟩
  obtain ⟨el⟩ := es
  unfold KV at kv
  rcases vs with _ | ⟨⟨k, v⟩, vs'⟩
  · cases kv
  cases kv with
  | cons r1 r2 =>
    cases r2
    obtain ⟨e1, e2⟩ := r1
    have e1 : Sum.inl 1 = k := e1
    subst e1
    obtain ⟨t2, e2⟩ := (show ∃ t, v = Value.int 2 t from e2)
    subst e2
    have hp : Pairs (mixKind X.prog X.w) el [(Sum.inl 1, Value.int 2 t2)] := hp
    rcases el with _ | ⟨e, el'⟩
    · cases hp
    cases hp with
    | cons p1 p2 p3 =>
      cases p3
      obtain ⟨t1, e3⟩ := Value.isInt_shape (k := 1) (v := e.key) p1
      have p2 : e.val = Value.int 2 t2 := p2
      refine Reads.dict (as := []) (bs := []) ho hx.1 hd ?_ ?_
      · show ReadsAll s.heap [e.key] [.int 1] []
        rw [e3]
        exact ReadsAll.cons (as := []) (bs := []) (Reads.int 1 t1) .nil
      · show ReadsAll s.heap [e.val] [.int 2] []
        rw [p2]
        exact ReadsAll.cons (as := []) (bs := []) (Reads.int 2 t2) .nil
theorem call_repr (hg : X.A.guards = some []) (hu : X.A.units + 40 < cLine) : CallR X (.builtin "repr") (rRepr X.K) := by
  intro pins s σ H xs us Q I r h
  obtain ⟨v, d, rfl, hd, sh, q⟩ := h
  obtain ⟨u, rfl, ru⟩ := vals1 r
  have road : ∀ (a : Addr) (as : List Addr), Reads s.heap (.ref a) d as → (d.hasDict = true → sysModules ∉ as) → wpAny (model X.prog X.w) X.A (call (.builtin "repr") [.ref a]) (EP X pins σ Q) X.xe s := fun a as rd hs =>
    repr_of_reads' rd sh.s hs hg (by have := sh.p; omega) (fun _ _ z => z) (fun h' u tk hk => ⟨.str _, H, I.kept (t' := tk) hk, ⟨_, rfl⟩, q⟩) sh.fits
  cases hd with
  | d12 h =>
    cases ru
    obtain ⟨rd, ne⟩ := d12_reads I h
    exact road _ _ rd fun _ z => ne (List.mem_singleton.mp z).symm
  | dp h n =>
    obtain ⟨as, rd⟩ := Dp.reads I d v u h ru
    cases rd with
    | none =>
      rw [PyData.shown_none] at q
      exact PySem.P.repr_of_none ⟨.str _, H, I.tok _, ⟨_, rfl⟩, q⟩
    | bool b =>
      rw [PyData.shown_bool] at q
      exact PySem.P.repr_of_bool ⟨.str _, H, I.tok _, ⟨_, rfl⟩, q⟩
    | int i t =>
      rw [PyData.shown_int] at q
      exact PySem.P.repr_of_int (of_decide_eq_true sh.s) ⟨.str _, H, I.tok _, ⟨_, rfl⟩, q⟩
    | str x t =>
      have z := sh.fits
      rw [PyData.shown_str] at q z
      exact PySem.P.repr_of_str ⟨.str _, H, I.tok _, ⟨_, rfl⟩, q⟩ z
    | list a1 a2 a3 a4 => exact road _ _ (Reads.list a1 a2 a3 a4) (PyData.noDict_hsm n)
    | tuple a1 a2 a3 a4 => exact road _ _ (Reads.tuple a1 a2 a3 a4) (PyData.noDict_hsm n)
    | dict a1 a2 a3 a4 a5 => cases n
end
end L2
set_option Elab.async false
set_option linter.all false
set_option maxRecDepth 100000
set_option maxHeartbeats 4000000
/-! {**d, k: v} -/
namespace DStar
open PySem PySem.Spec PyProof.Rows PySem.Calls L2
section
variable {prog : Program} {w : World} {A : Around} {E : Value → Shared → Prop} {s : Shared}
theorem put_pair {d : Addr} {kvs : List (Key × Value)} {k : Key} {key v : Value} {Q : Unit → Shared → Prop} (hk : keyIs k key = true) (hm : s.heap.DictOf (mixKind prog w) d kvs) (hz : kvs.length ≤ sizeLine)
    (q : ∀ h', h'.DictOf (mixKind prog w) d (stored kvs k v) → Heap.SameBut d s.heap h' → Q () { s with heap := h' }) : wpAny (model prog w) A (dictPut d ((mixKind prog w).hash k) key v) Q E s := by
  have hk : (mixKind prog w).is k key = true := hk
  obtain ⟨o, es, ep, ho, hc, hd, ks, hp, nd⟩ := hm
  have size : es.size ≤ sizeLine := by
    have a := hp.length
    have b : es.toList.length = es.size := by simp
    omega
  unfold dictPut
  refine wpAny_bind (wpAny_dictFind_of hk ho hd ks ?_)
  have place : (es.findIdx? fun e => (mixKind prog w).is k e.key) = kvs.findIdx? fun kv => decide (kv.1 = k) := by
    rw [← hp.findIdx k]
    obtain ⟨l⟩ := es
    simp
  cases at_ : es.findIdx? fun e => (mixKind prog w).is k e.key with
  | some i =>
    have any : (kvs.any fun kv => decide (kv.1 = k)) = true := any_of_findIdx_some (place ▸ at_)
    refine wpAny_updateDict ho hd (q _ ⟨_, _, ep, Heap.get?_update_self _ ho (Obj.isFreed_of_dict (Obj.data_mapDict hd _)), hc.mapDict _, Obj.data_mapDict hd _, ks.modify _ _, ?_, ?_⟩ (Heap.SameBut.update ..))
    · rw [stored, if_pos any]
      have hl : (es.toList.findIdx? fun e => (mixKind prog w).is k e.key) = some i := by
        rw [← at_]
        obtain ⟨l⟩ := es
        simp
      have z := hp.modify nd hl v
      obtain ⟨l⟩ := es
      simpa using z
    · rw [stored, if_pos any, keys_map_store]
      exact nd
  | none =>
    have out : k ∉ kvs.map (·.1) := not_mem_of_findIdx_none (place ▸ at_)
    have any : ¬ (kvs.any fun kv => decide (kv.1 = k)) = true := fun z => by
      obtain ⟨kv, m, e⟩ := List.any_eq_true.mp z
      exact out (List.mem_map.mpr ⟨kv, m, of_decide_eq_true e⟩)
    refine wpAny_updateDictKeys (hz := size) ho hd (q _ ⟨_, _, ep + 1, Heap.get?_update_self _ ho (Obj.isFreed_of_dict (Obj.data_mapDictKeys hd _)), hc.mapDictKeys _, Obj.data_mapDictKeys hd _, ks.push hk _, ?_, ?_⟩ (Heap.SameBut.update ..))
    · rw [stored, if_neg any]
      have z := hp.append hk ((mixKind prog w).hash k) v
      obtain ⟨l⟩ := es
      simpa using z
    · rw [stored, if_neg any, List.map_append, List.nodup_append]
      refine ⟨nd, by simp, fun x hx y hy => ?_⟩
      have e : y = k := by simpa using hy
      rw [e]
      rintro rfl
      exact out hx
theorem merge_dict {d a : Addr} {kvs more : List (Key × Value)} {Q : Unit → Shared → Prop} (ne : d ≠ a) (nS : (a == sysModules) = false) (hd : s.heap.DictOf (mixKind prog w) d kvs) (ha : s.heap.DictOf (mixKind prog w) a more) (hz : kvs.length + more.length ≤ sizeLine)
    (q : ∀ h', h'.DictOf (mixKind prog w) d (merged kvs more) → h'.DictOf (mixKind prog w) a more → Heap.SameBut d s.heap h' → Q () { s with heap := h' }) : wpAny (model prog w) A (mergeMapping d (.ref a) false) Q E s := by
  obtain ⟨od, esd, epd, hod, hcd, hdd, hkd, hpd, hnd⟩ := id hd
  obtain ⟨oa, esa, epa, hoa, hca, hda, hka, hpa, hna⟩ := id ha
  have len : more.length = esa.size := by
    rw [← hpa.length]
    simp
  have noref : ∀ (i : Nat) (h : i < esa.size), ∀ b, esa[i].key ≠ .ref b := fun i h b z => by
    obtain ⟨k, hk, _⟩ := hka esa[i] (Array.getElem_mem h)
    have hk : keyIs k esa[i].key = true := hk
    rcases keyIs_shape hk with ⟨n, t, _, e⟩ | ⟨x, t, _, e⟩
    · rw [z] at e
      cases e
    · rw [z] at e
      cases e
  have main : wpAny (model prog w) A (do
      let l ← dictEntries a
      let size : Nat := l.size
      let epoch ← dictEpoch a
      forIn (List.range size) PUnit.unit fun i (_ : PUnit) => (do
        let l' ← dictEntries a
        match l'[i]? with
        | some e => do
          holding [e.key, e.val] (dictPut d e.hash e.key e.val)
          let ep' ← dictEpoch a
          if (ep' != epoch) = true then do
            (unsupported "dict.changed-during-merge" : Sem PUnit)
            pure (ForInStep.yield PUnit.unit)
          else pure (ForInStep.yield PUnit.unit)
        | _ => do
          (unsupported "dict.changed-during-merge" : Sem PUnit)
          pure (ForInStep.yield PUnit.unit) : Sem (ForInStep PUnit))
      pure ()) Q E s := by
    refine wpAny_bind (wpAny_dictEntries hoa hda (wpAny_bind (wpAny_dictEpoch hoa hda (wpAny_bind ?_))))
    refine wpAny_forIn_list _ (fun rest _ s' => ∃ h' i, s' = { s with heap := h' } ∧ rest = (List.range esa.size).drop i ∧ i ≤ esa.size ∧ h'.DictOf (mixKind prog w) d (merged kvs (more.take i)) ∧ h'.get? a = some oa ∧ Heap.SameBut d s.heap h')
      _ ?_ ?_ _ _ ⟨s.heap, 0, rfl, rfl, Nat.zero_le _, by simpa [merged] using hd, hoa, Heap.SameBut.refl _ _⟩
    · rintro x rest b s' ⟨h', i, rfl, hr, hi, hd', hoa', hs'⟩
      have lt : i < esa.size := by
        rcases Nat.lt_or_ge i esa.size with h | h
        · exact h
        · rw [List.drop_eq_nil_of_le (by rw [List.length_range]; exact h)] at hr
          cases hr
      rw [List.drop_eq_getElem_cons (by rw [List.length_range]; exact lt), List.getElem_range] at hr
      injection hr with e1 e2
      subst e1
      refine wpAny_bind (wpAny_dictEntries hoa' hda ?_)
      rw [Array.getElem?_eq_getElem lt]
      obtain ⟨⟨k, v⟩, hkv⟩ : ∃ kv, more[x]? = some kv := ⟨more[x]'(by omega), List.getElem?_eq_getElem _⟩
      obtain ⟨kk, vv⟩ := hpa.get? (e := esa[x]) (by simp [lt]) hkv
      obtain ⟨k', kk', hash⟩ := hka esa[x] (Array.getElem_mem lt)
      obtain rfl : k' = k := (mixKind prog w).inj _ _ _ kk' kk
      show wpAny _ _ (holding [esa[x].key, esa[x].val] (dictPut d esa[x].hash esa[x].key esa[x].val) >>= _) _ _ _
      rw [hash, vv]
      have mz : (merged kvs (more.take x)).length ≤ sizeLine := by
        have a1 := merged_length_le kvs (more.take x)
        have a2 : (more.take x).length ≤ more.length := by rw [List.length_take]; omega
        omega
      refine wpAny_bind (wpAny_holding (put_pair kk hd' mz fun h2 hd2 hs2 => ?_))
      have hoa2 : h2.get? a = some oa := (hs2.2 a (Ne.symm ne)).trans hoa'
      refine wpAny_bind (wpAny_dictEpoch hoa2 hda ?_)
      rw [if_neg (by simp)]
      exact wpAny_pure ⟨h2, x + 1, rfl, e2, lt, by rw [merged_take_succ kvs more x (k', v) hkv]; exact hd2, hoa2, hs'.trans hs2⟩
    · rintro b s' ⟨h', i, rfl, hr, hi, hd', hoa', hs'⟩
      have e : i = esa.size := by
        rcases Nat.lt_or_ge i esa.size with h | h
        · rw [List.drop_eq_getElem_cons (by rw [List.length_range]; exact h)] at hr
          cases hr
        · omega
      refine wpAny_pure (q h' ?_ ⟨oa, esa, epa, hoa', hca, hda, hka, hpa, hna⟩ hs')
      rw [e, ← len, List.take_length] at hd'
      exact hd'
  unfold mergeMapping
  refine wpAny_bind (wpAny_isInstance ha.typeIs isSubtype_dict_dict ?_)
  rw [if_pos rfl]
  refine wpAny_bind (wpAny_specialOf ha.typeIs F.slot_dict_iter.lookup (wpAny_bind (wpAny_pure ?_)))
  simp only [beq_self_eq_true]
  rw [if_neg (show ¬ ((a == sysModules) = true) by rw [nS]; decide)]
  refine wpAny_bind (wpAny_dictEntries hod hdd ?_)
  have main2 := main
  split
  · refine wpAny_bind (wpAny_dictEntries hoa hda ?_)
    rw [← Array.forIn_toList]
    refine wpAny_bind (wpAny_forIn_list _ (fun rest _ s' => s' = s ∧ ∀ e ∈ rest, ∀ b, e.key ≠ .ref b) _ ?_ ?_ _ _ ⟨rfl, fun e he b => ?_⟩)
    · rintro x rest b s' ⟨rfl, no⟩
      have nx := no x List.mem_cons_self
      split
      · rename_i b e
        exact absurd e (nx b)
      · exact wpAny_pure ⟨rfl, fun e he => no e (List.mem_cons_of_mem _ he)⟩
    · rintro b s' ⟨rfl, _⟩
      exact main
    · obtain ⟨i, hi, e1⟩ := List.mem_iff_getElem.mp he
      have hi2 : i < esa.size := by simpa using hi
      have z := noref i hi2 b
      rw [← e1]
      simpa using z
  · exact main
end
end DStar
set_option Elab.async false
set_option linter.all false
set_option maxRecDepth 100000
set_option maxHeartbeats 4000000
/-! {**d, k: v} as a rule -/
namespace DStar
open PySem PySem.Spec PyProof.Rows PySem.Calls L2
def tStar1 (td tk tv : TE) : TE := fun σ H Q => ∀ p, H p = none → td σ (upd H p (.dK [])) fun x H1 => ∃ (a : Addr) (kvs : List (Key × V)), x = .ref a ∧ Rd H1 a (.dK kvs) ∧ a ≠ p ∧ H1 p = some (.dK []) ∧ kvs.length < sizeLine ∧
  ∀ q, upd H1 p (.dK kvs) q = none → tk σ (upd (upd H1 p (.dK kvs)) q (.dK [])) fun xk H2 => ∃ key, xk = kV key ∧ tv σ H2 fun v H3 => H3 p = some (.dK kvs) ∧ H3 q = some (.dK []) ∧ Q (.ref p) (upd (upd H3 q (.dK [(key, v)])) p (.dK (putK kvs key v)))
section
variable {X : Cx} {d k v : Expr} {td tk tv : TE} {pos : Pos}
theorem pe_star1 (hd : PE X d td) (hk : PE X k tk) (hv : PE X v tv) : PE X (.Dict [none, some k] [d, v] pos) (tStar1 td tk tv) := by
  constructor
  intro pins s σ H Q I h
  rw [arm_eval_Dict]
  refine wpAny_bind (wpAny_standAt ?_)
  show wpAny _ _ (dictDisplay [(none, do let x ← eval d X.env; standAt pos; pure x), (some (eval k X.env), do let x ← eval v X.env; standAt pos; pure x)]) _ _ s
  unfold dictDisplay
  simp only [List.forIn_cons, List.forIn_nil, List.isEmpty_nil, if_true, pure_bind]
  have hn := I.hok.fresh (Nat.le_refl s.heap.objs.size)
  have I1 := I.laid (a := s.heap.objs.size) (o := .dK []) (h' := s.heap.push { cls := .type "dict", data := .dict #[] }) (t' := s.toks) (fun _ _ q => Heap.get?_push_of_some _ q) (Nat.le_refl _) (dk_empty s.heap I.big)
  generalize ep : s.heap.objs.size = p at hn I1
  refine wpAny_bind (wpAny_bind (wpAny_bind (wpAny_alloc ?_)))
  rw [ep]
  refine wpAny_bind (wpAny_holding (wpAny_bind (thn (hd.run pins _ σ _ _ I1 (h _ hn)) ?_)))
  rintro u s2 ⟨x, H1, I2, rx, a, kvs, rfl, ha, hap, hp, hz, q2⟩
  obtain rfl : u = Value.ref a := rx
  refine wpAny_bind (wpAny_standAt (wpAny_pure ?_))
  obtain ⟨z1, hs1, vs1, r1, dd1⟩ := dk_of I2.hok hp
  cases r1
  obtain ⟨z2, hs2, vs2, r2, dd2⟩ := dk_rd I2.hok ha
  have nd2 : (vs2.map (·.1)).Nodup := let ⟨_, _, _, _, _, _, _, _, n⟩ := dd2; n
  have l2 := r2.length
  refine wpAny_bind (wpAny_onRaise (wpAny_tryCatch (wpAny_onRaise (wpAny_holding (merge_dict (Ne.symm hap) hs2 dd1 dd2 (by rw [List.length_nil, ← l2]; omega) fun h3 dp3 da3 sb3 => ?_)))))
  rw [merged_nil_of_nodup vs2 nd2] at dp3
  have he3 : ∃ q, h3.get? p = some q := let ⟨q, _, _, hq, _⟩ := dp3; ⟨q, hq⟩
  have I3 : L2.Inv X pins σ (upd H1 p (.dK kvs)) { s2 with heap := h3, toks := s2.toks } := d_write I2 (by rw [hp]; exact True.intro) sb3 he3 (dk_new z2 hs1 r2 dp3)
  refine wpAny_pure ?_
  dsimp only
  rw [if_neg (by simp)]
  refine wpAny_bind (wpAny_pure (wpAny_pure ?_))
  dsimp only
  refine wpAny_bind ?_
  rw [if_neg (by simp)]
  refine wpAny_bind (wpAny_holding ?_)
  show wpAny _ _ (subDict [(eval k X.env, do let x ← eval v X.env; standAt pos; pure x)]) _ _ _
  unfold subDict
  have hn3 := I3.hok.fresh (Nat.le_refl h3.objs.size)
  have I4 := I3.laid (a := h3.objs.size) (o := .dK []) (h' := h3.push { cls := .type "dict", data := .dict #[] }) (t' := s2.toks) (fun _ _ q => Heap.get?_push_of_some _ q) (Nat.le_refl _) (dk_empty h3 I3.big)
  refine wpAny_bind (wpAny_alloc ?_)
  generalize eq : h3.objs.size = q at hn3 I4
  have q4 := q2 q hn3
  refine wpAny_bind (wpAny_holding ?_)
  rw [if_pos (by simp)]
  unfold evalPairs
  refine wpAny_bind (wpAny_bind (thn (hk.run pins _ σ _ _ I4 q4) ?_))
  rintro uk s5 ⟨xk, H2, I5, rk, key, rfl, q5⟩
  refine wpAny_bind (wpAny_holding (wpAny_bind (thn (hv.run pins _ σ _ _ I5 q5) ?_)))
  rintro uv s6 ⟨xv, H3, I6, rv, hp6, hq6, q6⟩
  refine wpAny_bind (wpAny_standAt (wpAny_pure ?_))
  show wpAny _ _ (holding [uk, uv] (pure []) >>= _) _ _ _
  refine wpAny_bind (wpAny_holding (wpAny_pure (wpAny_pure ?_)))
  refine wpAny_holding ?_
  simp only [List.forIn_cons, List.forIn_nil]
  obtain ⟨z7, hs7, vs7, r7, dd7⟩ := dk_of I6.hok hp6
  obtain ⟨z8, hs8, vs8, r8, dd8⟩ := dk_of I6.hok hq6
  cases r8
  have isk : (mixKind X.prog X.w).is key uk = true := kV_is (P := X.prog) (w := X.w) rk
  have npq : p ≠ q := fun z => by
    rw [z, hq6] at hp6
    cases hp6
    rw [z] at hn3
    rw [upd_same] at hn3
    cases hn3
  refine wpAny_bind (wpAny_bind (wpAny_bind (wpAny_dictSet_pairs (knd := mixKind X.prog X.w) (k := key) isk dd8 (fun h7 d7 sb7 => ?_) (by simp))))
  have e7 : ∃ z, h7.get? q = some z := let ⟨z, _, _, hz, _⟩ := d7; ⟨z, hz⟩
  have e8 : stored ([] : List (Key × Value)) key uv = [(key, uv)] := rfl
  rw [e8] at d7
  have one : KV [(key, xv)] [(key, uv)] := .cons ⟨rfl, rv⟩ .nil
  have I7 : L2.Inv X pins σ (upd H3 q (.dK [(key, xv)])) { s6 with heap := h7, toks := s6.toks + 1 } := d_write I6 (by rw [hq6]; exact True.intro) sb7 e7 (dk_new (by show 1 ≤ sizeLine; decide) hs8 one d7)
  refine wpAny_pure (wpAny_pure (wpAny_pure (wpAny_pure ?_)))
  have hp7 : upd H3 q (.dK [(key, xv)]) p = some (.dK kvs) := by rw [upd_ne npq]; exact hp6
  obtain ⟨z9, hs9, vs9, r9, dd9⟩ := dk_of I7.hok hp7
  refine wpAny_bind (wpAny_onRaise (wpAny_holding (merge_dict npq hs8 dd9 d7 (by have := r9.length; simp only [List.length_singleton]; omega) fun h10 d10 _ sb10 => ?_)))
  have e10 : ∃ z, h10.get? p = some z := let ⟨z, _, _, hz, _⟩ := d10; ⟨z, hz⟩
  have st : merged vs9 [(key, uv)] = stored vs9 key uv := rfl
  rw [st] at d10
  have I10 : L2.Inv X pins σ (upd (upd H3 q (.dK [(key, xv)])) p (.dK (putK kvs key xv))) { s6 with heap := h10, toks := s6.toks + 1 } := d_write (s := { s6 with heap := h7, toks := s6.toks + 1 }) I7 (by rw [hp7]; exact True.intro) sb10 e10 (dk_new (by have := length_putK kvs key xv; omega) hs9 (r9.put key rv) d10)
  exact wpAny_pure (wpAny_pure ⟨.ref p, _, I10, rfl, q6⟩)
end
end DStar
set_option Elab.async false
set_option linter.all false
set_option maxRecDepth 100000
set_option maxHeartbeats 4000000
/-! defs, methods and classes that may raise -/
namespace Q
open PySem L2 PySem.Spec PyProof.Rows PySem.Calls PySem.OwnX
open Evl
/-- a def that may raise -/
structure ClX (P : Program) (w : World) (K : PySem.W.Frag) (mg : Str → Option Value) (base : Heap) (k : Nat) (x : Str) (sp : Sp) : Prop where
  ex : ∃ (f : Addr) (fd : FuncData) (ps : List Str), FnOk P w K mg base (L2.CX P w) k f fd ps sp ∧ mg x = some (.ref f) ∧ PySem.W.keepIn K (.ref f) = true ∧ Binds K fd ps []
/-- a method -/
structure Mt (P : Program) (w : World) (K : PySem.W.Frag) (mg : Str → Option Value) (base : Heap) (k : Nat) (C : Addr) (m : Str) (sp : Sp) : Prop where
  ex : ∃ (f : Addr) (fd : FuncData) (ps : List Str), Cls K C ∧ Meth K C m f ∧ FnOk P w K mg base CX0 k f fd ps sp ∧ Binds K fd ps []
/-- a method that may raise -/
structure MtX (P : Program) (w : World) (K : PySem.W.Frag) (mg : Str → Option Value) (base : Heap) (k : Nat) (C : Addr) (m : Str) (sp : Sp) : Prop where
  ex : ∃ (f : Addr) (fd : FuncData) (ps : List Str), Cls K C ∧ Meth K C m f ∧ FnOk P w K mg base (L2.CX P w) k f fd ps sp ∧ Binds K fd ps []
/-- a class whose making may raise -/
structure MqX (P : Program) (w : World) (K : PySem.W.Frag) (mg : Str → Option Value) (base : Heap) (k : Nat) (C : Addr) (sp : Sp) : Prop where
  ex : ∃ (f : Addr) (fd : FuncData) (ps : List Str), Mk K C f ∧ FnOk P w K mg base (L2.CX P w) k f fd ps sp ∧ Binds K fd ps []
/-- a property -/
structure Pq (P : Program) (w : World) (K : PySem.W.Frag) (mg : Str → Option Value) (base : Heap) (k : Nat) (C : Addr) (f : Str) (sp : Sp) : Prop where
  ex : ∃ (p g : Addr) (fd : FuncData) (ps : List Str), Cls K C ∧ PropOf K C f p g ∧ FnOk P w K mg base CX0 k g fd ps sp ∧ Binds K fd ps []
/-- what is raised goes on as E -/
abbrev Goes (X : Cx) (E : XK) : Prop := Passes (L2.CX X.prog X.w) X E
section
variable {X : Cx} {k j : Nat} {x m f : Str} {C : Addr} {sp : Sp} {p pos apos : Pos} {e o : Expr} {es : List Expr} {t : TA} {ta : TE} {E : XK}
theorem goes_of {W : WX} (tk : Takes X W) (h : ∀ cls d σ H, E cls d H → W cls d σ H) : Goes X E := passes_call tk h
theorem pe_clX (c : ClX X.prog X.w X.K X.mg X.base k x sp) (go : Goes X E) (hr : Room j X.A) (hk : k ≤ j) (hg : Gl X x) (ha : PA X (e :: es) t)
    (hdb : (x == ("__debug__" : Str)) = false := by decide) (he : starEach (e :: es) X.env = (false, eval e X.env) :: starEach es X.env := by rfl) (hpl : (backTo pos (starEach es X.env)).any (·.1) = false := by rfl) :
    PE X (.Call (.Name x p) (e :: es) [] pos) (tCall sp [] E t) := by
  obtain ⟨g, fd, ps, F, hm, kp, b⟩ := c.ex
  exact pe_call F (hr.mono hk) hg hm kp b .nil go ha hdb he hpl
theorem pe_mt0 {pl : Sem Bool} (c : Mt X.prog X.w X.K X.mg X.base k C m sp) (hr : Room j X.A) (hk : k ≤ j) (he : PE X o ta)
    (ht : eval (.Call (.Attribute o m apos) [] [] pos) X.env = (do
      let z ← eval o X.env
      standAt apos.atName
      let (g, front) ← holding [z] (getMethod z m pl)
      callWith pos g front (backTo pos (starEach [] X.env)) (backToKw pos (keywordEach [] X.env))) := by rfl) :
    PE X (.Call (.Attribute o m apos) [] [] pos) (tMeth C m sp [] E0 ta tNil) := by
  obtain ⟨g, fd, ps, h1, h2, F, b⟩ := c.ex
  exact pe_meth0 (pl := pl) he h1 h2 F (hr.mono hk) b .nil pass0 ht
theorem pe_mtX {pl : Sem Bool} (c : MtX X.prog X.w X.K X.mg X.base k C m sp) (go : Goes X E) (hr : Room j X.A) (hk : k ≤ j) (he : PE X o ta) (ha : PA X (e :: es) t)
    (hst : starEach (e :: es) X.env = (false, eval e X.env) :: starEach es X.env := by rfl) (hpl : (backTo pos (starEach es X.env)).any (·.1) = false := by rfl)
    (hm : eval (.Call (.Attribute o m apos) (e :: es) [] pos) X.env = (do
      let z ← eval o X.env
      standAt apos.atName
      let (g, front) ← holding [z] (getMethod z m pl)
      callWith pos g front (backTo pos (starEach (e :: es) X.env)) (backToKw pos (keywordEach [] X.env))) := by rfl) :
    PE X (.Call (.Attribute o m apos) (e :: es) [] pos) (tMeth C m sp [] E ta t) := by
  obtain ⟨g, fd, ps, h1, h2, F, b⟩ := c.ex
  exact pe_meth (pl := pl) he h1 h2 F (hr.mono hk) b .nil go ha hst hpl hm
theorem pe_mqX (c : MqX X.prog X.w X.K X.mg X.base k C sp) (go : Goes X E) (hr : Room j X.A) (hk : k + 1 ≤ j) (hg : Gl X x) (hm : X.mg x = some (.ref C)) (ha : PA X (e :: es) t) (hdb : (x == ("__debug__" : Str)) = false := by decide)
    (he : starEach (e :: es) X.env = (false, eval e X.env) :: starEach es X.env := by rfl) (hpl : (backTo pos (starEach es X.env)).any (·.1) = false := by rfl) : PE X (.Call (.Name x p) (e :: es) [] pos) (tMake C sp [] E t) := by
  obtain ⟨g, fd, ps, M, F, b⟩ := c.ex
  exact pe_make M F (hr.mono hk) hg hm b .nil go ha hdb he hpl
theorem pe_pq (c : Pq X.prog X.w X.K X.mg X.base k C f sp) (hr : Room j X.A) (hk : k + 1 ≤ j) (he : PE X e ta) (hab : attributeBase e f X.env (eval e X.env) = eval e X.env := by rfl) : PE X (.Attribute e f pos) (tProp C sp [] E0 ta) := by
  obtain ⟨q, g, fd, ps, h1, h2, F, b⟩ := c.ex
  exact pe_prop he h1 h2 F (hr.mono hk) b .nil pass0 hab
/-- a thing that isn't written any more stands fast -/
def tFast (te : TE) : TE := fun σ H Q => te σ H fun v H1 => ∃ a u, v = .ref a ∧ H1 a = some u ∧ Mut (some u) ∧ ∀ od, Q v (upd H1 a (.frz od u))
theorem pe_fast (h : PE X e ta) : PE X e (tFast ta) := by
  refine ⟨fun pins s σ H Q I hw => thn (h.run pins s σ H _ I hw) fun v s1 ⟨z, H1, I1, r, a, u, ez, ha, mu, q⟩ => ?_⟩
  obtain ⟨od, I2⟩ := I1.lock ha mu
  exact ⟨z, _, I2, r, q od⟩
/-- an own error without an __init__ of its own, over ValueError -/
structure ErT (K : PySem.W.Frag) (mg : Str → Option Value) (x : Str) (C : Addr) (bmB : List Value) : Prop where
  g : mg x = some (.ref C)
  q : PySem.W.excIn K C bmB "BaseException.__new__" = true
  kC : PySem.W.keepIn K (.ref C) = true
  be : PySem.W.subIn K (.ref C) (.type "BaseException") = some true
  ty : PySem.W.typeIn K (.ref C) = some (.type "type")
end
end Q
set_option Elab.async false
set_option linter.all false
set_option maxRecDepth 100000
set_option maxHeartbeats 4000000
/-! in and len of an own class; plain values; keys walked; the errors -/
namespace Q
open PySem L2 PySem.Spec PyProof.Rows PySem.Calls PySem.OwnX
open Evl
section
variable {X : Cx} {pins : List (Addr × Obj)} {σ : L2.St} {H : Hp} {s : Shared} {n k j : Nat} {C f : Addr} {fd : FuncData} {ps : List Str} {sp : Sp} {A1 : Around} {m : Str}
theorem call_own {EO : Value → Shared → Prop} {vs : List V} {us : List Value} {Q : VK} (sb : Sub X n A1) (F : FnOk X.prog X.w X.K X.mg X.base CX0 n f fd ps sp) (hb : Binds X.K fd ps []) (I : Inv X pins σ H s) (r : Vals vs us) (hsp : sp vs H Q E0) :
    wpAny (model X.prog X.w) A1 (call (.ref f) us) (EP X pins σ Q) EO s := by
  have e0 : Env0 X.prog X.w X.K X.mg X.base A1 X.stack s H := by
    have e := I.env0
    exact ⟨by rw [sb.fr]; exact e.frames, e.mod, e.bs, e.bsz, e.funs, e.frf, e.hok, e.bare⟩
  have hl := F.len _ _ _ _ hsp
  refine wpAny_call (codeAny_mono (F.run A1 X.stack s H ⟨us, []⟩ us vs Q E0 sb.room e0 (by
    have := hb s us I.kIn (by simpa using r.length.symm.trans hl)
    simpa using this) r hsp) fun r s' hq => ?_)
  cases r with
  | error e => exact False.elim hq
  | ok fl =>
    cases fl with
    | ret u =>
      obtain ⟨v, H', I', rv, q⟩ := I.after hq
      exact ⟨v, H', I', rv, q⟩
    | next => exact False.elim hq
    | brk => exact False.elim hq
    | cont => exact False.elim hq
/-- an instance of the class stands at a -/
def InsAt (H : Hp) (C a : Addr) : Prop := ∃ dx fs, H a = some (.ins C dx fs)
theorem ins_at (I : Inv X pins σ H s) {a : Addr} (h : InsAt H C a) : ∃ ox od, PySem.W.InstAt s.heap a ox C od := by
  obtain ⟨dx, fs, ha⟩ := h
  obtain ⟨mA, J, _⟩ := ins_get I.hok ha
  obtain ⟨od, J, _⟩ := J.look
  exact ⟨_, _, J⟩
/-- x not in o -/
def rNotInOwn (C : Addr) (sp : Sp) : R2 := fun x y H Q => ∃ a, y = .ref a ∧ InsAt H C a ∧ sp [.ref a, x] H (fun v H' => ∃ b, v = .bl b ∧ Q (.bl (!b)) H') E0
theorem op_notInOwn (c : Mt X.prog X.w X.K X.mg X.base k C "__contains__" sp) (hr : Room j X.A) (hk : k ≤ j) : OpR X (compareOp .NotIn) (rNotInOwn C sp) := by
  intro pins s σ H x y v u Q I rx ry h
  obtain ⟨a, rfl, ha, h⟩ := h
  cases ry
  obtain ⟨f, fd, ps, h1, h2, F, b⟩ := c.ex
  obtain ⟨ox, od, J⟩ := ins_at I ha
  obtain ⟨m, hF⟩ := I.fr
  refine PySem.W.notIn_K hF I.ok.mod.kin J h2.at_ h2.fn ?_
  refine wpAny_mono (call_own (⟨hr.mono hk, rfl⟩ : Sub X k X.A) F b I (vs := [.ref a, x]) (.cons rfl (.cons rx .nil)) h) (fun r s' q => ?_) fun _ _ z => z
  obtain ⟨z, H', I', rz, bb, rfl, q⟩ := q
  cases rz
  exact wpAny_truthy_bool ⟨.bl (!bb), H', I', rfl, q⟩
/-- len(o) -/
def rLenOwn (C : Addr) (sp : Sp) : List V → Hp → VK → Prop := fun xs H Q => ∃ a, xs = [.ref a] ∧ InsAt H C a ∧ sp [.ref a] H (fun v H' => ∃ n : Nat, v = .int (n : Int) ∧ (n : Int) < 2 ^ 63 ∧ Q (.int (n : Int)) H') E0
theorem len_own {EO : Value → Shared → Prop} {Q : VK} {a : Addr} {A1 : Around} (c : Mt X.prog X.w X.K X.mg X.base k C "__len__" sp) (sb : Sub X (k + 1) A1) (I : Inv X pins σ H s) (h : rLenOwn C sp [.ref a] H Q) : wpAny (model X.prog X.w) A1 (call (.builtin "len") [.ref a]) (EP X pins σ Q) EO s := by
  obtain ⟨a', e, ha, h⟩ := h
  cases e
  obtain ⟨f, fd, ps, h1, h2, F, b⟩ := c.ex
  obtain ⟨ox, od, J⟩ := ins_at I ha
  obtain ⟨m, hF⟩ := I.fr
  refine PySem.W.len_K hF I.ok.mod.kin J h2.at_ h2.fn ?_
  refine wpAny_mono (call_own sb.in1 F b I (vs := [.ref a]) (.cons rfl .nil) h) (fun r s' q => ?_) fun _ _ z => z
  obtain ⟨z, H', I', rz, n, rfl, hn, q⟩ := q
  obtain ⟨t, rfl⟩ := rz
  exact ⟨⟨by omega, hn⟩, .int (n : Int), H', Inv.tok I' _, ⟨_, rfl⟩, q⟩
theorem cr_lenOwn (c : Mt X.prog X.w X.K X.mg X.base k C "__len__" sp) (hr : Room j X.A) (hk : k + 1 ≤ j) : CallR X (.builtin "len") (rLenOwn C sp) := by
  intro pins s σ H xs us Q I rv h
  obtain ⟨a, rfl, _⟩ := id h
  obtain ⟨u, rfl, ru⟩ := rv.one
  cases ru
  exact len_own c ⟨hr.mono hk, rfl⟩ I h
/-- len(d) -/
theorem d_lenR : CallR X (.builtin "len") (fun xs H Q => ∃ a kvs, xs = [V.ref a] ∧ Rd H a (.dK kvs) ∧ Q (.int kvs.length) H) := by
  intro pins s σ H xs us Q I r h
  obtain ⟨a, kvs, rfl, ha, q⟩ := h
  obtain ⟨u, rfl, ru⟩ := vals1 r
  cases ru
  exact d_len I ha fun t s' I' => ⟨.int kvs.length, H, I', ⟨t, rfl⟩, q⟩
end
/-- an expression that is never reached -/
def tNo : TE := fun _ _ _ => False
theorem pe_never {X : Cx} {e : Expr} : PE X e tNo := ⟨fun pins s σ H Q I h => h.elim⟩
/-! plain values and their kinds -/
inductive Kd where
  | non | bl | int | str | lst | tup | dct
def Kd.nm : Kd → String
  | .non => "NoneType" | .bl => "bool" | .int => "int" | .str => "str" | .lst => "list" | .tup => "tuple" | .dct => "dict"
inductive Pv (H : Hp) : V → Kd → Prop where
  | non : Pv H .non .non
  | bl (b : Bool) : Pv H (.bl b) .bl
  | int (i : Int) : Pv H (.int i) .int
  | str (z : Str) : Pv H (.str z) .str
  | lst {a : Addr} {xs : List V} (h : H a = some (.lst xs)) : Pv H (.ref a) .lst
  | tup {a : Addr} {xs : List V} (h : H a = some (.tup xs)) : Pv H (.ref a) .tup
  | dct {a : Addr} {o : Obj} {kvs : List (Key × V)} (h : H a = some (.frz o (.dK kvs))) : Pv H (.ref a) .dct
theorem Pv.by {H H' : Hp} {v : V} {k : Kd} (h : Pv H v k) (e : ∀ a o, H a = some o → (∀ ps, o ≠ .tbl ps) → H' a = some o) : Pv H' v k := by
  cases h with
  | non => exact .non
  | bl b => exact .bl b
  | int i => exact .int i
  | str z => exact .str z
  | lst h => exact .lst (e _ _ h fun _ z => nomatch z)
  | tup h => exact .tup (e _ _ h fun _ z => nomatch z)
  | dct h => exact .dct (e _ _ h fun _ z => nomatch z)
theorem Pv.mono {H H' : Hp} (e : Ex H H') {v : V} {k : Kd} (h : Pv H v k) : Pv H' v k := h.by fun _ _ q _ => e _ _ q
theorem Pv.ty {K : PySem.W.Frag} {H : Hp} {v : V} {k : Kd} (h : Pv H v k) : TyX K H v (.type k.nm) := by
  cases h with
  | non => exact .base .non
  | bl b => exact .base (.bl b)
  | int i => exact .base (.int i)
  | str z => exact .base (.str z)
  | lst h => exact .base (.lst h)
  | tup h => exact .base (.tup h)
  | dct h => exact .fDict h
/-- isinstance(v, T) -/
def Kd.is (k : Kd) (T : String) : Bool := k.nm == T || (k.nm == "bool" && T == "int")
theorem kit_kd {K : PySem.W.Frag} {T : String} (h : T = "int" ∨ T = "bool" ∨ T = "str" ∨ T = "tuple" ∨ T = "dict") (k : Kd) : PySem.W.kitOne K (.type k.nm) (.type T) = some (k.is T) := by
  rcases h with rfl | rfl | rfl | rfl | rfl <;> cases k <;> exact kit_ty (by decide +kernel)
/-- no plain value is of the class -/
def NoI (K : PySem.W.Frag) (C : Addr) : Prop := ∀ k : Kd, PySem.W.kitOne K (.type k.nm) (.ref C) = some false
section
variable {K : PySem.W.Frag} {σ : L2.St} {H : Hp} {ta : TE} {v : V} {k : Kd} {C : Addr}
theorem ev_isT {T : String} (hT : T = "int" ∨ T = "bool" ∨ T = "str" ∨ T = "tuple" ∨ T = "dict") (h : Ev ta σ H v) (p : Pv H v k) : Ev (tCB (rIsi K) (tCons ta (tCons (tC (.ty T)) tNil))) σ H (.bl (k.is T)) :=
  ev_cb (ea_cons h (ea_cons ev_c ea_nil)) fun H1 e1 Q q => ⟨_, _, _, _, _, rfl, .ty _, (p.mono e1).ty, kit_kd hT k, q H1 (Ex.refl _)⟩
theorem ev_isNo (n : NoI K C) (h : Ev ta σ H v) (p : Pv H v k) : Ev (tCB (rIsi K) (tCons ta (tCons (tC (.ref C)) tNil))) σ H (.bl false) :=
  ev_cb (ea_cons h (ea_cons ev_c ea_nil)) fun H1 e1 Q q => ⟨_, _, _, _, _, rfl, .own _, (p.mono e1).ty, n k, q H1 (Ex.refl _)⟩
theorem ev_isYes (c : C8.InsC K C) {a dx : Addr} {fs : List (Str × V)} (h : Ev ta σ H (.ref a)) (ha : H a = some (.ins C dx fs)) : Ev (tCB (rIsi K) (tCons ta (tCons (tC (.ref C)) tNil))) σ H (.bl true) :=
  ev_cb (ea_cons h (ea_cons ev_c ea_nil)) fun H1 e1 Q q => ⟨_, _, _, _, _, rfl, .own _, .base (.ins (e1 _ _ ha) c.cl c.ha c.hn c.htk c.hm), c.me, q H1 (Ex.refl _)⟩
/-! keys -/
def keyD : Key → PyData
  | .inl i => .int i
  | .inr s => .str s
theorem td_key {H : Hp} (k : Key) : TD1 H (kV k) (keyD k) := by
  cases k with
  | inl i => exact TDs.int i .nil
  | inr s => exact TDs.str s .nil
theorem key_td {H : Hp} {v : V} {k : Key} (h : TD1 H v (keyD k)) : v = kV k := by
  cases k with
  | inl i => exact TD1.int h
  | inr s => exact TD1.str h
theorem ei_keys {d : Addr} {o : Obj} {kvs : List (Key × V)} (h : Ev ta σ H (.ref d)) (hd : H d = some (.frz o (.dK kvs))) : EvI (iKeys ta) σ H (kvs.map fun kv => keyD kv.1) := fun H1 e R q => h H1 e _ fun H2 e2 => by
  have hd2 := (e.trans e2) _ _ hd
  refine ⟨d, o, rfl, .inl ⟨kvs, hd2, q _ H2 e2 ⟨_, _, by rw [List.length_map]; exact walk_keys (d := d) (o := o) (kvs := kvs), fun H' e' => e' _ _ hd2, fun i x H3 H4 hi e3 y => ?_⟩⟩⟩
  obtain ⟨rfl, k, v, hk, rfl⟩ := y
  exact ⟨Ex.refl _, keyD k, by rw [List.getElem?_map, hk]; rfl, td_key k⟩
end
/-! errors -/
def veTail : List Value := ["ValueError", "Exception", "BaseException", "object"].map Value.type
structure ErrE (nm : Str) (K : PySem.W.Frag) (mg : Str → Option Value) (C : Addr) : Prop where
  x : PySem.W.excIn K C veTail "ValueError.__new__" = true
  g : mg nm = some (.ref C)
  kC : PySem.W.keepIn K (.ref C) = true
  be : PySem.W.subIn K (.ref C) (.type "BaseException") = some true
  typ : PySem.W.typeIn K (.ref C) = some (.type "type")
def fldA (f : Str) (vs : List V) : List (Str × V) := match vs with | [v] => [(f, v)] | _ => []
structure NumE (nm f : Str) (P : Program) (w : World) (K : PySem.W.Frag) (mg : Str → Option Value) (C : Addr) : Prop where
  g : mg nm = some (.ref C)
  t : ∃ fI newId B tl, OwnTxt K C fI tl newId ∧ (∃ initId bmF, ExcBaseFacts B newId initId bmF) ∧ Behind B tl ∧ Keeps P w K C fI 1 (fldA f)
  fr : PySem.W.findIn K (.ref C) f = some none
/-- an error of the class C flies, with v as its f -/
def Rz (C : Addr) (f : Str) (E : XK) (H : Hp) (v : V) : Prop := ∀ d H', H' d = some (.xd [(f, v)]) → Ex H H' → E (.ref C) (some d) H'
/-- an error of the class C flies -/
def Rs (C : Addr) (E : XK) (H : Hp) : Prop := ∀ H', Ex H H' → E (.ref C) none H'
theorem Rz.mono {C : Addr} {f : Str} {E : XK} {H H' : Hp} {v : V} (h : Rz C f E H v) (e : Ex H H') : Rz C f E H' v := fun d H2 h2 e2 => h d H2 h2 (e.trans e2)
theorem Rs.mono {C : Addr} {E : XK} {H H' : Hp} (h : Rs C E H) (e : Ex H H') : Rs C E H' := fun H2 e2 => h H2 (e.trans e2)
/-- the module's names -/
structure TN (mg : Str → Option Value) : Prop where
  isi : mg "isinstance" = none
  int : mg "int" = none
  bool : mg "bool" = none
  str : mg "str" = none
  tuple : mg "tuple" = none
  dict : mg "dict" = none
  list : mg "list" = none
  len : mg "len" = none
  all : mg "all" = none
  sorted : mg "sorted" = none
  range : mg "range" = none
  max : mg "max" = none
  min : mg "min" = none
  repr : mg "repr" = none
  gcd : mg "gcd" = some (.builtin "math.gcd")
end Q
set_option Elab.async false
set_option linter.all false
set_option maxRecDepth 100000
set_option maxHeartbeats 4000000
/-! plain questions: whole numbers, names, fractions, the kind of a value -/
namespace Q
open PySem L2 PySem.Spec PyProof.Rows PySem.Calls PySem.OwnX
open Evl
abbrev sIsName : Stmt := top 14
abbrev sIsFr : Stmt := top 15
abbrev sKov : Stmt := top 126
abbrev sChkT : Stmt := top 127
def Kd.isInt : Kd → Bool
  | .int => true
  | _ => false
def isLow (c : Nat) : Bool := decide (97 ≤ c) && decide (c ≤ 122)
def nameB (z : Str) : Bool := decide (1 ≤ z.length ∧ z.length ≤ 20) && z.cps.toList.all isLow
def isSign (c : Nat) : Bool := decide (32 ≤ c) && decide (c ≤ 126)
def textB (z : Str) : Bool := decide (z.length ≤ 40) && z.cps.toList.all isSign
/-- the kind that a plain value has -/
inductive Kov : V → Kd → V → Prop where
  | int (i : Int) : Kov (.int i) .int (.str "number")
  | str (z : Str) (h : z.cps.size ≤ 1000) : Kov (.str z) .str (if textB z = true then .str "text" else .non)
  | no {v : V} {k : Kd} (h1 : k ≠ .int) (h2 : k ≠ .str) : Kov v k .non
def spIsInt : Sp := fun vs H Q _ => ∃ (v : V) (k : Kd), vs = [v] ∧ Pv H v k ∧ ∀ H', Ex H H' → Q (.bl k.isInt) H'
def spIsName : Sp := fun vs H Q _ => ∃ (v : V) (k : Kd) (b : Bool), vs = [v] ∧ Pv H v k ∧ ((k ≠ .str ∧ b = false) ∨ ∃ z : Str, v = .str z ∧ z.cps.size ≤ 1000 ∧ b = nameB z) ∧ ∀ H', Ex H H' → Q (.bl b) H'
def spIsFr : Sp := fun vs H Q _ => ∃ (v : V) (k : Kd), vs = [v] ∧ Pv H v k ∧ k ≠ .tup ∧ ∀ H', Ex H H' → Q (.bl false) H'
def spKov : Sp := fun vs H Q _ => ∃ (v : V) (k : Kd) (r : V), vs = [v] ∧ Pv H v k ∧ Kov v k r ∧ ∀ H', Ex H H' → Q r H'
def spChkT (C CT : Addr) : Sp := fun vs H Q E => ∃ v, vs = [v] ∧ ((∃ a dx fs, v = .ref a ∧ H a = some (.ins C dx fs) ∧ ∀ H', Ex H H' → Q .non H') ∨ ∃ k, Pv H v k ∧ Rs CT E H)
section
variable {K : PySem.W.Frag} {σ : L2.St} {H : Hp} {te ta tb tc : TE} {E : XK} {z : Str} {D : Ends} {u : TS}
theorem lt_one (a b : Nat) : ([a] < [b]) ↔ a < b := by
  rw [List.cons_lt_cons_iff]
  simp
def rLeS : L2.R2 := fun x y H Q => ∃ i j, x = V.str i ∧ y = V.str j ∧ Q (V.bl !decide (j.cps.toList < i.cps.toList)) H
def rLenStr : List V → Hp → VK → Prop := fun xs H Q => ∃ z : Str, xs = [V.str z] ∧ z.length ≤ sizeLine ∧ Q (V.int (z.length : Int)) H
/-- between two signs -/
theorem ev_betw {i : Nat} {c lo hi : Nat} {l h : Str} (hl : l.cps.toList = [lo]) (hh : h.cps.toList = [hi]) (hv : σ[i]? = some (some (.str ⟨#[c]⟩))) : Ev (tChain rLeS rLeS (tC (.str l)) (tVar i) (tC (.str h))) σ H (.bl (decide (lo ≤ c) && decide (c ≤ hi))) := fun H1 e Q q => ⟨_, hv, l, ⟨#[c]⟩, rfl, rfl, _, rfl, by
  have e1 : (!decide (((⟨#[c]⟩ : Str)).cps.toList < l.cps.toList)) = decide (lo ≤ c) := by
    rw [hl, show ((⟨#[c]⟩ : Str)).cps.toList = [c] from rfl, ← decide_not]
    refine decide_eq_decide.mpr ?_
    rw [lt_one]
    omega
  have e2 : (!decide (h.cps.toList < ((⟨#[c]⟩ : Str)).cps.toList)) = decide (c ≤ hi) := by
    rw [hh, show ((⟨#[c]⟩ : Str)).cps.toList = [c] from rfl, ← decide_not]
    refine decide_eq_decide.mpr ?_
    rw [lt_one]
    omega
  rw [e1]
  by_cases h1 : lo ≤ c
  · rw [decide_eq_true h1, if_pos rfl]
    rw [decide_eq_true h1, Bool.true_and] at q
    refine ⟨⟨#[c]⟩, h, rfl, rfl, ?_⟩
    rw [e2]
    exact q H1 (Ex.refl _)
  · rw [decide_eq_false h1, if_neg Bool.false_ne_true]
    rw [decide_eq_false h1, Bool.false_and] at q
    exact q H1 (Ex.refl _)⟩
theorem ev_lenStr (h : Ev te σ H (.str z)) (hz : z.cps.size ≤ 1000) : Ev (tCB rLenStr (tCons te tNil)) σ H (.int (z.length : Int)) := ev_cb (ea_cons h ea_nil) fun H1 e Q q => ⟨z, rfl, Nat.le_trans (show z.length ≤ 1000 from hz) (by decide), q H1 (Ex.refl _)⟩
theorem vals_of : ∀ {xs : List V} {us : List Value}, xs.length = us.length → (∀ (j : Nat) x u, xs[j]? = some x → us[j]? = some u → RelV x u) → Vals xs us
  | [], [], _, _ => .nil
  | x :: xs, u :: us, h, r => .cons (r 0 x u rfl rfl) (vals_of (by simpa using h) fun j a b ha hb => r (j + 1) a b (by simpa using ha) (by simpa using hb))
  | [], _ :: _, h, _ => nomatch h
  | _ :: _, [], h, _ => nomatch h
def signD (c : Nat) : PyData := .str ⟨#[c]⟩
/-- the signs of a text, walked -/
theorem ei_str (h : Ev te σ H (.str z)) : EvI (iStr te) σ H (z.cps.toList.map signD) := fun H1 e R q => h H1 e _ fun H2 e2 => ⟨z, rfl, q _ H2 e2 ⟨_, _, by
  rw [List.length_map, Array.length_toList]
  exact walk_str, fun _ _ => trivial, fun i x H3 H4 hi e3 y => by
    obtain ⟨rfl, c, hc, rfl⟩ := y
    exact ⟨Ex.refl _, signD c, by rw [List.getElem?_map, Array.getElem?_toList, hc]; rfl, TDs.str _ .nil⟩⟩⟩
theorem ed_bool {b : Bool} (h : Ev te σ H (.bl b)) : EvD te σ H (.bool b) := ed_of h (TDs.bl b .nil)
theorem ev_allLcB {α : Type} {enc : α → PyData} {es : List α} {g : TG} {vs : List Nat} {wi : L2.TI} (F : α → Bool) (h : EvI wi σ H (es.map enc)) (hz : es.length ≤ 40000) (hs : ∀ e ∈ es, Turn1 g tYes te vs σ H enc (fun _ => true) (fun e => PyData.bool (F e)) e) : Ev (tCB (rAll K) (tCons (tLc wi g tYes te vs) tNil)) σ H (.bl (es.all F)) := by
  have z := eds_it (te := te) (fun _ => true) (fun e => PyData.bool (F e)) h hz hs
  rw [filt_all] at z
  have e : es.map (fun e => PyData.bool (F e)) = (es.map F).map PyData.bool := by rw [List.map_map]; rfl
  rw [e] at z
  refine ev_is (ev_all z) ?_
  congr 1
  rw [List.all_map]
  rfl
theorem q_yes {t : TT} {tu : TS} (h : EvT t σ H true) (k : ∀ H1, Ex H H1 → tu { D with nx := u D } σ H1) : tSeq (tIfS t tu tNext) u D σ H := q_when h (fun _ => k) fun z => nomatch z
theorem ev_chainB {n m l : Int} (ha : Ev ta σ H (.int n)) (hb : Ev tb σ H (.int m)) (hc : Ev tc σ H (.int l)) : Ev (tChain (rI0 fun i j => .bl (decide (i ≤ j))) (rI0 fun i j => .bl (decide (i ≤ j))) ta tb tc) σ H (.bl (decide (n ≤ m ∧ m ≤ l))) := fun H1 e Q q =>
  ha H1 e _ fun H2 e2 => hb H2 (e.trans e2) _ fun H3 e3 => ⟨n, m, rfl, rfl, _, rfl, by
    refine ite2 (fun c => ?_) (fun c => ?_)
    · refine hc H3 ((e.trans e2).trans e3) _ fun H4 e4 => ⟨m, l, rfl, rfl, ?_⟩
      have z : decide (m ≤ l) = decide (n ≤ m ∧ m ≤ l) := decide_eq_decide.mpr ⟨fun h => ⟨of_decide_eq_true c, h⟩, fun h => h.2⟩
      show Q (.bl (decide (m ≤ l))) H4
      rw [z]
      exact q H4 ((e2.trans e3).trans e4)
    · have z : decide (n ≤ m ∧ m ≤ l) = false := decide_eq_false fun h => no_dec c h.1
      rw [z] at q
      exact q H3 (e2.trans e3)⟩
end
section
variable {P : Program} {w : World} {K : PySem.W.Frag} {mg : Str → Option Value} {base : Heap}
theorem scIsInt : FnScope ["value"] ["value"] (defScope sIsInt) := ⟨rfl, rfl, rfl, by decide +kernel, rfl, by decide +kernel, by decide +kernel⟩
theorem ok_isint {f : Addr} {fd : FuncData} (F : Fun K "is_integer" "is_integer" sIsInt f fd) (T : TN mg) : FnOk P w K mg base CX0 1 f fd ["value"] spIsInt := by
  refine F.ok scIsInt (fun vs H Q E h => ?_) (fun cdv A outer s H vs Q E hr h => ?_)
  · obtain ⟨v, k, rfl, _⟩ := h
    rfl
  · obtain ⟨v, k, rfl, p, q⟩ := h
    refine ⟨_, (pss_one (ps_ret (pe_and ((pe_callB call_isi (by rfl) T.isi PyProof.Rows.boot_isinstance (pa_cons (pv 0) (pa_cons (pe_bltn (v := .ty "int") (by rfl) T.int (by decide +kernel) rfl) pa_nil)))) (pe_one (pe_not ((pe_callB call_isi (by rfl) T.isi PyProof.Rows.boot_isinstance (pa_cons (pv 0) (pa_cons (pe_bltn (v := .ty "bool") (by rfl) T.bool (by decide +kernel) rfl) pa_nil))))))))), ?_⟩
    refine s_ret (ev_is (ev_andV (ev_isT (.inl rfl) (ev_var rfl) p) fun _ => ev_notV (ev_isT (.inr (.inl rfl)) (ev_var rfl) p)) ?_) fun H1 e1 => q H1 e1
    cases k <;> decide
theorem scIsName : FnScope ["value", "letter"] ["value"] (defScope sIsName) := ⟨rfl, rfl, rfl, by decide +kernel, rfl, by decide +kernel, by decide +kernel⟩
abbrev nmIsName : List Str := ["value", "letter"]
theorem ok_isname {f : Addr} {fd : FuncData} (F : Fun K "is_name" "is_name" sIsName f fd) (T : TN mg) : FnOk P w K mg base CX0 1 f fd ["value"] spIsName := by
  refine F.ok scIsName (fun vs H Q E h => ?_) (fun cdv A outer s H vs Q E hr h => ?_)
  · obtain ⟨v, k, b, rfl, _⟩ := h
    rfl
  · obtain ⟨v, k, b, rfl, p, h, q⟩ := h
    refine ⟨_, (pss_cons (ps_if (pw_or (pt_not (pt_val ((pe_callB call_isi (by rfl) T.isi PyProof.Rows.boot_isinstance (pa_cons (pv 0) (pa_cons (pe_bltn (v := .ty "str") (by rfl) T.str (by decide +kernel) rfl) pa_nil)))))) (pw_or1 (pt_not (pt_chain op_le op_le pe_int (pe_callB call_len_str (by rfl) T.len PySem.boot_len (pa_cons (pv 0) pa_nil)) pe_int)))).pt (pss_one (ps_ret pe_bl)) pss_nil)
      (pss_one (ps_ret (pe_callB (cr_all rfl) (by rfl) T.all (by decide +kernel) (pa_cons (pe_lc (own := [("letter", 1)]) (g := gName 1) (by rfl) scIsName.nd (pi_str (pv 0))
        (blkOk_by (own := [("letter", 1)]) (N := nmIsName) (sc := defScope sIsName) (by decide +kernel))
        (fun _ _ _ _ _ => by exact (pg_name (i := 1) scIsName.nd rfl (Or.inl rfl))) (fun _ _ _ _ _ => pts_nil)
        (te := (tChain rLeS rLeS (tC (.str "a")) (tVar 1) (tC (.str "z")))) (fun _ _ _ _ _ => by exact (pe_chain op_le_str op_le_str pe_str (pv 1) pe_str))) pa_nil))))), ?_⟩
    have ty : EvT (tNot (tB (tCB (rIsi K) (tCons (tVar 0) (tCons (tC (.ty "str")) tNil))))) [some v, none] H (!k.is "str") := et_not (et_B (ev_isT (.inr (.inr (.inl rfl))) (ev_var rfl) p))
    rcases h with ⟨hk, rfl⟩ | ⟨z, rfl, hz, rfl⟩
    · have e : (!k.is "str") = true := by cases k <;> first | decide | exact absurd rfl hk
      rw [e] at ty
      exact q_yes (et_is (et_or (b := true) ty fun z => nomatch z) rfl) fun H1 e1 => s_ret ev_c fun H2 e2 => q H2 (e1.trans e2)
    · cases p
      have len : EvT (tNot (tTest (tChain (rI0 fun i j => V.bl (decide (i ≤ j))) (rI0 fun i j => V.bl (decide (i ≤ j))) (tC (V.int 1)) (tCB rLenStr (tCons (tVar 0) tNil)) (tC (V.int 20))))) [some (.str z), none] H (!decide ((1 : Int) ≤ (z.length : Int) ∧ (z.length : Int) ≤ 20)) := et_not (et_test (ev_chainB ev_c (ev_lenStr (ev_var rfl) hz) ev_c))
      have e : (!(Kd.is .str "str")) = false := by decide
      rw [e] at ty
      by_cases c : 1 ≤ z.length ∧ z.length ≤ 20
      · have c' : (1 : Int) ≤ (z.length : Int) ∧ (z.length : Int) ≤ 20 := by omega
        rw [decide_eq_true c'] at len
        refine q_not (et_is (et_or ty fun _ => len) rfl) fun H1 e1 => ?_
        refine s_ret (ev_is (ev_allLcB (enc := signD) (es := z.cps.toList) isLow (ei_str (ev_var rfl)) (by rw [Array.length_toList]; omega) fun c hc => turn_nm (fun _ => rfl) (fun _ _ _ _ => et_yes) fun v H2 e2 x _ => ed_bool (by
          rw [TD1.str x]
          exact ev_betw (by decide +kernel) (by decide +kernel) rfl)) ?_) fun H2 e2 => q H2 (e1.trans e2)
        unfold nameB
        rw [decide_eq_true c, Bool.true_and]
      · have c' : ¬ ((1 : Int) ≤ (z.length : Int) ∧ (z.length : Int) ≤ 20) := by omega
        rw [decide_eq_false c'] at len
        refine q_yes (et_is (et_or ty fun _ => len) rfl) fun H1 e1 => s_ret (ev_is ev_c ?_) fun H2 e2 => q H2 (e1.trans e2)
        unfold nameB
        rw [decide_eq_false c, Bool.false_and]
theorem scIsFr : FnScope ["value", "top", "bottom"] ["value"] (defScope sIsFr) := ⟨rfl, rfl, rfl, by decide +kernel, rfl, by decide +kernel, by decide +kernel⟩
abbrev nmIsFr : List Str := ["value", "top", "bottom"]
theorem ok_isfr {f : Addr} {fd : FuncData} (F : Fun K "is_fraction" "is_fraction" sIsFr f fd) (T : TN mg) : FnOk P w K mg base CX0 2 f fd ["value"] spIsFr := by
  refine F.ok scIsFr (fun vs H Q E h => ?_) (fun cdv A outer s H vs Q E hr h => ?_)
  · obtain ⟨v, k, rfl, _⟩ := h
    rfl
  · obtain ⟨v, k, rfl, p, hk, q⟩ := h
    refine ⟨_, (pss_cons (ps_if (pw_or (pt_not (pt_val ((pe_callB call_isi (by rfl) T.isi PyProof.Rows.boot_isinstance (pa_cons (pv 0) (pa_cons (pe_bltn (v := .ty "tuple") (by rfl) T.tuple (by decide +kernel) rfl) pa_nil)))))) (pw_or1 (pt_cmpR op_ne pe_never pe_int (nomark _)))).pt (pss_one (ps_ret pe_bl)) pss_nil) pss_never), ?_⟩
    have e : (!k.is "tuple") = true := by cases k <;> first | decide | exact absurd rfl hk
    exact q_yes (et_is (et_or (b := true) (et_is (et_not (et_B (ev_isT (.inr (.inr (.inr (.inl rfl)))) (ev_var rfl) p))) e) fun z => nomatch z) rfl) fun H1 e1 => s_ret ev_c fun H2 e2 => q H2 (e1.trans e2)
theorem scKov : FnScope ["value", "sign"] ["value"] (defScope sKov) := ⟨rfl, rfl, rfl, by decide +kernel, rfl, by decide +kernel, by decide +kernel⟩
abbrev nmKov : List Str := ["value", "sign"]
theorem ev_isint {σ : L2.St} {H : Hp} {te : TE} {v : V} {k : Kd} {E : XK} (h : Ev te σ H v) (p : Pv H v k) : Ev (tCall spIsInt [] E (tCons te tNil)) σ H (.bl k.isInt) := ev_call (ea_cons h ea_nil) fun H1 e Q q E => ⟨_, _, rfl, p.mono e, fun H2 e2 => q H2 e2⟩
theorem ok_kov {f CS : Addr} {fd : FuncData} {t40 : Tok} (F : Fun K "kind_of_value" "kind_of_value" sKov f fd) (T : TN mg) (gS : mg "Shape" = some (.ref CS)) (nS : NoI K CS) (g40 : mg "MAX_TEXT" = some (.int 40 t40)) (CI : Cl P w K mg base 1 "is_integer" spIsInt) : FnOk P w K mg base CX0 2 f fd ["value"] spKov := by
  refine F.ok scKov (fun vs H Q E h => ?_) (fun cdv A outer s H vs Q E hr h => ?_)
  · obtain ⟨v, k, r, rfl, _⟩ := h
    rfl
  · obtain ⟨v, k, r, rfl, p, h, q⟩ := h
    refine ⟨_, (pss_cons (ps_if (pt_val (pe_cl CI hr (by decide) (by rfl) (pa_cons (pv 0) pa_nil))) (pss_one (ps_ret pe_str)) pss_nil)
      (pss_cons (ps_if (pw_and (pt_val (pe_callB call_isi (by rfl) T.isi PyProof.Rows.boot_isinstance (pa_cons (pv 0) (pa_cons (pe_glob (v := .ref CS) (by rfl) gS rfl) pa_nil)))) (pw_and1 (pt_cmpR op_le pe_never pe_never (nomark _)))).pt (pss_one (ps_ret pe_str)) pss_nil)
      (pss_cons (ps_if (pw_and (pt_val ((pe_callB call_isi (by rfl) T.isi PyProof.Rows.boot_isinstance (pa_cons (pv 0) (pa_cons (pe_bltn (v := .ty "str") (by rfl) T.str (by decide +kernel) rfl) pa_nil))))) (pw_and (pt_cmpR op_le (pe_callB call_len_str (by rfl) T.len PySem.boot_len (pa_cons (pv 0) pa_nil)) (pe_glob (v := .int 40) (by rfl) g40 ⟨_, rfl⟩) (nomark _)) (pw_and1 (pt_val (pe_callB (cr_all rfl) (by rfl) T.all (by decide +kernel) (pa_cons (pe_lc (own := [("sign", 1)]) (g := gName 1) (by rfl) scKov.nd (pi_str (pv 0))
        (blkOk_by (own := [("sign", 1)]) (N := nmKov) (sc := defScope sKov) (by decide +kernel))
        (fun _ _ _ _ _ => by exact (pg_name (i := 1) scKov.nd rfl (Or.inl rfl))) (fun _ _ _ _ _ => pts_nil)
        (te := (tChain rLeS rLeS (tC (.str " ")) (tVar 1) (tC (.str "~")))) (fun _ _ _ _ _ => by exact (pe_chain op_le_str op_le_str pe_str (pv 1) pe_str))) pa_nil)))))).pt (pss_one (ps_ret pe_str)) pss_nil)
      (pss_one (ps_ret pe_non))))), ?_⟩
    refine q_when (et_B (ev_isint (ev_var rfl) p)) (fun hi H1 e1 => ?_) (fun hi H1 e1 => ?_)
    · cases h with
      | int i => exact s_ret ev_c fun H2 e2 => q H2 (e1.trans e2)
      | str z hz => cases hi
      | no h1 h2 => cases k <;> first | exact absurd rfl h1 | exact nomatch hi
    · refine q_not (et_is (et_and (b := false) (et_B (ev_isNo nS (ev_var rfl) (p.mono e1))) fun z => nomatch z) rfl) fun H2 e2 => ?_
      have e12 := e1.trans e2
      cases h with
      | int i => cases hi
      | str z hz =>
        refine q_when (b := textB z) (et_is (et_and (et_is (et_B (ev_isT (.inr (.inr (.inl rfl))) (ev_var rfl) (p.mono e12))) (show Kd.is .str "str" = true by decide)) fun _ => et_and (et_is (et_test (ev_op (ev_lenStr (ev_var rfl) hz) ev_c rv_I0)) (show decide ((z.length : Int) ≤ 40) = decide (z.length ≤ 40) from decide_eq_decide.mpr (by omega))) fun _ => et_B (ev_allLcB (enc := signD) (es := z.cps.toList) isSign (ei_str (ev_var rfl)) (by rw [Array.length_toList]; omega) fun c hc => turn_nm (fun _ => rfl) (fun _ _ _ _ => et_yes) fun v H2 e2 x _ => ed_bool (by
          rw [TD1.str x]
          exact ev_betw (by decide +kernel) (by decide +kernel) rfl))) (by unfold textB; rw [Bool.true_and])) (fun ht H3 e3 => ?_) (fun ht H3 e3 => ?_)
        · rw [if_pos ht] at q
          exact s_ret ev_c fun H4 e4 => q H4 ((e12.trans e3).trans e4)
        · rw [if_neg (by rw [ht]; decide)] at q
          exact s_ret ev_c fun H4 e4 => q H4 ((e12.trans e3).trans e4)
      | no h1 h2 =>
        have e : k.is "str" = false := by cases k <;> first | decide | exact absurd rfl h2
        refine q_not (et_is (et_and (b := false) (et_is (et_B (ev_isT (.inr (.inr (.inl rfl))) (ev_var rfl) (p.mono e12))) e) fun z => nomatch z) rfl) fun H3 e3 => ?_
        exact s_ret ev_c fun H4 e4 => q H4 ((e12.trans e3).trans e4)
/-- the class of tables -/
structure TbC (K : PySem.W.Frag) (mg : Str → Option Value) (C : Addr) : Prop where
  cl : Cls K C
  nK : NoAttr K C "_kinds"
  nR : NoAttr K C "_rows"
  nN : NoAttr K C "_next_number"
  g : mg "Table" = some (.ref C)
  ins : C8.InsC K C
  no : NoI K C
theorem scChkT : FnScope ["value"] ["value"] (defScope sChkT) := ⟨rfl, rfl, rfl, by decide +kernel, rfl, by decide +kernel, by decide +kernel⟩
theorem ok_chkT {f C CT : Addr} {fd : FuncData} (F : Fun K "check_table" "check_table" sChkT f fd) (T : TN mg) (TC : TbC K mg C) (ET : ErrE "InvalidTable" K mg CT) : FnOk P w K mg base (L2.CX P w) 1 f fd ["value"] (spChkT C CT) := by
  refine F.okX scChkT (fun vs H Q E h => ?_) (fun cdv A outer s H vs Q E hr h => ?_)
  · obtain ⟨v, rfl, _⟩ := h
    rfl
  · obtain ⟨v, rfl, h⟩ := h
    refine ⟨_, (pss_one (ps_if (pt_not (pt_val (pe_callB call_isi (by rfl) T.isi PyProof.Rows.boot_isinstance (pa_cons (pv 0) (pa_cons (pe_glob (v := .ref C) (by rfl) TC.g rfl) pa_nil))))) (pss_one (ps_raise (W := fun cls d _ H => E cls d H) rfl (takes_of rfl rfl rfl rfl) (SkE.pmk_own1 PySem.F.excBase_ValueError ET.x ET.g ET.kC (raises_own ET.be ET.typ) (by rfl) pe_str))) pss_nil)), ?_⟩
    rcases h with ⟨a, dx, fs, rfl, ha, q⟩ | ⟨k, p, q⟩
    · exact s_when (b := false) (et_is (et_not (et_B (ev_isYes TC.ins (ev_var rfl) ha))) rfl) (fun z => nomatch z) fun _ H1 e1 => q H1 e1
    · exact s_when (b := true) (et_is (et_not (et_B (ev_isNo TC.no (ev_var rfl) p))) rfl) (fun _ H1 e1 => q H1 e1) fun z => nomatch z
end
end Q
set_option Elab.async false
set_option linter.all false
set_option maxRecDepth 100000
set_option maxHeartbeats 4000000
/-! tables made -/
namespace Q
open PySem L2 PySem.Spec PyProof.Rows PySem.Calls PySem.OwnX
open Evl
abbrev sInit : Stmt := inClass (top 125) 0
def KS : List (Key × V) := [(.inr "a", .str "number"), (.inr "b", .str "text")]
def tbF (Kd Rw : Addr) (n : Int) : List (Str × V) := [("_kinds", .ref Kd), ("_rows", .ref Rw), ("_next_number", .int n)]
/-- a table of the columns a and b stands at a: its rows' numbers, its next number -/
def TbA (C : Addr) (H : Hp) (a : Addr) (ns : List Int) (nx : Int) : Prop := ∃ dx Kd Rw o1 o2 rows, H a = some (.ins C dx (tbF Kd Rw nx)) ∧ H Kd = some (.frz o1 (.dK KS)) ∧ H Rw = some (.frz o2 (.dK rows)) ∧ rows.map (·.1) = ns.map Sum.inl
theorem TbA.by {C : Addr} {H H' : Hp} {a : Addr} {ns : List Int} {nx : Int} (h : TbA C H a ns nx) (e : ∀ a o, H a = some o → (∀ ps, o ≠ .tbl ps) → H' a = some o) : TbA C H' a ns nx := by
  obtain ⟨dx, Kd, Rw, o1, o2, rows, h1, h2, h3, h4⟩ := h
  exact ⟨dx, Kd, Rw, o1, o2, rows, e _ _ h1 (fun _ z => nomatch z), e _ _ h2 (fun _ z => nomatch z), e _ _ h3 (fun _ z => nomatch z), h4⟩
theorem TbA.mono {C : Addr} {H H' : Hp} (e : Ex H H') {a : Addr} {ns : List Int} {nx : Int} (h : TbA C H a ns nx) : TbA C H' a ns nx := h.by fun _ _ q _ => e _ _ q
/-- what a column's kind is told as -/
inductive Kw : V → PyData → Prop where
  | non : Kw .non .none
  | str (s : Str) (h : PyData.strOk s = true) : Kw (.str s) (.str s)
theorem Kw.dp {K : PySem.W.Frag} {H : Hp} {v : V} {d : PyData} (h : Kw v d) : Dp K H v d := by
  cases h with
  | non => exact .non
  | str s _ => exact .str s
theorem Kw.lay {v : V} {d : PyData} (h : Kw v d) : d.canLay0 = true := by
  cases h with
  | non => simp [PyData.canLay0]
  | str s h => simpa [PyData.canLay0] using h
def kindsD : List PyData := [.str "number", .str "shape", .str "text"]
def nameK : Key → Bool
  | .inl _ => false
  | .inr z => nameB z
def smallK : Key → Prop
  | .inl _ => True
  | .inr z => z.cps.size ≤ 1000
/-- an entry of a dict of kinds: right or not -/
def EntB (kv : Key × V) (b : Bool) : Prop := smallK kv.1 ∧ ∃ d, Kw kv.2 d ∧ b = (nameK kv.1 && kindsD.any fun z => PyData.eqv z d)
/-- no dict of kinds -/
def BadK (H : Hp) (v : V) : Prop := (∃ k, Pv H v k ∧ k ≠ .dct) ∨ ∃ d o kvs, v = .ref d ∧ H d = some (.frz o (.dK kvs)) ∧ ((kvs.length = 0 ∨ (9 ≤ kvs.length ∧ kvs.length ≤ 100)) ∨ ∃ kv, kvs = [kv] ∧ EntB kv false)
def spInit (C CT : Addr) : Sp := fun vs H Q E => ∃ a dx v, vs = [.ref a, v] ∧ H a = some (.ins C dx []) ∧ ((BadK H v ∧ Rs CT E H) ∨ ∃ d o, v = .ref d ∧ H d = some (.frz o (.dK KS)) ∧
  ∀ Kd Rw o1 o2 H', Mx a H H' → H' a = some (.ins C dx (tbF Kd Rw 1)) → H' Kd = some (.frz o1 (.dK KS)) → H' Rw = some (.frz o2 (.dK [])) → Q .non H')
/-- the names' globals -/
structure TG (K : PySem.W.Frag) (mg : Str → Option Value) (aK : Addr) : Prop where
  gK : mg "KINDS" = some (.ref aK)
  sq : ∀ H : Hp, SqT K H aK [.str "number", .str "shape", .str "text"]
  g8 : ∃ t, mg "MAX_COLUMNS" = some (.int 8 t)
theorem kw_some {kvs : List (Key × V)} {o : Obj} {H : Hp} {d : Addr} (h : H d = some (.frz o (.dK kvs))) (k : Key) : DGet H d (kV k) (valV kvs k) := .inl ⟨kvs, k, .inr ⟨o, h⟩, rfl, rfl⟩
section
end
section
variable {K : PySem.W.Frag} {σ : L2.St} {H : Hp} {te ta tb tc tk tv : TE} {E : XK} {J : It} {n : Nat} {G : Hp → Prop} {Y : Nat → Hp → V → Hp → Prop}
theorem dc_it (w : Walk J n G Y) {g : L2.TG} {tt : TT} {vs : List Nat} {H1 : Hp} {D : Addr} {Qd : Hp → Prop} (Pw : Nat → Hp → Prop) (h0 : Pw 0 (upd H1 D (.dK []))) (hG : ∀ i H, i ≤ n → Pw i H → G H)
    (hs : ∀ i x H H', i < n → Pw i H → Y i H x H' → g x (wipe σ vs) H' fun σ2 H2 => wipe σ2 vs = wipe σ vs ∧ tt σ2 H2 fun b H3 =>
      if b = true then tk σ2 H3 fun y H4 => tv σ2 H4 fun z H5 => ∃ kvs k, y = kV k ∧ H5 D = some (.dK kvs) ∧ kvs.length < sizeLine ∧ Pw (i + 1) (upd H5 D (.dK (putK kvs k z))) else Pw (i + 1) H3) (hd : ∀ H, Pw n H → Qd H) :
    ∃ W : Nat → Nat → Hp → Prop, (∃ m, W 0 m (upd H1 D (.dK []))) ∧ ∀ i m H, W i m H → (J.stop i H ∧ Qd H) ∨ (J.go i H ∧ ∃ Nx : Hp → Prop, (∀ H', Nx H' → ∃ m', m' < m ∧ W (i + 1) m' H') ∧ ∀ x H', J.yld i H x H' → g x (wipe σ vs) H' fun σ2 H2 => wipe σ2 vs = wipe σ vs ∧ tt σ2 H2 fun b H3 =>
      if b = true then tk σ2 H3 fun y H4 => tv σ2 H4 fun z H5 => ∃ kvs k, y = kV k ∧ H5 D = some (.dK kvs) ∧ kvs.length < sizeLine ∧ Nx (upd H5 D (.dK (putK kvs k z))) else Nx H3) := by
  refine ⟨fun i m H => m = n - i ∧ i ≤ n ∧ Pw i H, ⟨n, by simp, Nat.zero_le _, h0⟩, ?_⟩
  rintro i m H ⟨rfl, hi, p⟩
  have q := hG i H hi p
  by_cases hlt : i < n
  · exact .inr ⟨w.goes i H hlt q, Pw (i + 1), fun H' p' => ⟨n - (i + 1), by omega, rfl, hlt, p'⟩, fun x H' y => hs i x H H' hlt p (w.yields i H x H' hlt q y)⟩
  · have e : i = n := by omega
    subst e
    exact .inl ⟨w.stops H q, hd H p⟩
/-- a value of the dict at d -/
theorem ev_dget {d : Addr} {o : Obj} {kvs : List (Key × V)} {k : Key} {v : V} (h1 : Ev ta σ H (.ref d)) (h2 : Ev tb σ H (kV k)) (hd : H d = some (.frz o (.dK kvs))) (hv : valV kvs k = some v) : Ev (tDGet ta tb) σ H v := fun H1 e Q q =>
  h1 H1 e _ fun H2 e2 => h2 H2 (e.trans e2) _ fun H3 e3 => ⟨d, v, rfl, by rw [← hv]; exact kw_some (((e.trans e2).trans e3) _ _ hd) k, q H3 (e2.trans e3)⟩
theorem two_perm {a b : Str} {ys : List Str} (h : ys.Perm [a, b]) : ys = [a, b] ∨ ys = [b, a] := by
  match ys, h.length_eq with
  | [x, y], _ =>
    have hx := h.mem_iff.mp (List.mem_cons_self : x ∈ [x, y])
    rcases List.mem_cons.mp hx with rfl | hx
    · have z := (List.perm_cons x).mp h
      exact .inl (by rw [List.perm_singleton.mp z])
    · rw [List.mem_singleton.mp hx] at h ⊢
      have z := (List.perm_cons b).mp (h.trans (List.Perm.swap b a []))
      exact .inr (by rw [List.perm_singleton.mp z])
theorem go_fast {Q : VK} (h : te σ H fun v H1 => ∃ a u, v = .ref a ∧ H1 a = some u ∧ Mut (some u) ∧ ∀ od, Q v (upd H1 a (.frz od u))) : tFast te σ H Q := h
end
section
variable {K : PySem.W.Frag} {σ : L2.St} {H : Hp} {tk tv te : TE}
/-- {column: kinds[column] for column in sorted(list(kinds))}, the kinds those of the columns a and b -/
theorem go_kinds {i0 j : Nat} {dk : Addr} {o : Obj} (hi : σ[i0]? = some (some (.ref dk))) (hd : H dk = some (.frz o (.dK KS))) (hw : ∀ x, wipe ((wipe σ [j]).set j (some x)) [j] = wipe σ [j]) (hj : ∀ x, ((wipe σ [j]).set j (some x))[j]? = some (some x)) (hij : ∀ x, ((wipe σ [j]).set j (some x))[i0]? = some (some (.ref dk)))
    {Q : VK} (q : ∀ D H', H D = none → Ex H H' → H' D = some (.dK KS) → Q (.ref D) H') :
    tDc (iList K (tCB (rSortedS K) (tCons (tCB (fun xs H Q => ∃ (a : Addr) (kvs : List (Key × V)), xs = [.ref a] ∧ Rd H a (.dK kvs) ∧ ∀ p, H p = none → Q (.ref p) (upd H p (.lst (kvs.map fun kv => kV kv.1)))) (tCons (tVar i0) tNil)) tNil))) (gName j) tYes (tVar j) (tDGet (tVar i0) (tVar j)) [j] σ H Q := by
  refine ⟨_, hi, dk, KS, rfl, .inr ⟨o, hd⟩, fun p hp => ?_⟩
  refine ⟨p, ["a", "b"], rfl, SqL.of upd_same, by decide, fun ys l pm so hl => ?_⟩
  have e1 := Ex.new (o := .lst (KS.map fun kv => kV kv.1)) hp
  have e2 := e1.trans (Ex.new (o := .lst (ys.map V.str)) hl)
  have ey : ys = [("a" : Str), ("b" : Str)] := by
    rcases two_perm pm with h | h
    · exact h
    · rw [h] at so
      exact absurd so (by decide +kernel)
  subst ey
  refine ⟨l, rfl, ⟨_, SqL.of upd_same⟩, fun D hD => ?_⟩
  have hH2 : upd (upd H p (.lst (KS.map fun kv => kV kv.1))) l (.lst ([("a" : Str), ("b" : Str)].map V.str)) l = some (.lst ([("a" : Str), ("b" : Str)].map V.str)) := upd_same
  generalize upd (upd H p (.lst (KS.map fun kv => kV kv.1))) l (.lst ([("a" : Str), ("b" : Str)].map V.str)) = H2 at e2 hD hH2
  have hl2 : H2 l = some (.lst [.str "a", .str "b"]) := hH2
  have dk2 := e2 _ _ hd
  refine dc_it (walk_list (K := K) (a := l) (xs := [.str "a", .str "b"])) (fun i H' => Ex H2 H' ∧ H' D = some (.dK (KS.take i))) ⟨Ex.new hD, upd_same⟩ (fun i H' _ p => SqL.of (p.1 _ _ hl2)) (fun i x H3 H4 hi p y => ?_) fun H' p => ?_
  · obtain ⟨rfl, hx⟩ := y
    obtain ⟨p1, p2⟩ := p
    refine ⟨hw x, yes_ite ⟨_, hj x, ?_⟩⟩
    have fin : ∀ (k : Key) (v : V), valV KS k = some v → x = kV k → putK (KS.take i) k v = KS.take (i + 1) → tDGet (tVar i0) (tVar j) ((wipe σ [j]).set j (some x)) H4 fun z H5 => ∃ kvs k, x = kV k ∧ H5 D = some (.dK kvs) ∧ kvs.length < sizeLine ∧ (Ex H2 (upd H5 D (.dK (putK kvs k z))) ∧ upd H5 D (.dK (putK kvs k z)) D = some (.dK (KS.take (i + 1)))) := fun k v hv hk hp =>
      ⟨_, hij x, _, hj x, dk, v, rfl, by rw [hk, ← hv]; exact kw_some (p1 _ _ dk2) k, KS.take i, k, hk, p2, by
        rw [List.length_take]
        exact Nat.lt_of_le_of_lt (Nat.min_le_right _ _) (by decide), Ex.mut p1 hD, by rw [upd_same, hp]⟩
    match i, hi, hx with
    | 0, _, hx =>
      have hx : V.str "a" = x := Option.some.inj hx
      exact fin (.inr "a") (.str "number") (by decide +kernel) hx.symm (by decide +kernel)
    | 1, _, hx =>
      have hx : V.str "b" = x := Option.some.inj hx
      exact fin (.inr "b") (.str "text") (by decide +kernel) hx.symm (by decide +kernel)
  · exact q D H' (fresh_back e2 hD) (e2.trans p.1) p.2
end
section
variable {K : PySem.W.Frag} {σ : L2.St} {H : Hp} {ta tb te : TE} {E : XK} {v : V} {k : Key} {d : PyData} {mg : Str → Option Value} {aK : Addr}
theorem q_fld {f : Str} {D : Ends} {u : TS} (h : te σ H fun y H1 => ta σ H1 fun x H2 => ∃ a C dx fs, x = .ref a ∧ H2 a = some (.ins C dx fs) ∧ Cls K C ∧ NoAttr K C f ∧ fs.length < 1000 ∧ u D σ (upd H2 a (.ins C dx (putF f y fs)))) : tSeq (sFld K ta te f) u D σ H := h
theorem pv_key {H : Hp} (k : Key) : ∃ kd, Pv H (kV k) kd := by
  cases k with
  | inl i => exact ⟨_, .int i⟩
  | inr z => exact ⟨_, .str z⟩
theorem ev_isnameK (h : Ev te σ H (kV k)) (s : smallK k) : Ev (tCall spIsName [] E (tCons te tNil)) σ H (.bl (nameK k)) := ev_call (ea_cons h ea_nil) fun H1 e Q q E => by
  cases k with
  | inl i => exact ⟨_, _, _, rfl, .int i, .inl ⟨(fun z => nomatch z), rfl⟩, fun H2 e2 => q H2 e2⟩
  | inr z => exact ⟨_, _, _, rfl, .str z, .inr ⟨z, rfl, s, rfl⟩, fun H2 e2 => q H2 e2⟩
theorem ev_inKinds (G : TG K mg aK) (h : Ev te σ H v) (x : Kw v d) : Ev (tOp (rInDT K) te (tC (.ref aK))) σ H (.bl (kindsD.any fun z => PyData.eqv z d)) := fun H1 e Q q => h H1 e _ fun H2 e2 =>
  ⟨d, kindsD, x.dp, .tup (G.sq H2) (.cons (.str _) (.cons (.str _) (.cons (.str _) .nil))), by decide +kernel, x.lay, by decide, q H2 e2⟩
theorem ev_lenDict {a : Addr} {o : Obj} {kvs : List (Key × V)} (h : Ev te σ H (.ref a)) (ha : H a = some (.frz o (.dK kvs))) : Ev (tCB (fun xs H Q => ∃ a kvs, xs = [V.ref a] ∧ Rd H a (.dK kvs) ∧ Q (.int kvs.length) H) (tCons te tNil)) σ H (.int kvs.length) := ev_cb (ea_cons h ea_nil) fun H1 e Q q => ⟨a, kvs, rfl, .inr ⟨o, e _ _ ha⟩, q H1 (Ex.refl _)⟩
theorem entKS : ∀ kv ∈ KS, EntB kv true := fun kv h => by
  rcases List.mem_cons.mp h with rfl | h
  · exact ⟨by show (1 : Nat) ≤ 1000; decide, .str "number", .str _ (by decide +kernel), by decide +kernel⟩
  · rw [List.mem_singleton.mp h]
    exact ⟨by show (1 : Nat) ≤ 1000; decide, .str "text", .str _ (by decide +kernel), by decide +kernel⟩
theorem valKS : ∀ kv ∈ KS, valV KS kv.1 = some kv.2 := fun kv h => by
  rcases List.mem_cons.mp h with rfl | h
  · decide +kernel
  · rw [List.mem_singleton.mp h]
    decide +kernel
end
section
variable {P : Program} {w : World} {K : PySem.W.Frag} {mg : Str → Option Value} {base : Heap} {C CT aK : Addr}
theorem scInit : FnScope ["self", "kinds", "column"] ["self", "kinds"] (defScope sInit) := ⟨rfl, rfl, rfl, by decide +kernel, rfl, by decide +kernel, by decide +kernel⟩
abbrev nmInit : List Str := ["self", "kinds", "column"]
theorem ok_init {f : Addr} {fd : FuncData} (F : Fun K "__init__" "Table.__init__" sInit f fd) (T : TN mg) (TC : TbC K mg C) (G : TG K mg aK) (ET : ErrE "InvalidTable" K mg CT) (CN : Cl P w K mg base 1 "is_name" spIsName) : FnOk P w K mg base (L2.CX P w) 2 f fd ["self", "kinds"] (spInit C CT) := by
  obtain ⟨t8, g8⟩ := G.g8
  have gK := G.gK
  refine F.okX scInit (fun vs H Q E h => ?_) (fun cdv A' outer s H vs Q E hr h => ?_)
  · obtain ⟨a, dx, v, rfl, _⟩ := h
    rfl
  · obtain ⟨a, dx, v, rfl, ha, h⟩ := h
    have hun : (A'.deeper (envOfC (Str.ofString "Table.__init__") (defScope sInit) s.heap.objs.size f cdv)).units + 65 < cLine := by
      have := hr.un
      omega
    refine ⟨_, (pss_cons (ps_if (pw_or (pt_not (pt_val ((pe_callB call_isi (by rfl) T.isi PyProof.Rows.boot_isinstance (pa_cons (pv 1) (pa_cons (pe_bltn (v := .ty "dict") (by rfl) T.dict (by decide +kernel) rfl) pa_nil)))))) (pw_or1 (pt_not (pt_chain op_le op_le pe_int (pe_callB d_lenR (by rfl) T.len PySem.boot_len (pa_cons (pv 1) pa_nil)) (pe_glob (v := .int 8) (by rfl) g8 ⟨_, rfl⟩))))).pt (pss_one (ps_raise (W := fun cls d _ H => E cls d H) rfl (takes_of rfl rfl rfl rfl) (SkE.pmk_own1 PySem.F.excBase_ValueError ET.x ET.g ET.kC (raises_own ET.be ET.typ) (by rfl) pe_str))) pss_nil)
      (pss_cons (ps_if (pt_not (pt_val (pe_callB (cr_all rfl) (by rfl) T.all (by decide +kernel) (pa_cons (pe_lc (own := [("column", 2)]) (g := gName 2) (by rfl) scInit.nd (pi_keys (pv 1))
        (blkOk_by (own := [("column", 2)]) (N := nmInit) (sc := defScope sInit) (by decide +kernel))
        (fun _ _ _ _ _ => by exact (pg_name (i := 2) scInit.nd rfl (Or.inl rfl))) (fun _ _ _ _ _ => pts_nil)
        (te := (tAndV (tCall spIsName [] E0 (tCons (tVar 2) tNil)) (tOp (rInDT K) (tDGet (tVar 1) (tVar 2)) (tC (.ref aK))))) (fun _ _ _ _ _ => by exact (pe_and (pe_cl CN hr (by decide) (by rfl) (by exact (pa_cons (pv 2) pa_nil))) (pe_one (pe_cmpR (op_inDT hun) (pe_dget (hu_of hr) (pv 1) (pv 2) (fun _ _ => rfl)) (pe_glob (v := .ref aK) (by rfl) gK rfl) (by rfl)))))) pa_nil)))) (pss_one (ps_raise (W := fun cls d _ H => E cls d H) rfl (takes_of rfl rfl rfl rfl) (SkE.pmk_own1 PySem.F.excBase_ValueError ET.x ET.g ET.kC (raises_own ET.be ET.typ) (by rfl) pe_str))) pss_nil)
      (pss_cons (ps_fld (pv 0) (pe_fast (pe_dc (own := [("column", 2)]) (g := gName 2) (by rfl) scInit.nd (pi_list (pe_callB cr_sortedS (by rfl) T.sorted (by decide +kernel) (pa_cons (pe_callTy (call_listD rfl) (by rfl) T.list (by decide +kernel) (pa_cons (pv 1) pa_nil)) pa_nil))) (blkOk_by (own := [("column", 2)]) (N := nmInit) (sc := defScope sInit) (by decide +kernel)) (fun _ _ _ _ _ => by exact pg_name (i := 2) scInit.nd rfl (Or.inl rfl)) (fun _ _ _ _ _ => pts_nil) (tk := tVar 2) (fun _ _ _ _ _ => by exact (pv 2)) (tv := tDGet (tVar 1) (tVar 2)) (fun _ _ _ _ _ => by exact (pe_dget (hu_of hr) (pv 1) (pv 2) (fun _ _ => rfl))))) rfl)
      (pss_cons (ps_fld (pv 0) (pe_fast pe_dnewK) rfl)
      (pss_one (ps_fld (pv 0) pe_int rfl)))))), ?_⟩
    have all : ∀ {H1 : Hp} {d : Addr} {o : Obj} {kvs : List (Key × V)} (b : Bool), v = .ref d → H1 d = some (.frz o (.dK kvs)) → kvs.length ≤ 100 → (∀ kv ∈ kvs, valV kvs kv.1 = some kv.2) → (∀ kv ∈ kvs, EntB kv b) →
        EvT (tNot (tB (tCB (rAll K) (tCons (tLc (iKeys (tVar 1)) (gName 2) tYes (tAndV (tCall spIsName [] E0 (tCons (tVar 2) tNil)) (tOp (rInDT K) (tDGet (tVar 1) (tVar 2)) (tC (.ref aK)))) [2]) tNil)))) [some (.ref a), some v, none] H1 (!(kvs.all fun _ => b)) := fun {H1 d o kvs} b hv hd hl hk he => by
      subst hv
      refine et_not (et_B (ev_allLcB (enc := fun kv : Key × V => keyD kv.1) (es := kvs) (fun _ => b) (ei_keys (ev_var rfl) hd) (by omega) fun kv hm => turn_nm (fun _ => rfl) (fun _ _ _ _ => et_yes) fun u H2 e2 x _ => ed_bool ?_))
      obtain ⟨sm, pd, kw, hb⟩ := he kv hm
      rw [key_td x, hb]
      exact ev_andV (ev_isnameK (ev_var rfl) sm) fun _ => ev_inKinds G (ev_dget (ev_var rfl) (ev_var rfl) (e2 _ _ hd) (hk kv hm)) kw
    have len : ∀ {d : Addr} {o : Obj} {kvs : List (Key × V)}, v = .ref d → H d = some (.frz o (.dK kvs)) → EvT (tOr (tNot (tB (tCB (rIsi K) (tCons (tVar 1) (tCons (tC (.ty "dict")) tNil))))) (tNot (tTest (tChain (rI0 fun i j => .bl (decide (i ≤ j))) (rI0 fun i j => .bl (decide (i ≤ j))) (tC (.int 1)) (tCB (fun xs H Q => ∃ a kvs, xs = [V.ref a] ∧ Rd H a (.dK kvs) ∧ Q (.int kvs.length) H) (tCons (tVar 1) tNil)) (tC (.int 8)))))) [some (.ref a), some v, none] H (!decide ((1 : Int) ≤ kvs.length ∧ (kvs.length : Int) ≤ 8)) := fun {d o kvs} hv hd => by
      subst hv
      exact et_is (et_or (et_is (et_not (et_B (ev_isT (.inr (.inr (.inr (.inr rfl)))) (ev_var rfl) (.dct hd)))) (show (!Kd.is .dct "dict") = false by decide)) fun _ => et_not (et_test (ev_chainB ev_c (ev_lenDict (ev_var rfl) hd) ev_c))) rfl
    rcases h with ⟨hb, q⟩ | ⟨d, o, rfl, hd, q⟩
    · rcases hb with ⟨k, p, hk⟩ | ⟨d, o, kvs, rfl, hd, hb⟩
      · have e : (!k.is "dict") = true := by cases k <;> first | decide | exact absurd rfl hk
        exact q_yes (et_is (et_or (b := true) (et_is (et_not (et_B (ev_isT (.inr (.inr (.inr (.inr rfl)))) (ev_var rfl) p))) e) fun z => nomatch z) rfl) fun H1 e1 => q H1 e1
      · rcases hb with hl | ⟨kv, rfl, he⟩
        · have z := len rfl hd
          rw [decide_eq_false (by omega)] at z
          exact q_yes z fun H1 e1 => q H1 e1
        · have z := len rfl hd
          refine q_not z fun H1 e1 => ?_
          have y := all (H1 := H1) (kvs := [kv]) false rfl (e1 _ _ hd) (by show 1 ≤ 100; decide) (fun kv' hm => by
            rw [List.mem_singleton.mp hm]
            exact valV_pos rfl) (fun kv' hm => by rw [List.mem_singleton.mp hm]; exact he)
          exact q_yes y fun H2 e2 => q H2 (e1.trans e2)
    · have z := len rfl hd
      refine q_not z fun H1 e1 => ?_
      have y := all (H1 := H1) (kvs := KS) true rfl (e1 _ _ hd) (by decide) valKS entKS
      refine q_not y fun H2 e2 => ?_
      have e12 := e1.trans e2
      refine q_fld (go_fast (go_kinds (K := K) (σ := [some (.ref a), some (.ref d), none]) (i0 := 1) (j := 2) (dk := d) (o := o) rfl (e12 _ _ hd) (fun _ => rfl) (fun _ => rfl) (fun _ => rfl) fun D H3 nD e3 hD => ?_))
      refine ⟨D, _, rfl, hD, True.intro, fun o1 => ?_⟩
      have e13 := e12.trans e3
      have na : a ≠ D := fun z => by rw [← z, (e12 _ _ ha)] at nD; cases nD
      refine ⟨_, rfl, a, C, dx, [], rfl, by rw [upd_ne na]; exact e13 _ _ ha, TC.cl, TC.nK, by show 0 < 1000; decide, ?_⟩
      refine q_fld (go_fast fun p hp => ⟨p, _, rfl, upd_same, True.intro, fun o2 => ?_⟩)
      have nap : a ≠ p := fun z => by rw [← z, upd_same] at hp; cases hp
      have nDp : D ≠ p := fun z => by rw [← z, upd_ne (Ne.symm na), upd_same] at hp; cases hp
      refine ⟨_, rfl, a, C, dx, _, rfl, by rw [upd_ne nap, upd_ne nap, upd_same], TC.cl, TC.nR, by show 1 < 1000; decide, ?_⟩
      refine ⟨_, rfl, a, C, dx, _, rfl, upd_same, TC.cl, TC.nN, by show 2 < 1000; decide, ?_⟩
      have n0D := fresh_back e12 nD
      refine q D p o1 o2 _ (fun l ob nl hl => ?_) (by rw [upd_same]; rfl) ?_ ?_
      · have hl3 := e13 _ _ hl
        have lD : l ≠ D := fun z => by rw [z, n0D] at hl; cases hl
        have lp : l ≠ p := fun z => by
          rw [z] at hl3 nl lD
          rw [upd_ne nl, upd_ne lD, hl3] at hp
          cases hp
        rw [upd_ne nl, upd_ne nl, upd_ne lp, upd_ne lp, upd_ne nl, upd_ne lD]
        exact hl3
      · rw [upd_ne (Ne.symm na), upd_ne (Ne.symm na), upd_ne nDp, upd_ne nDp, upd_ne (Ne.symm na), upd_same]
      · rw [upd_ne (Ne.symm nap), upd_ne (Ne.symm nap), upd_same]
end
end Q
set_option Elab.async false
set_option linter.all false
set_option maxRecDepth 100000
set_option maxHeartbeats 4000000
/-! what a table tells; what is refused of its numbers and rows -/
namespace Q
open PySem L2 PySem.Spec PyProof.Rows PySem.Calls PySem.OwnX
open Evl
abbrev sKinds : Stmt := inClass (top 125) 1
abbrev sCont : Stmt := inClass (top 125) 13
abbrev sLen : Stmt := inClass (top 125) 14
abbrev sThere : Stmt := inClass (top 125) 11
abbrev sVals : Stmt := inClass (top 125) 12
abbrev sRow : Stmt := inClass (top 125) 6
abbrev sChange : Stmt := inClass (top 125) 8
/-- v is one of the numbers -/
def isIn (v : V) (ns : List Int) : Bool := match v with
  | .int i => decide (i ∈ ns)
  | _ => false
/-- a row that the table takes -/
def GoodR (H : Hp) (v : V) : Prop := ∃ d o kvs, v = .ref d ∧ H d = some (.frz o (.dK kvs)) ∧ (kvs = [] ∨ kvs = [(.inr "a", .int 1)] ∨ kvs = [(.inr "b", .str "x")])
/-- one that it doesn't -/
def BadR (H : Hp) (v : V) : Prop := (∃ k, Pv H v k ∧ k ≠ .dct) ∨ ∃ d o k u, v = .ref d ∧ H d = some (.frz o (.dK [(k, u)])) ∧ (valV KS k = none ∨ ∃ (w : Str) (kd : Kd) (r : V), valV KS k = some (.str w) ∧ u ≠ .non ∧ Pv H u kd ∧ Kov u kd r ∧ (r = .non ∨ ∃ x : Str, r = .str x ∧ x ≠ w))
theorem BadR.mono {H H' : Hp} (e : Ex H H') {v : V} (h : BadR H v) : BadR H' v := by
  rcases h with ⟨k, p, hk⟩ | ⟨d, o, k, u, rfl, hd, h⟩
  · exact .inl ⟨k, p.mono e, hk⟩
  · refine .inr ⟨d, o, k, u, rfl, e _ _ hd, ?_⟩
    rcases h with h | ⟨w, kd, r, h1, h2, h3, h4⟩
    · exact .inl h
    · exact .inr ⟨w, kd, r, h1, h2, h3.mono e, h4⟩
def spKinds (C : Addr) : Sp := fun vs H Q _ => ∃ a ns nx, vs = [.ref a] ∧ TbA C H a ns nx ∧ ∀ d H', Ex H H' → H' d = some (.dK KS) → H d = none → Q (.ref d) H'
def spCont (C : Addr) : Sp := fun vs H Q _ => ∃ a v k ns nx, vs = [.ref a, v] ∧ TbA C H a ns nx ∧ Pv H v k ∧ ∀ H', Ex H H' → Q (.bl (isIn v ns)) H'
def spLen (C : Addr) : Sp := fun vs H Q _ => ∃ a ns nx, vs = [.ref a] ∧ TbA C H a ns nx ∧ ∀ H', Ex H H' → Q (.int ns.length) H'
def spThere (C CN : Addr) : Sp := fun vs H Q E => ∃ a v k ns nx, vs = [.ref a, v] ∧ TbA C H a ns nx ∧ Pv H v k ∧ ((isIn v ns = true ∧ ∀ H', Ex H H' → Q .non H') ∨ (isIn v ns = false ∧ Rz CN "value" E H v))
def spRow (C CN : Addr) : Sp := fun vs H Q E => ∃ a v k ns nx, vs = [.ref a, v] ∧ TbA C H a ns nx ∧ Pv H v k ∧ isIn v ns = false ∧ Rz CN "value" E H v
def spVals (C CW : Addr) : Sp := fun vs H Q E => ∃ a v ns nx, vs = [.ref a, v] ∧ TbA C H a ns nx ∧ ((GoodR H v ∧ ∀ H', Ex H H' → Q .non H') ∨ (BadR H v ∧ Rs CW E H))
def spChange (C CN CW : Addr) : Sp := fun vs H Q E => ∃ a v k u ns nx, vs = [.ref a, v, u] ∧ TbA C H a ns nx ∧ Pv H v k ∧ ((isIn v ns = false ∧ Rz CN "value" E H v) ∨ (isIn v ns = true ∧ BadR H u ∧ Rs CW E H))
section
variable {K : PySem.W.Frag} {σ : L2.St} {H : Hp} {ta tb te : TE} {E : XK} {v : V} {mg : Str → Option Value} {C : Addr}
theorem ev_fldT {f : Str} {a dx : Addr} {fs : List (Str × V)} (h : Ev te σ H (.ref a)) (ha : H a = some (.ins C dx fs)) (cl : Cls K C) (na : NoAttr K C f) (hv : fs.lookup f = some v) : Ev (tFld K te f) σ H v := fun H1 e Q q =>
  h H1 e _ fun H2 e2 => ⟨a, C, dx, fs, v, rfl, (e.trans e2) _ _ ha, cl, na, hv, q H2 e2⟩
theorem ins_of {a : Addr} {ns : List Int} {nx : Int} (h : TbA C H a ns nx) : InsAt H C a := by
  obtain ⟨dx, Kd, Rw, o1, o2, rows, h1, _⟩ := h
  exact ⟨dx, _, h1⟩
theorem in_rows {rows : List (Key × V)} {ns : List Int} (h : rows.map (·.1) = ns.map Sum.inl) (i : Int) : (valV rows (Sum.inl i : Key)).isSome = decide (i ∈ ns) := by
  rw [← valV_any, Bool.eq_iff_iff, List.any_eq_true, decide_eq_true_eq]
  constructor
  · rintro ⟨kv, hm, e⟩
    have e := of_decide_eq_true e
    have z : kv.1 ∈ rows.map (·.1) := List.mem_map.mpr ⟨kv, hm, rfl⟩
    rw [h, e] at z
    obtain ⟨j, hj, ej⟩ := List.mem_map.mp z
    cases ej
    exact hj
  · intro hi
    have z : (Sum.inl i : Key) ∈ rows.map (·.1) := by
      rw [h]
      exact List.mem_map.mpr ⟨i, hi, rfl⟩
    obtain ⟨kv, hm, e⟩ := List.mem_map.mp z
    exact ⟨kv, hm, decide_eq_true e⟩
end
section
variable {P : Program} {w : World} {K : PySem.W.Frag} {mg : Str → Option Value} {base : Heap} {C CT CN CW aK : Addr}
theorem scKinds : FnScope ["self"] ["self"] (defScope sKinds) := ⟨rfl, rfl, rfl, by decide +kernel, rfl, by decide +kernel, by decide +kernel⟩
theorem ok_kinds {f : Addr} {fd : FuncData} (F : Fun K "kinds" "Table.kinds" sKinds f fd) (T : TN mg) (TC : TbC K mg C) : FnOk P w K mg base CX0 1 f fd ["self"] (spKinds C) := by
  refine F.ok scKinds (fun vs H Q E h => ?_) (fun cdv A' outer s H vs Q E hr h => ?_)
  · obtain ⟨a, ns, nx, rfl, _⟩ := h
    rfl
  · obtain ⟨a, ns, nx, rfl, ⟨dx, Kd, Rw, o1, o2, rows, h1, h2, h3, h4⟩, q⟩ := h
    refine ⟨_, (pss_one (ps_ret (pe_callTy call_dictD (by rfl) T.dict (by decide +kernel) (pa_cons (pe_fld (pv 0) rfl) pa_nil)))), ?_⟩
    exact ⟨_, rfl, a, C, dx, _, _, rfl, h1, TC.cl, TC.nK, by rfl, Kd, KS, rfl, .inr ⟨o1, h2⟩, fun p hp => q p _ (Ex.new hp) upd_same hp⟩
theorem scCont : FnScope ["self", "value"] ["self", "value"] (defScope sCont) := ⟨rfl, rfl, rfl, by decide +kernel, rfl, by decide +kernel, by decide +kernel⟩
theorem ok_cont {f : Addr} {fd : FuncData} (F : Fun K "__contains__" "Table.__contains__" sCont f fd) (T : TN mg) (TC : TbC K mg C) (CI : Cl P w K mg base 1 "is_integer" spIsInt) : FnOk P w K mg base CX0 2 f fd ["self", "value"] (spCont C) := by
  refine F.ok scCont (fun vs H Q E h => ?_) (fun cdv A' outer s H vs Q E hr h => ?_)
  · obtain ⟨a, v, k, ns, nx, rfl, _⟩ := h
    rfl
  · obtain ⟨a, v, k, ns, nx, rfl, ⟨dx, Kd, Rw, o1, o2, rows, h1, h2, h3, h4⟩, p, q⟩ := h
    refine ⟨_, (pss_one (ps_ret (pe_and (pe_cl CI hr (by decide) (by rfl) (pa_cons (pv 1) pa_nil)) (pe_one (pe_cmp (pc_din (hu_of hr) (pv 1) (pe_fld (pv 0) rfl))))))), ?_⟩
    refine s_ret (ev_is (ev_andV (b := isIn v ns) (ev_isint (ev_var rfl) p) fun hi => fun H1 e1 Q q => ?_) ?_) fun H1 e1 => q H1 e1
    · obtain ⟨i, rfl⟩ : ∃ i, v = .int i := by cases p <;> first | exact ⟨_, rfl⟩ | exact nomatch hi
      refine ⟨_, rfl, _, rfl, a, C, dx, _, _, rfl, e1 _ _ h1, TC.cl, TC.nR, by rfl, Rw, valV rows (.inl i), rfl, kw_some (e1 _ _ h3) (.inl i), ?_⟩
      rw [in_rows h4]
      exact q H1 (Ex.refl _)
    · cases p <;> first | rfl | (show (true && _) = _; rw [Bool.true_and])
theorem scLen : FnScope ["self"] ["self"] (defScope sLen) := ⟨rfl, rfl, rfl, by decide +kernel, rfl, by decide +kernel, by decide +kernel⟩
theorem ok_len {f : Addr} {fd : FuncData} (F : Fun K "__len__" "Table.__len__" sLen f fd) (T : TN mg) (TC : TbC K mg C) : FnOk P w K mg base CX0 1 f fd ["self"] (spLen C) := by
  refine F.ok scLen (fun vs H Q E h => ?_) (fun cdv A' outer s H vs Q E hr h => ?_)
  · obtain ⟨a, ns, nx, rfl, _⟩ := h
    rfl
  · obtain ⟨a, ns, nx, rfl, ⟨dx, Kd, Rw, o1, o2, rows, h1, h2, h3, h4⟩, q⟩ := h
    refine ⟨_, (pss_one (ps_ret (pe_callB d_lenR (by rfl) T.len PySem.boot_len (pa_cons (pe_fld (pv 0) rfl) pa_nil)))), ?_⟩
    have l := congrArg List.length h4
    rw [List.length_map, List.length_map] at l
    exact ⟨_, rfl, a, C, dx, _, _, rfl, h1, TC.cl, TC.nR, by rfl, Rw, rows, rfl, .inr ⟨o2, h3⟩, by rw [l]; exact q H (Ex.refl _)⟩
theorem scThere : FnScope ["self", "number"] ["self", "number"] (defScope sThere) := ⟨rfl, rfl, rfl, by decide +kernel, rfl, by decide +kernel, by decide +kernel⟩
theorem ok_there {f : Addr} {fd : FuncData} (F : Fun K "_check_there" "Table._check_there" sThere f fd) (N : NumE "InvalidNumber" "value" P w K mg CN) (MC : Mt P w K mg base 2 C "__contains__" (spCont C)) : FnOk P w K mg base (L2.CX P w) 3 f fd ["self", "number"] (spThere C CN) := by
  obtain ⟨fI, newId, B, tl, tN, ⟨q0, m0, bN⟩, hN, kN⟩ := N.t
  refine F.okX scThere (fun vs H Q E h => ?_) (fun cdv A' outer s H vs Q E hr h => ?_)
  · obtain ⟨a, v, k, ns, nx, rfl, _⟩ := h
    rfl
  · obtain ⟨a, v, k, ns, nx, rfl, tb, p, h⟩ := h
    refine ⟨_, (pss_one (ps_if (pt_cmpR (op_notInOwn MC hr (by decide)) (pv 1) (pv 0) (by rfl)) (pss_one (ps_raise (W := fun cls d _ H => E cls d H) rfl (takes_of rfl rfl rfl rfl) (pmk_keep bN hN tN N.g (by decide) kN hr (by exact (pa_cons (pv 1) pa_nil))))) pss_nil)), ?_⟩
    have e : EvT (tTest (tOp (rNotInOwn C (spCont C)) (tVar 1) (tVar 0))) [some (.ref a), some v] H (!isIn v ns) := fun H1 e1 Q q => ⟨_, rfl, _, rfl, a, rfl, ins_of (tb.mono e1), a, v, k, ns, nx, rfl, tb.mono e1, p.mono e1, fun H2 e2 => ⟨_, rfl, _, rfl, q H2 e2⟩⟩
    rcases h with ⟨hi, q⟩ | ⟨hi, q⟩
    · rw [hi] at e
      exact s_when e (fun z => nomatch z) fun _ H1 e1 => q H1 e1
    · rw [hi] at e
      exact s_when e (fun _ H1 e1 => ⟨_, rfl, rfl, fun d hd => q d _ upd_same (e1.trans (Ex.new hd))⟩) fun z => nomatch z
theorem scRow : FnScope ["self", "number"] ["self", "number"] (defScope sRow) := ⟨rfl, rfl, rfl, by decide +kernel, rfl, by decide +kernel, by decide +kernel⟩
theorem ok_row {f : Addr} {fd : FuncData} (F : Fun K "row" "Table.row" sRow f fd) (MK : MtX P w K mg base 3 C "_check_there" (spThere C CN)) : FnOk P w K mg base (L2.CX P w) 4 f fd ["self", "number"] (spRow C CN) := by
  refine F.okX scRow (fun vs H Q E h => ?_) (fun cdv A' outer s H vs Q E hr h => ?_)
  · obtain ⟨a, v, k, ns, nx, rfl, _⟩ := h
    rfl
  · obtain ⟨a, v, k, ns, nx, rfl, tb, p, hi, q⟩ := h
    refine ⟨_, (pss_cons (ps_expr (pe_mtX MK (goes_of (W := fun cls d _ H => E cls d H) (takes_of rfl rfl rfl rfl) fun _ _ _ _ h => h) hr (by decide) (pv 0) (pa_cons (pv 1) pa_nil))) pss_never), ?_⟩
    obtain ⟨dx, fs, ha⟩ := ins_of tb
    obtain ⟨dx, Kd, Rw, o1, o2, rows, h1, h2, h3, h4⟩ := id tb
    exact ⟨_, rfl, a, dx, _, rfl, h1, by rfl, _, rfl, a, v, k, ns, nx, rfl, tb, p, .inr ⟨hi, q⟩⟩
abbrev nmVals : List Str := ["self", "values", "column"]
theorem scVals : FnScope nmVals ["self", "values"] (defScope sVals) := ⟨rfl, rfl, rfl, by decide +kernel, rfl, by decide +kernel, by decide +kernel⟩
theorem ok_vals {f : Addr} {fd : FuncData} (F : Fun K "_check_values" "Table._check_values" sVals f fd) (T : TN mg) (TC : TbC K mg C) (EW : ErrE "InvalidRow" K mg CW) (CV : Cl P w K mg base 2 "kind_of_value" spKov) : FnOk P w K mg base (L2.CX P w) 3 f fd ["self", "values"] (spVals C CW) := by
  refine F.okX scVals (fun vs H Q E h => ?_) (fun cdv A' outer s H vs Q E hr h => ?_)
  · obtain ⟨a, v, ns, nx, rfl, _⟩ := h
    rfl
  · obtain ⟨a, v, ns, nx, rfl, tb, hh⟩ := h
    refine ⟨_, (pss_cons (ps_if (pt_not (pt_val ((pe_callB call_isi (by rfl) T.isi PyProof.Rows.boot_isinstance (pa_cons (pv 1) (pa_cons (pe_bltn (v := .ty "dict") (by rfl) T.dict (by decide +kernel) rfl) pa_nil)))))) (pss_one (ps_raise (W := fun cls d _ H => E cls d H) rfl (takes_of rfl rfl rfl rfl) (SkE.pmk_own1 PySem.F.excBase_ValueError EW.x EW.g EW.kC (raises_own EW.be EW.typ) (by rfl) pe_str))) pss_nil)
      (pss_one (ps_for (passes_of rfl) rfl (pi_keys (pv 1)) (pg_name (i := 2) scVals.nd rfl (Or.inl rfl))
        (pss_cons (ps_if (pt_cmp (pc_dnotin (hu_of hr) (pv 2) (pe_fld (pv 0) rfl))) (pss_one (ps_raise (W := fun cls d _ H => E cls d H) rfl (takes_of rfl rfl rfl rfl) (SkE.pmk_own1 PySem.F.excBase_ValueError EW.x EW.g EW.kC (raises_own EW.be EW.typ) (by rfl) pe_str))) pss_nil)
        (pss_one (ps_if (pw_and (pt_cmpR op_notN1 (pe_dget (hu_of hr) (pv 1) (pv 2) (fun _ _ => rfl)) pe_non (nomark _)) (pw_and1 (pt_cmpR op_ne (pe_cl CV hr (by decide) (by rfl) (pa_cons (pe_dget (hu_of hr) (pv 1) (pv 2) (fun _ _ => rfl)) pa_nil)) (pe_dget (hu_of hr) (pe_fld (pv 0) rfl) (pv 2) (fun _ _ => rfl)) (nomark _)))).pt (pss_one (ps_raise (W := fun cls d _ H => E cls d H) rfl (takes_of rfl rfl rfl rfl) (SkE.pmk_own1 PySem.F.excBase_ValueError EW.x EW.g EW.kC (raises_own EW.be EW.typ) (by rfl) pe_str))) pss_nil)))))), ?_⟩
    obtain ⟨dx, KD, Rw, o1, o2, rows, h1, h2, h3, h4⟩ := id tb
    -- one entry
    have one : ∀ {H1 : Hp} {d : Addr} {o : Obj} {k : Key} {u : V} (D : Ends) {z : Option V}, v = .ref d → Ex H H1 → H1 d = some (.frz o (.dK [(k, u)])) →
        ((valV KS k = none ∧ Rs CW E H1) ∨ ∃ (w : Str) (kd : Kd) (r : V), valV KS k = some (.str w) ∧ Pv H1 u kd ∧ Kov u kd r ∧ (r = .non ∨ ∃ x : Str, r = .str x) ∧ u ≠ .non ∧ ((r = .str w ∧ ∀ H', Ex H1 H' → D.nx [some (.ref a), some (.ref d), some (kV k)] H') ∨ (r ≠ .str w ∧ Rs CW E H1))) →
        tSeq (tIfS (tTest (tDNotIn (tVar 2) (tFld K (tVar 0) "_kinds"))) (fun _ _ H => E (.ref CW) none H) tNext) (tIfS (tAnd (tTest (tOp rNotN (tDGet (tVar 1) (tVar 2)) (tC .non))) (tTest (tOp rNe (tCall spKov [] E0 (tCons (tDGet (tVar 1) (tVar 2)) tNil)) (tDGet (tFld K (tVar 0) "_kinds") (tVar 2))))) (fun _ _ H => E (.ref CW) none H) tNext) D [some (.ref a), some (.ref d), some (kV k)] H1 := fun {H1 d o k u} D {z} hv e1 hd h => by
      subst hv
      have fld : Ev (tFld K (tVar 0) "_kinds") [some (.ref a), some (.ref d), some (kV k)] H1 (.ref KD) := ev_fldT (ev_var rfl) (e1 _ _ h1) TC.cl TC.nK (by rfl)
      have t1 : EvT (tTest (tDNotIn (tVar 2) (tFld K (tVar 0) "_kinds"))) [some (.ref a), some (.ref d), some (kV k)] H1 (!(valV KS k).isSome) := et_test fun H2 e2 Q q => ⟨_, rfl, fld H2 e2 _ fun H3 e3 => ⟨KD, valV KS k, rfl, kw_some ((e1.trans (e2.trans e3)) _ _ h2) k, q H3 e3⟩⟩
      rcases h with ⟨hk, q⟩ | ⟨w, kd, r, hk, pu, ku, hr0, hn, h⟩
      · rw [hk] at t1
        exact q_yes t1 fun H2 e2 => q H2 e2
      · rw [hk] at t1
        refine q_not t1 fun H2 e2 => ?_
        have gv : Ev (tDGet (tVar 1) (tVar 2)) [some (.ref a), some (.ref d), some (kV k)] H2 u := ev_dget (ev_var rfl) (ev_var rfl) (e2 _ _ hd) (valV_pos rfl)
        have ne : Ev (tOp rNe (tCall spKov [] E0 (tCons (tDGet (tVar 1) (tVar 2)) tNil)) (tDGet (tFld K (tVar 0) "_kinds") (tVar 2))) [some (.ref a), some (.ref d), some (kV k)] H2 (.bl !decide (r = .str w)) :=
          ev_op (ev_call (ea_cons gv ea_nil) fun H3 e3 Q q E => ⟨_, _, _, rfl, (pu.mono e2).mono e3, ku, fun H4 e4 => q H4 e4⟩) (ev_dget (fld.mono e2) (ev_var rfl) ((e1.trans e2) _ _ h2) hk) (rv_ne (by rcases hr0 with rfl | ⟨x, rfl⟩ <;> rfl))
        have t2 : EvT (tAnd (tTest (tOp rNotN (tDGet (tVar 1) (tVar 2)) (tC .non))) (tTest (tOp rNe (tCall spKov [] E0 (tCons (tDGet (tVar 1) (tVar 2)) tNil)) (tDGet (tFld K (tVar 0) "_kinds") (tVar 2))))) [some (.ref a), some (.ref d), some (kV k)] H2 (!decide (r = .str w)) :=
          et_is (et_and (a := true) (et_is (et_test (ev_op gv ev_c fun H3 e3 Q q => ⟨rfl, q H3 (Ex.refl _)⟩)) (by rw [decide_eq_false hn]; rfl)) fun _ => et_test ne) (Bool.true_and _)
        rcases h with ⟨hw, q⟩ | ⟨hw, q⟩
        · rw [decide_eq_true hw] at t2
          exact s_when t2 (fun z => nomatch z) fun _ H3 e3 => q H3 (e2.trans e3)
        · rw [decide_eq_false hw] at t2
          exact s_when t2 (fun _ H3 e3 => q H3 (e2.trans e3)) fun z => nomatch z
    -- the walk
    have walk : ∀ {H1 : Hp} {d : Addr} {o : Obj} {kvs : List (Key × V)}, v = .ref d → Ex H H1 → H1 d = some (.frz o (.dK kvs)) →
        ((kvs = [] ∧ ∀ H', Ex H H' → Q .non H') ∨ ∃ k u, kvs = [(k, u)] ∧ ((valV KS k = none ∧ Rs CW E H) ∨ ∃ (w : Str) (kd : Kd) (r : V), valV KS k = some (.str w) ∧ Pv H u kd ∧ Kov u kd r ∧ (r = .non ∨ ∃ x : Str, r = .str x) ∧ u ≠ .non ∧ ((r = .str w ∧ ∀ H', Ex H H' → Q .non H') ∨ (r ≠ .str w ∧ Rs CW E H)))) →
        tFor (iKeys (tVar 1)) (gName 2) (tSeq (tIfS (tTest (tDNotIn (tVar 2) (tFld K (tVar 0) "_kinds"))) (fun _ _ H => E (.ref CW) none H) tNext) (tIfS (tAnd (tTest (tOp rNotN (tDGet (tVar 1) (tVar 2)) (tC .non))) (tTest (tOp rNe (tCall spKov [] E0 (tCons (tDGet (tVar 1) (tVar 2)) tNil)) (tDGet (tFld K (tVar 0) "_kinds") (tVar 2))))) (fun _ _ H => E (.ref CW) none H) tNext)) { nx := fun _ H' => Q .non H', rt := Q } [some (.ref a), some v, none] H1 := fun {H1 d o kvs} hv e1 hd h => by
      subst hv
      refine ⟨_, rfl, d, o, rfl, .inl ⟨kvs, hd, ?_⟩⟩
      rcases h with ⟨rfl, q⟩ | ⟨k, u, rfl, h⟩
      · refine for_it (walk_keys (d := d) (o := o) (kvs := [])) (fun i σ H' => H' = H1) rfl (fun i σ H' _ h => by rw [h]; exact hd) (fun i x σ H' H'' hi => nomatch hi) fun σ H' h => by
          rw [h]
          exact q _ e1
      · refine for_it (walk_keys (d := d) (o := o) (kvs := [(k, u)])) (fun i σ H' => Ex H1 H' ∧ (i = 0 → ∃ z, σ = [some (.ref a), some (.ref d), z]) ∧ (i = 1 → ∀ H2, Ex H' H2 → Q .non H2)) ⟨Ex.refl _, fun _ => ⟨_, rfl⟩, fun z => nomatch z⟩ (fun i σ H' _ h => h.1 _ _ hd) (fun i x σ H' H'' hi p y => ?_) fun σ H' p => p.2.2 rfl _ (Ex.refl _)
        obtain ⟨rfl, k', v', hk, rfl⟩ := y
        have i0 : i = 0 := Nat.lt_one_iff.mp hi
        subst i0
        cases hk
        obtain ⟨z, rfl⟩ := p.2.1 rfl
        have e := e1.trans p.1
        refine one _ (z := z) rfl e (p.1 _ _ hd) ?_
        rcases h with ⟨hk, q⟩ | ⟨w, kd, r, hk, pu, ku, hr0, hn, h⟩
        · exact .inl ⟨hk, q.mono e⟩
        · refine .inr ⟨w, kd, r, hk, pu.mono e, ku, hr0, hn, ?_⟩
          rcases h with ⟨hw, q⟩ | ⟨hw, q⟩
          · exact .inl ⟨hw, fun H2 e2 => ⟨p.1.trans e2, (fun z => nomatch z), fun _ H3 e3 => q H3 ((e.trans e2).trans e3)⟩⟩
          · exact .inr ⟨hw, q.mono e⟩
    have isd : ∀ {d : Addr} {o : Obj} {kvs : List (Key × V)}, v = .ref d → H d = some (.frz o (.dK kvs)) → EvT (tNot (tB (tCB (rIsi K) (tCons (tVar 1) (tCons (tC (.ty "dict")) tNil))))) [some (.ref a), some v, none] H false := fun {d o kvs} hv hd => by
      subst hv
      exact et_is (et_not (et_B (ev_isT (.inr (.inr (.inr (.inr rfl)))) (ev_var rfl) (.dct hd)))) (show (!Kd.is .dct "dict") = false by decide)
    rcases hh with ⟨⟨d, o, kvs, rfl, hd, hk⟩, q⟩ | ⟨⟨k, p, hk⟩ | ⟨d, o, k, u, rfl, hd, hk⟩, q⟩
    · refine q_not (isd rfl hd) fun H1 e1 => walk rfl e1 (e1 _ _ hd) ?_
      rcases hk with rfl | rfl | rfl
      · exact .inl ⟨rfl, q⟩
      · exact .inr ⟨_, _, rfl, .inr ⟨"number", _, _, by decide +kernel, .int 1, .int 1, .inr ⟨_, rfl⟩, (fun z => nomatch z), .inl ⟨rfl, q⟩⟩⟩
      · exact .inr ⟨_, _, rfl, .inr ⟨"text", _, _, by decide +kernel, .str "x", .str "x" (by decide), .inr ⟨"text", by decide +kernel⟩, (fun z => nomatch z), .inl ⟨by decide +kernel, q⟩⟩⟩
    · have e : (!k.is "dict") = true := by cases k <;> first | decide | exact absurd rfl hk
      exact q_yes (et_is (et_not (et_B (ev_isT (.inr (.inr (.inr (.inr rfl)))) (ev_var rfl) p))) e) fun H1 e1 => q H1 e1
    · refine q_not (isd rfl hd) fun H1 e1 => walk rfl e1 (e1 _ _ hd) (.inr ⟨k, u, rfl, ?_⟩)
      rcases hk with hk | ⟨w, kd, r, g1, g2, g3, g4, g5⟩
      · exact .inl ⟨hk, q⟩
      · refine .inr ⟨w, kd, r, g1, g3, g4, ?_, g2, .inr ⟨?_, q⟩⟩
        · rcases g5 with h | ⟨x, h, _⟩
          · exact .inl h
          · exact .inr ⟨x, h⟩
        · rintro rfl
          rcases g5 with h | ⟨x, h, hx⟩
          · cases h
          · cases h
            exact hx rfl
abbrev nmChange : List Str := ["self", "number", "values", "row", "column", "worth"]
theorem scChange : FnScope nmChange ["self", "number", "values"] (defScope sChange) := ⟨rfl, rfl, rfl, by decide +kernel, rfl, by decide +kernel, by decide +kernel⟩
theorem ok_change {f : Addr} {fd : FuncData} (F : Fun K "change" "Table.change" sChange f fd) (MK : MtX P w K mg base 3 C "_check_there" (spThere C CN)) (MV : MtX P w K mg base 3 C "_check_values" (spVals C CW)) : FnOk P w K mg base (L2.CX P w) 4 f fd ["self", "number", "values"] (spChange C CN CW) := by
  refine F.okX scChange (fun vs H Q E h => ?_) (fun cdv A' outer s H vs Q E hr h => ?_)
  · obtain ⟨a, v, k, u, ns, nx, rfl, _⟩ := h
    rfl
  · obtain ⟨a, v, k, u, ns, nx, rfl, tb, p, h⟩ := h
    refine ⟨_, (pss_cons (ps_expr (pe_mtX MK (goes_of (W := fun cls d _ H => E cls d H) (takes_of rfl rfl rfl rfl) fun _ _ _ _ h => h) hr (by decide) (pv 0) (pa_cons (pv 1) pa_nil)))
      (pss_cons (ps_expr (pe_mtX MV (goes_of (W := fun cls d _ H => E cls d H) (takes_of rfl rfl rfl rfl) fun _ _ _ _ h => h) hr (by decide) (pv 0) (pa_cons (pv 2) pa_nil))) pss_never)), ?_⟩
    obtain ⟨dx, Kd, Rw, o1, o2, rows, h1, h2, h3, h4⟩ := id tb
    rcases h with ⟨hi, q⟩ | ⟨hi, hb, q⟩
    · exact ⟨_, rfl, a, dx, _, rfl, h1, by rfl, _, rfl, a, v, k, ns, nx, rfl, tb, p, .inr ⟨hi, q⟩⟩
    · refine ⟨_, rfl, a, dx, _, rfl, h1, by rfl, _, rfl, a, v, k, ns, nx, rfl, tb, p, .inl ⟨hi, fun H1 e1 => ?_⟩⟩
      exact ⟨_, rfl, a, dx, _, rfl, e1 _ _ h1, by rfl, _, rfl, a, u, ns, nx, rfl, tb.mono e1, .inr ⟨hb.mono e1, q.mono e1⟩⟩
end
end Q
set_option Elab.async false
set_option linter.all false
set_option maxRecDepth 100000
set_option maxHeartbeats 4000000
/-! a local name gets a dict comprehension; what a local name holds stands fast -/
namespace L2
open PySem PySem.Spec PyProof.Rows
section
variable {X : Cx}
theorem swaps_dc {kx vx : Expr} {gs : List Comprehension} {scope : Scope} {pos py : Pos} {y : Str} {l : Nat} {env : Env} (k : env.scope.kind = .function) (loc : env.scope.names.lookup y = some .local) (line : (py.line == pos.line) = true)
    (own : (scope.names.any fun (n, k) => n == y && (k == .local || k == .cell)) = false) : swapsWith (.DictComp kx vx gs scope pos) (some (.Name y py)) l env = pure true := by
  have h1 : env.kindOf y = some .local := loc
  have h2 : env.blockKind = .function := by
    unfold Env.blockKind
    rw [k]
    rfl
  unfold swapsWith
  simp only [h2, h1, own, Expr.pos, line]
  rfl
theorem ps_setDc {i : Nat} {y : Str} {py : Pos} {kx vx tg iter : Expr} {ifs : List Expr} {scope : Scope} {own : List (Str × Nat)} {pos spos : Pos} {wi : TI} {g : TG} {tt : TT} {tk tv : TE} (hc : X.calm = true) (hN : X.N.Nodup) (hy : X.N[i]? = some y) (hyl : X.env.scope.names.lookup y = some .local)
    (hsw : swapsWith (.DictComp kx vx [⟨tg, iter, ifs, 0⟩] scope pos) (some (.Name y py)) spos.line X.env = pure true) (hi : PI X tg iter wi) (ok : BlkOk X.N X.env.scope scope own)
    (hg : ∀ (s : Shared) (H : Hp) (C : Addr) (cl : List (Str × Addr)) (fp : List Addr), PG (X.blk s H scope (compEnvC scope cl C X.env) fp) tg g) (ht : ∀ (s : Shared) (H : Hp) (C : Addr) (cl : List (Str × Addr)) (fp : List Addr), PTs (X.blk s H scope (compEnvC scope cl C X.env) fp) ifs tt)
    (hk : ∀ (s : Shared) (H : Hp) (C : Addr) (cl : List (Str × Addr)) (fp : List Addr), PE (X.blk s H scope (compEnvC scope cl C X.env) fp) kx tk)
    (he : ∀ (s : Shared) (H : Hp) (C : Addr) (cl : List (Str × Addr)) (fp : List Addr), PE (X.blk s H scope (compEnvC scope cl C X.env) fp) vx tv) (hs : ∀ x, foldedSetIterable iter X.env x = pure x := by intro _; rfl) :
    PS X (.Assign [.Name y py] (.DictComp kx vx [⟨tg, iter, ifs, 0⟩] scope pos) spos) (tAsg (tDc wi g tt tk tv (own.map (·.2))) (gName i)) := by
  constructor
  intro pins s σ H D I h
  rw [exec_Assign_Name_used _ _ _ _ hsw]
  refine wpAny_bind (wpAny_standAt (wpAny_bind ?_))
  show wpAny _ X.A (do let _ ← comprehension (.DictComp kx vx [⟨tg, iter, ifs, 0⟩] scope pos) scope X.env (firstIterPos [⟨tg, iter, ifs, 0⟩] pos) newDict false (eval iter X.env) (some (assign (.Name y py) X.env))) _ _ s
  have h : tDc wi g tt tk tv (own.map (·.2)) σ H (fun x H1 => gName i x σ H1 D.nx) := h
  refine wpAny_bind (thn (dc_core (Qf := fun _ s' => SP X pins D .next s') hc hN I hi ok hg ht hk he hs h ?_) fun _ s' hq => wpAny_pure (wpAny_pure hq))
  intro L C s' m H' I' q hn f
  show wpAny _ _ (assign (.Name y py) X.env (.ref L)) _ _ _
  refine wpAny_assign_Name (store_ok2 (v := V.ref L) I' hN hy (.inl hyl) rfl ?_ (.inr hyl))
  rintro s2 I2 ⟨a, sb, ha⟩
  obtain ⟨f0, f1, f2, f3, f4, f5⟩ := f
  have ne : C ≠ a := by
    rcases ha with z | z
    · rw [z]
      exact f1
    · exact fun e => f4 y a z e.symm
  exact ⟨m, hn.sameBut sb ne, fun h3 sb3 => ⟨_, H', I2.turned (t' := s2.toks) (fun b o hb e => (sb3.2 b hb).trans e) f0 f1 f3 f4 f5, q⟩⟩
/-- what stands at the slot stands fast behind the statement -/
def tSlot (i : Nat) (t : TS) : TS := fun D σ H => t { D with nx := fun σ1 H1 => ∃ a u, σ1[i]? = some (some (.ref a)) ∧ H1 a = some u ∧ Mut (some u) ∧ ∀ od, D.nx σ1 (upd H1 a (.frz od u)) } σ H
theorem ps_slot {st : Stmt} {t : TS} (i : Nat) (h : PS X st t) : PS X st (tSlot i t) := by
  constructor
  intro pins s σ H D I hw
  refine thn (h.run pins s σ H _ I hw) fun f s1 q => ?_
  cases f with
  | next =>
    obtain ⟨σ1, H1, I1, a, u, _, ha, mu, q⟩ := q
    obtain ⟨od, I2⟩ := I1.lock ha mu
    exact ⟨σ1, _, I2, q od⟩
  | brk => exact q
  | cont => exact q
  | ret v => exact q
end
end L2
set_option Elab.async false
set_option linter.all false
set_option maxRecDepth 100000
set_option maxHeartbeats 4000000
/-! tables changed -/
namespace Q
open PySem L2 PySem.Spec PyProof.Rows PySem.Calls PySem.OwnX
open Evl
abbrev sWith : Stmt := inClass (top 125) 10
abbrev sPut : Stmt := inClass (top 125) 7
abbrev sWout : Stmt := inClass (top 125) 9
/-- a method with a star parameter that may raise -/
structure MtR (P : Program) (w : World) (K : PySem.W.Frag) (mg : Str → Option Value) (base : Heap) (k : Nat) (C : Addr) (m : Str) (sp : Sp) : Prop where
  ex : ∃ f : Addr, Cls K C ∧ Meth K C m f ∧ FnR P w K mg base (L2.CX P w) k f sp
section
variable {X : Cx} {k j : Nat} {C : Addr} {m : Str} {sp : Sp} {pos apos : Pos} {e o : Expr} {es : List Expr} {t : TA} {ta : TE} {E : XK}
def tMethR (C : Addr) (m : Str) (sp : Sp) (E : XK) (ta : TE) (t : TA) : TE := fun σ H Q => ta σ H fun x H1 => ∃ a dx fs, x = .ref a ∧ H1 a = some (.ins C dx fs) ∧ fs.lookup m = none ∧ t σ H1 fun vs H2 => sp (x :: vs) H2 Q E
theorem pe_mtR {pl : Sem Bool} (c : MtR X.prog X.w X.K X.mg X.base k C m sp) (go : Goes X E) (hr : Room j X.A) (hk : k ≤ j) (he : PE X o ta) (ha : PA X (e :: es) t)
    (hst : starEach (e :: es) X.env = (false, eval e X.env) :: starEach es X.env := by rfl) (hpl : (backTo pos (starEach es X.env)).any (·.1) = false := by rfl)
    (hm : eval (.Call (.Attribute o m apos) (e :: es) [] pos) X.env = (do
      let z ← eval o X.env
      standAt apos.atName
      let (g, front) ← holding [z] (getMethod z m pl)
      callWith pos g front (backTo pos (starEach (e :: es) X.env)) (backToKw pos (keywordEach [] X.env))) := by rfl) :
    PE X (.Call (.Attribute o m apos) (e :: es) [] pos) (tMethR C m sp E ta t) := by
  obtain ⟨g, h1, h2, F⟩ := c.ex
  refine ⟨fun pins s σ H Q I h => ?_⟩
  refine PySem.W.methodCall_KW (pl := pl) (thn (he.run pins s σ H _ I h) ?_) hm
  rintro u s1 ⟨x, H1, I1, rx, a, dx, fs, rfl, ea, l, q⟩
  obtain rfl : u = Value.ref a := rx
  refine getmeth_ok I1 ea h1 h2 l ?_
  refine PySem.W.callWith_K (first := [.ref a]) (h₀ := X.base) I.ok.mod.kin h2.kp (thn (ha.run pos pins s1 σ H1 _ I1 q) ?_) hst hpl
  rintro us s2 ⟨vs, H2, I2, r, q2⟩
  exact ⟨I2.kIn, wpAny_call (run_fnR (us := .ref a :: us) (vs := .ref a :: vs) F (hr.mono hk) go I2 (.cons rfl r) q2)⟩
theorem pe_mtR0 {pl : Sem Bool} (c : MtR X.prog X.w X.K X.mg X.base k C m sp) (go : Goes X E) (hr : Room j X.A) (hk : k ≤ j) (he : PE X o ta)
    (hm : eval (.Call (.Attribute o m apos) [] [] pos) X.env = (do
      let z ← eval o X.env
      standAt apos.atName
      let (g, front) ← holding [z] (getMethod z m pl)
      callWith pos g front (backTo pos (starEach [] X.env)) (backToKw pos (keywordEach [] X.env))) := by rfl) :
    PE X (.Call (.Attribute o m apos) [] [] pos) (tMethR C m sp E ta tNil) := by
  obtain ⟨g, h1, h2, F⟩ := c.ex
  refine ⟨fun pins s σ H Q I h => ?_⟩
  refine PySem.W.methodCall_KW (pl := pl) (thn (he.run pins s σ H _ I h) ?_) hm
  rintro u s1 ⟨x, H1, I1, rx, a, dx, fs, rfl, ea, l, q⟩
  obtain rfl : u = Value.ref a := rx
  refine getmeth_ok I1 ea h1 h2 l ?_
  exact PySem.W.callWith_K0 (first := [.ref a]) I1.kIn h2.kp (wpAny_call (run_fnR (us := [.ref a]) (vs := [.ref a]) F (hr.mono hk) go I1 (.cons rfl .nil) q))
def rNiDT (K : PySem.W.Frag) : R2 := fun x y H Q => ∃ d ds, Dp K H x d ∧ Dp K H y (.tuple ds) ∧ PyData.canLayAll0 ds = true ∧ d.canLay0 = true ∧ PyData.depthAll ds ≤ 5 ∧ Q (.bl (!ds.any fun z => PyData.eqv z d)) H
theorem op_niDT (hu : X.A.units + 65 < cLine) : OpR X (compareOp .NotIn) (rNiDT X.K) := by
  rintro pins s σ H x y v u Q I rx ry ⟨d, ds, hd, he, sd, se, h5, q⟩
  obtain ⟨as, r1⟩ := Dp.reads I d x v hd rx
  obtain ⟨bs, r2⟩ := Dp.reads I (.tuple ds) y u he ry
  exact SeqAt.notIn_tuple_reads r2 r1 sd se (by omega) ⟨.bl _, H, I, rfl, q⟩
end
def spWith (C : Addr) : Sp := fun vs H Q _ => ∃ a d n ns nx ns2 o rows, vs = [.ref a, .ref d, .int n] ∧ TbA C H a ns nx ∧ H d = some (.frz o (.dK rows)) ∧ rows.map (·.1) = ns2.map Sum.inl ∧ ∀ b H', Ex H H' → TbA C H' b ns2 n → Q (.ref b) H'
def spPut (C CW CM : Addr) : Sp := fun vs H Q E => ∃ a v ns nx, vs = [.ref a, v] ∧ TbA C H a ns nx ∧ ((BadR H v ∧ Rs CW E H) ∨ (GoodR H v ∧ ((60 ≤ ns.length ∧ Rz CM "limit" E H (.int 60)) ∨ (ns.length < 60 ∧ nx ∉ ns ∧ ∀ b H', Ex H H' → TbA C H' b (ns ++ [nx]) (nx + 1) → Q (.ref b) H'))))
def goneN (is ns : List Int) : List Int := ns.filter fun i => !decide (i ∈ is)
/-- numbers that are left out: the first, and one that isn't there; or all there -/
def WoutN (C CN : Addr) (a : Addr) (rest : List V) (ns : List Int) (nx : Int) (H : Hp) (Q : VK) (E : XK) : Prop :=
  (∃ i u k post, rest = .int i :: u :: post ∧ i ∈ ns ∧ post.length ≤ 3 ∧ Pv H u k ∧ isIn u ns = false ∧ Rz CN "value" E H u) ∨
  (∃ is, (is = [] ∨ is = [7, 7, 9]) ∧ rest = is.map V.int ∧ (∀ i ∈ is, i ∈ ns) ∧ ns.Nodup ∧ ns.length ≤ 100 ∧ ∀ b H', Ex H H' → TbA C H' b (goneN is ns) nx → Q (.ref b) H')
def spWout (C CN : Addr) : Sp := fun vs H Q E => ∃ a rest ns nx, vs = .ref a :: rest ∧ TbA C H a ns nx ∧ WoutN C CN a rest ns nx H Q E
def spWoutT (C CN : Addr) : Sp := fun vs H Q E => ∃ a p rest ns nx, vs = [.ref a, .ref p] ∧ H p = some (.tup rest) ∧ TbA C H a ns nx ∧ WoutN C CN a rest ns nx H Q E
section
variable {K : PySem.W.Frag} {σ : L2.St} {H : Hp} {ta tb tk tv te : TE} {E : XK} {C : Addr}
theorem q_asgQ {i : Nat} {D : Ends} {tz : TS} (h : te σ H fun v H1 => tz D (σ.set i (some v)) H1) : tSeq (tAsg te (gName i)) tz D σ H := h
theorem q_slotQ {i : Nat} {D : Ends} {tz : TS} (h : te σ H fun v H1 => ∃ a u, (σ.set i (some v))[i]? = some (some (.ref a)) ∧ H1 a = some u ∧ Mut (some u) ∧ ∀ od, tz D (σ.set i (some v)) (upd H1 a (.frz od u))) : tSeq (tSlot i (tAsg te (gName i))) tz D σ H := h
theorem s_retQ {D : Ends} (h : te σ H D.rt) : tRet te D σ H := h
theorem mx_ex0 {H H2 : Hp} {x dx : Addr} (hx : H x = none) (hd : H dx = none) (m : Mx x (upd (upd H dx (.own x)) x (.ins C dx [])) H2) : Ex H H2 := fun l o h => m l o (fun z => by
  rw [z, hx] at h
  cases h) (by
  rw [upd_ne (fun z => by rw [z, hx] at h; cases h), upd_ne (fun z => by rw [z, hd] at h; cases h)]
  exact h)
theorem any_int (i : Int) : ∀ is : List Int, ((is.map PyData.int).any fun z => PyData.eqv z (.int i)) = decide (i ∈ is)
  | [] => rfl
  | j :: is => by
    rw [List.map_cons, List.any_cons, any_int i is]
    have e : PyData.eqv (.int j) (.int i) = decide (i = j) := by
      have z : PyData.eqv (.int j) (.int i) = (j == i) := by simp [PyData.eqv]
      rw [z, Bool.eq_iff_iff, beq_iff_eq, decide_eq_true_eq]
      exact eq_comm
    rw [e, Bool.eq_iff_iff, Bool.or_eq_true, decide_eq_true_eq, decide_eq_true_eq, decide_eq_true_eq, List.mem_cons]
theorem dp_ints {K : PySem.W.Frag} {H : Hp} : ∀ is : List Int, DpAll K H (is.map V.int) (is.map PyData.int)
  | [] => .nil
  | i :: is => .cons (.int i) (dp_ints is)
/-- {number: row for number, row in self._rows.items() if number not in numbers} -/
theorem go_kept {p Rw : Addr} {wi : TE} {o : Obj} {rows : List (Key × V)} {ns is : List Int} (h : Ev wi σ H (.ref Rw)) (hr : H Rw = some (.frz o (.dK rows))) (hk : rows.map (·.1) = ns.map Sum.inl) (nd : ns.Nodup) (hl : ns.length ≤ 100) (his : is = [] ∨ is = [7, 7, 9]) (hp : H p = some (.tup (is.map V.int)))
    (hw : ∀ x y, wipe (((wipe σ [2, 4]).set 2 (some x)).set 4 (some y)) [2, 4] = wipe σ [2, 4]) (h1 : ∀ x y, (((wipe σ [2, 4]).set 2 (some x)).set 4 (some y))[1]? = some (some (.ref p))) (h2 : ∀ x y, (((wipe σ [2, 4]).set 2 (some x)).set 4 (some y))[2]? = some (some x)) (h4 : ∀ x y, (((wipe σ [2, 4]).set 2 (some x)).set 4 (some y))[4]? = some (some y))
    {Q : VK} (q : ∀ D kvs H', H D = none → Ex H H' → H' D = some (.dK kvs) → kvs.map (·.1) = (goneN is ns).map Sum.inl → Q (.ref D) H') : tDc (iItems wi) (gTup K 2 (gCons (gName 2) (gCons (gName 4) gNil))) (tTest (tOp (rNiDT K) (tVar 2) (tVar 1))) (tVar 2) (tVar 4) [2, 4] σ H Q := by
  refine h H (Ex.refl _) _ fun H1 e1 => ⟨Rw, o, rows, rfl, e1 _ _ hr, fun D hD => ?_⟩
  have ln := congrArg List.length hk
  rw [List.length_map, List.length_map] at ln
  refine dc_it (walk_items (d := Rw) (o := o) (kvs := rows)) (fun i H' => Ex H1 H' ∧ ∃ kv, H' D = some (.dK kv) ∧ kv.map (·.1) = (goneN is (ns.take i)).map Sum.inl) ⟨Ex.new hD, [], upd_same, by rw [List.take_zero]; rfl⟩ (fun i H' _ z => z.1 _ _ (e1 _ _ hr)) (fun i x H3 H4 hlt z y => ?_) fun H' z => ?_
  · obtain ⟨T, u, v, rfl, hT, rfl, hu, hv⟩ := y
    obtain ⟨z1, kv, z2, z3⟩ := z
    have hlt : i < rows.length := hlt
    have hi : ns[i]? = some (ns[i]'(by omega)) := List.getElem?_eq_getElem (by omega)
    generalize ns[i]'(by omega) = n at hi
    have hkey : u = .int n := by
      have hu : (rows[i]?.map fun kv => kV kv.1) = some u := hu
      have e : (rows.map (·.1))[i]? = (ns.map (Sum.inl : Int → Key))[i]? := by rw [hk]
      rw [List.getElem?_map, List.getElem?_map, hi] at e
      cases q : rows[i]? with
      | none => rw [q] at hu; cases hu
      | some kv =>
        rw [q] at hu e
        have e : kv.1 = Sum.inl n := Option.some.inj e
        have hu : kV kv.1 = u := Option.some.inj hu
        rw [← hu, e]
        rfl
    subst hkey
    have e2 := Ex.new (o := .tup [.int n, v]) hT
    have hp4 := e2 _ _ (z1 _ _ (e1 _ _ hp))
    have tk : goneN is (ns.take (i + 1)) = goneN is (ns.take i) ++ (if n ∈ is then [] else [n]) := by
      unfold goneN
      rw [take_snoc hi, List.filter_append]
      congr 1
      by_cases c : n ∈ is
      · rw [if_pos c, List.filter_cons, if_neg (by rw [decide_eq_true c]; decide)]
        rfl
      · rw [if_neg c, List.filter_cons, if_pos (by rw [decide_eq_false c]; rfl)]
        rfl
    refine ⟨T, _, rfl, SqT.of upd_same, rfl, _, _, rfl, _, _, rfl, rfl, hw _ _, _, h2 _ _, _, h1 _ _, .int n, is.map PyData.int, .int n, .tup (SqT.of hp4) (dp_ints is), by rcases his with rfl | rfl <;> decide +kernel, by simp [PyData.canLay0], by rcases his with rfl | rfl <;> decide, ?_⟩
    rw [any_int]
    refine ⟨_, rfl, ?_⟩
    by_cases c : n ∈ is
    · rw [decide_eq_true c]
      dsimp only
      rw [if_neg (by decide)]
      rw [if_pos c, List.append_nil] at tk
      exact ⟨z1.trans e2, kv, e2 _ _ z2, by rw [tk]; exact z3⟩
    · rw [decide_eq_false c]
      dsimp only
      rw [if_pos (by rfl)]
      rw [if_neg c] at tk
      have nk : (Sum.inl n : Key) ∉ kv.map (·.1) := by
        rw [z3]
        intro m
        obtain ⟨j, hj, ej⟩ := List.mem_map.mp m
        cases ej
        have hj := (List.mem_filter.mp hj).1
        have nd2 : (ns.take (i + 1)).Nodup := List.Nodup.sublist (List.take_sublist _ _) nd
        rw [take_snoc hi, List.nodup_append] at nd2
        exact nd2.2.2 n hj n (List.mem_singleton.mpr rfl) rfl
      have nv : valV kv (Sum.inl n : Key) = none := by
        cases hz : valV kv (Sum.inl n : Key) with
        | none => rfl
        | some w => exact absurd (valV_in hz) nk
      have kl := congrArg List.length z3
      rw [List.length_map, List.length_map] at kl
      have gl : (goneN is (ns.take i)).length ≤ 100 := Nat.le_trans (List.length_filter_le _ _) (by rw [List.length_take]; omega)
      refine ⟨_, h2 _ _, _, h4 _ _, kv, .inl n, rfl, e2 _ _ z2, Nat.lt_of_lt_of_le (show kv.length < 101 by omega) (by decide), Ex.mut (z1.trans e2) hD, _, upd_same, ?_⟩
      rw [putK_new _ nv, List.map_append, z3, tk, List.map_append]
      rfl
  · obtain ⟨z1, kv, z2, z3⟩ := z
    rw [List.take_of_length_le (by omega)] at z3
    exact q D kv H' (fresh_back e1 hD) (e1.trans z1) z2 z3
/-- {column: values.get(column) for column in self._kinds} -/
theorem go_row {j i0 dk dv : Addr} {wi : TE} {o1 o2 : Obj} {kvs : List (Key × V)} (h : Ev wi σ H (.ref dk)) (hk : H dk = some (.frz o1 (.dK KS))) (hv : H dv = some (.frz o2 (.dK kvs))) (hw : ∀ x, wipe ((wipe σ [j]).set j (some x)) [j] = wipe σ [j]) (hj : ∀ x, ((wipe σ [j]).set j (some x))[j]? = some (some x)) (hi : ∀ x, ((wipe σ [j]).set j (some x))[i0]? = some (some (.ref dv)))
    {Q : VK} (q : ∀ D H', Ex H H' → Q (.ref D) H') : tDc (iKeys wi) (gName j) tYes (tVar j) (tDGet1 (tVar i0) (tVar j)) [j] σ H Q := by
  refine h H (Ex.refl _) _ fun H1 e1 => ⟨dk, o1, rfl, .inl ⟨KS, e1 _ _ hk, fun D hD => ?_⟩⟩
  refine dc_it (walk_keys (d := dk) (o := o1) (kvs := KS)) (fun i H' => Ex H1 H' ∧ ∃ kv, H' D = some (.dK kv) ∧ kv.length ≤ i) ⟨Ex.new hD, [], upd_same, Nat.le_refl _⟩ (fun i H' _ p => p.1 _ _ (e1 _ _ hk)) (fun i x H3 H4 hlt p y => ?_) fun H' p => q D H' (e1.trans p.1)
  obtain ⟨rfl, k, v, hkv, rfl⟩ := y
  obtain ⟨p1, kv, p2, p3⟩ := p
  have hv4 := p1 _ _ (e1 _ _ hv)
  refine ⟨hw _, yes_ite ⟨_, hj _, _, hi _, dv, rfl, .inl ⟨kvs, .inr ⟨o2, hv4⟩⟩, _, hj _, valV kvs k, kw_some hv4 k, kv, k, rfl, p2, ?_, Ex.mut p1 hD, _, upd_same, ?_⟩⟩
  · have : i < 2 := hlt
    exact Nat.lt_of_le_of_lt p3 (Nat.lt_of_lt_of_le hlt (by decide))
  · have := length_putK kv k ((valV kvs k).getD .non)
    omega
end
section
variable {P : Program} {w : World} {K : PySem.W.Frag} {mg : Str → Option Value} {base : Heap} {C CT CN CW CM aK : Addr}
abbrev nmWith : List Str := ["self", "rows", "next_number", "table"]
theorem scWith : FnScope nmWith ["self", "rows", "next_number"] (defScope sWith) := ⟨rfl, rfl, rfl, by decide +kernel, rfl, by decide +kernel, by decide +kernel⟩
theorem ok_with {f : Addr} {fd : FuncData} (F : Fun K "_with" "Table._with" sWith f fd) (TC : TbC K mg C) (MQ : MqX P w K mg base 2 C (spInit C CT)) : FnOk P w K mg base (L2.CX P w) 4 f fd ["self", "rows", "next_number"] (spWith C) := by
  refine F.okX scWith (fun vs H Q E h => ?_) (fun cdv A' outer s H vs Q E hr h => ?_)
  · obtain ⟨a, d, n, ns, nx, ns2, o, rows, rfl, _⟩ := h
    rfl
  · obtain ⟨a, d, n, ns, nx, ns2, o, rws, rfl, ⟨dx, KD, Rw, o1, o2, rows, h1, h2, h3, h4⟩, hd, hn, q⟩ := h
    refine ⟨_, (pss_cons (ps_set (i := 3) scWith.nd rfl (Or.inl rfl) (pe_mqX MQ (goes_of (W := fun cls d _ H => E cls d H) (takes_of rfl rfl rfl rfl) fun _ _ _ _ h => h) hr (by decide) (by rfl) TC.g (pa_cons (pe_fld (pv 0) rfl) pa_nil)))
      (pss_cons (ps_fld (pv 3) (pv 1) rfl)
      (pss_cons (ps_fld (pv 3) (pv 2) rfl)
      (pss_one (ps_ret (pv 3)))))), ?_⟩
    refine ⟨_, rfl, a, C, dx, _, _, rfl, h1, TC.cl, TC.nK, by rfl, fun x dy nX nD ne => ?_⟩
    refine ⟨x, dy, .ref KD, rfl, upd_same, .inr ⟨KD, o1, rfl, ?_, fun K2 R2 p1 p2 H2 mx hx hK hR => ⟨rfl, ?_⟩⟩⟩
    · rw [upd_ne (fun z => by rw [z, nX] at h2; cases h2), upd_ne (fun z => by rw [z, nD] at h2; cases h2)]
      exact h2
    have e2 : Ex H H2 := mx_ex0 nX nD mx
    have nxd : d ≠ x := fun z => by rw [z, nX] at hd; cases hd
    have nxK : K2 ≠ x := fun z => by rw [z, hx] at hK; cases hK
    refine ⟨_, rfl, _, rfl, x, C, dy, _, rfl, hx, TC.cl, TC.nR, by show 3 < 1000; decide, ?_⟩
    refine ⟨_, rfl, _, rfl, x, C, dy, _, rfl, upd_same, TC.cl, TC.nN, by show 3 < 1000; decide, ?_⟩
    refine ⟨_, rfl, q x _ (fun l ob hl => ?_) ⟨dy, K2, d, p1, o, rws, by rw [upd_same]; rfl, ?_, ?_, hn⟩⟩
    · have nl : l ≠ x := fun z => by rw [z, nX] at hl; cases hl
      rw [upd_ne nl, upd_ne nl]
      exact e2 _ _ hl
    · rw [upd_ne nxK, upd_ne nxK]
      exact hK
    · rw [upd_ne nxd, upd_ne nxd]
      exact e2 _ _ hd
abbrev nmPut : List Str := ["self", "values", "row", "column"]
theorem scPut : FnScope nmPut ["self", "values"] (defScope sPut) := ⟨rfl, rfl, rfl, by decide +kernel, rfl, by decide +kernel, by decide +kernel⟩
theorem ok_put {f : Addr} {fd : FuncData} {t60 : Tok} (F : Fun K "put" "Table.put" sPut f fd) (T : TN mg) (TC : TbC K mg C) (g60 : mg "MAX_ROWS" = some (.int 60 t60)) (M : NumE "TooMany" "limit" P w K mg CM) (MV : MtX P w K mg base 3 C "_check_values" (spVals C CW)) (MW : MtX P w K mg base 4 C "_with" (spWith C)) : FnOk P w K mg base (L2.CX P w) 5 f fd ["self", "values"] (spPut C CW CM) := by
  obtain ⟨fI, newId, B, tl, tM, ⟨q0, m0, bM⟩, hM, kM⟩ := M.t
  refine F.okX scPut (fun vs H Q E h => ?_) (fun cdv A' outer s H vs Q E hr h => ?_)
  · obtain ⟨a, v, ns, nx, rfl, _⟩ := h
    rfl
  · obtain ⟨a, v, ns, nx, rfl, tb, h⟩ := h
    refine ⟨_, (pss_cons (ps_expr (pe_mtX MV (goes_of (W := fun cls d _ H => E cls d H) (takes_of rfl rfl rfl rfl) fun _ _ _ _ h => h) hr (by decide) (pv 0) (pa_cons (pv 1) pa_nil)))
      (pss_cons (ps_if (pt_cmpR op_ge (pe_callB d_lenR (by rfl) T.len PySem.boot_len (pa_cons (pe_fld (pv 0) rfl) pa_nil)) (pe_glob (v := .int 60) (by rfl) g60 ⟨_, rfl⟩) (nomark _)) (pss_one (ps_raise (W := fun cls d _ H => E cls d H) rfl (takes_of rfl rfl rfl rfl) (pmk_keep bM hM tM M.g (by decide) kM hr (by exact (pa_cons (pe_glob (v := .int 60) (by rfl) g60 ⟨_, rfl⟩) pa_nil))))) pss_nil)
      (pss_cons (ps_setDc (i := 2) (own := [("column", 3)]) (g := gName 3) (by rfl) scPut.nd rfl rfl (swaps_dc rfl rfl rfl (by decide +kernel)) (pi_keys (pe_fld (pv 0) rfl)) (blkOk_by (own := [("column", 3)]) (N := nmPut) (sc := defScope sPut) (by decide +kernel)) (fun _ _ _ _ _ => by exact pg_name (i := 3) scPut.nd rfl (Or.inl rfl)) (fun _ _ _ _ _ => pts_nil) (tk := tVar 3) (fun _ _ _ _ _ => by exact (pv 3)) (tv := tDGet1 (tVar 1) (tVar 3)) (fun _ _ _ _ _ => by exact (pe_dget1 (hu_of hr) (pv 1) (pv 3) ⟨by rfl, by rfl, by rfl, by rfl⟩)))
      (pss_one (ps_ret (pe_mtX MW (goes_of (W := fun cls d _ H => E cls d H) (takes_of rfl rfl rfl rfl) fun _ _ _ _ h => h) hr (by decide) (pv 0) (pa_cons (pe_fast (DStar.pe_star1 (pe_fld (pv 0) rfl) (pe_fld (pv 0) rfl) (pv 2))) (pa_cons (pe_op op_add (pe_fld (pv 0) rfl) pe_int) pa_nil)))))))), ?_⟩
    obtain ⟨dx, KD, Rw, o1, o2, rows, h1, h2, h3, h4⟩ := id tb
    refine ⟨_, rfl, a, dx, _, rfl, h1, by rfl, _, rfl, a, v, ns, nx, rfl, tb, ?_⟩
    rcases h with ⟨hb, q⟩ | ⟨hg, h⟩
    · exact .inr ⟨hb, q⟩
    refine .inl ⟨hg, fun H1 e1 => ?_⟩
    dsimp only
    obtain ⟨dv, ov, kvs, rfl, hv, _⟩ := hg
    have ln := congrArg List.length h4
    rw [List.length_map, List.length_map] at ln
    have ge : EvT (tTest (tOp rGe (tCB (fun xs H Q => ∃ a kvs, xs = [V.ref a] ∧ Rd H a (.dK kvs) ∧ Q (.int kvs.length) H) (tCons (tFld K (tVar 0) "_rows") tNil)) (tC (.int 60)))) [some (.ref a), some (.ref dv), none, none] H1 (decide ((60 : Int) ≤ rows.length)) := et_test (ev_op (ev_lenDict (ev_fldT (ev_var rfl) (e1 _ _ h1) TC.cl TC.nR (by rfl)) (e1 _ _ h3)) ev_c rv_I0)
    rcases h with ⟨hl, q⟩ | ⟨hl, hn, qk⟩
    · rw [decide_eq_true (by omega)] at ge
      exact q_yes ge fun H2 e2 => ⟨rfl, fun d hd => q d _ upd_same ((e1.trans e2).trans (Ex.new hd))⟩
    · rw [decide_eq_false (by omega)] at ge
      refine q_not ge fun H2 e2 => ?_
      have e12 := e1.trans e2
      refine q_asgQ (go_row (σ := [some (.ref a), some (.ref dv), none, none]) (j := 3) (i0 := 1) (dk := KD) (dv := dv) (ev_fldT (ev_var rfl) (e12 _ _ h1) TC.cl TC.nK (by rfl)) (e12 _ _ h2) (e12 _ _ hv) (fun _ => rfl) (fun _ => rfl) (fun _ => rfl) fun D H3 e3 => ?_)
      have e13 := e12.trans e3
      refine s_retQ ⟨_, rfl, a, dx, _, rfl, e13 _ _ h1, by rfl, fun p hp => ?_⟩
      have ep := Ex.new (o := .dK []) hp
      have rp : Rw ≠ p := fun z => by rw [← z, e13 _ _ h3] at hp; cases hp
      refine ⟨_, rfl, a, C, dx, _, _, rfl, ep _ _ (e13 _ _ h1), TC.cl, TC.nR, by rfl, Rw, rows, rfl, .inr ⟨o2, ep _ _ (e13 _ _ h3)⟩, rp, upd_same, Nat.lt_of_lt_of_le (show rows.length < 60 by omega) (by decide), fun q hq => ?_⟩
      have e4 : Ex H3 (upd (upd (upd H3 p (.dK [])) p (.dK rows)) q (.dK [])) := fun l ob hl => by
        have np : l ≠ p := fun z => by rw [z, hp] at hl; cases hl
        have nq : l ≠ q := fun z => by rw [← z, upd_ne np, upd_ne np, hl] at hq; cases hq
        rw [upd_ne nq, upd_ne np, upd_ne np]
        exact hl
      have npq : p ≠ q := fun z => by rw [← z, upd_same] at hq; cases hq
      have qn : H3 q = none := by
        rw [upd_ne (Ne.symm npq), upd_ne (Ne.symm npq)] at hq
        exact hq
      refine ⟨_, rfl, a, C, dx, _, _, rfl, e4 _ _ (e13 _ _ h1), TC.cl, TC.nN, by rfl, .inl nx, rfl, _, rfl, by rw [upd_ne npq, upd_same], upd_same, p, _, rfl, upd_same, True.intro, fun od => ?_⟩
      have pk : putK rows (.inl nx) (.ref D) = rows ++ [(.inl nx, .ref D)] := putK_new _ (by
        have z := in_rows h4 nx
        rw [decide_eq_false hn] at z
        cases hz : valV rows (Sum.inl nx : Key) with
        | none => rfl
        | some u => rw [hz] at z; cases z)
      rw [pk]
      generalize hHf : upd (upd (upd (upd (upd (upd H3 p (.dK [])) p (.dK rows)) q (.dK [])) q (.dK [(.inl nx, .ref D)])) p (.dK (rows ++ [(.inl nx, .ref D)]))) p (.frz od (.dK (rows ++ [(.inl nx, .ref D)]))) = Hf
      have e5 : Ex H3 Hf := fun l ob hl => by
        have np : l ≠ p := fun z => by rw [z, hp] at hl; cases hl
        have nq : l ≠ q := fun z => by rw [z, qn] at hl; cases hl
        rw [← hHf, upd_ne np, upd_ne np, upd_ne nq, upd_ne nq, upd_ne np, upd_ne np]
        exact hl
      have hp5 : Hf p = some (.frz od (.dK (rows ++ [(.inl nx, .ref D)]))) := by rw [← hHf, upd_same]
      refine ⟨_, rfl, a, C, dx, _, _, rfl, e5 _ _ (e13 _ _ h1), TC.cl, TC.nN, by rfl, nx, 1, rfl, rfl, ?_⟩
      refine ⟨a, p, nx + 1, ns, nx, ns ++ [nx], od, _, rfl, tb.mono (e13.trans e5), hp5, by rw [List.map_append, List.map_append, h4]; rfl, fun b H' e' t => qk b H' ((e13.trans e5).trans e') t⟩
abbrev nmWout : List Str := ["self", "numbers", "number", "kept", "row"]
theorem scWout : FnScope nmWout ([("self" : Str)] ++ [("numbers" : Str)]) (defScope sWout) := ⟨rfl, rfl, rfl, by decide +kernel, rfl, by decide +kernel, by decide +kernel⟩
theorem ok_wout {f : Addr} {fd : FuncData} (F : Fun K "without" "Table.without" sWout f fd) (T : TN mg) (TC : TbC K mg C) (MK : MtX P w K mg base 3 C "_check_there" (spThere C CN)) (MW : MtX P w K mg base 4 C "_with" (spWith C)) : FnR P w K mg base (L2.CX P w) 6 f (spWout C CN) := by
  obtain ⟨oc, od, kV, doc, pm, an, cdv, ct, osl, rfl, lk, hcd⟩ := F.ex
  have z := StX.fn_star (P := P) (w := w) (mg := mg) (base := base) (CX := L2.CX P w) (k := 5) (N := nmWout) (ps := ["self"]) (pv := "numbers") (sp := spWoutT C CN) lk hcd scWout StX.cxUp (fun us rest h => StX.bind_star1 (B := fun us => bindArgs (PySem.W.fnOf "without" "Table.without" (defArgs sWout) (defBody sWout) (defScope sWout) .none kV doc pm an cdv ct) ⟨us, []⟩) (fun _ => rfl) (fun _ _ _ => rfl) us rest h) (fun A' outer s H vs Q E hr h => ?_)
  · refine z.imp fun vs H Q E h => ?_
    obtain ⟨a, rest, ns, nx, rfl, tb, h⟩ := h
    refine ⟨[.ref a], rest, rfl, rfl, ?_, fun p hp => ⟨a, p, rest, ns, nx, rfl, upd_same, tb.mono (Ex.new hp), ?_⟩⟩
    · rcases h with ⟨i, u, k, post, rfl, hi, hl, _⟩ | ⟨is, his, rfl, _⟩
      · exact Nat.le_trans (show post.length + 1 + 1 ≤ 5 by omega) (by decide)
      · rcases his with rfl | rfl <;> exact Nat.le_trans (show _ ≤ 3 by decide) (by decide)
    · rcases h with ⟨i, u, k, post, e, hi, hl, p1, p2, p3⟩ | ⟨is, his, e, h1, h2, h3, h4⟩
      · exact .inl ⟨i, u, k, post, e, hi, hl, p1.mono (Ex.new hp), p2, p3.mono (Ex.new hp)⟩
      · exact .inr ⟨is, his, e, h1, h2, h3, fun b H' e' => h4 b H' ((Ex.new hp).trans e')⟩
  · obtain ⟨a, p, rest, ns, nx, rfl, hp, tb, h⟩ := h
    have hun : (A'.deeper (envOfC (Str.ofString "Table.without") (defScope sWout) s.heap.objs.size f cdv)).units + 65 < cLine := by
      have := hr.un
      omega
    refine ⟨_, (pss_cons (ps_for (passes_of rfl) rfl (pi_tup (pv 1)) (pg_name (i := 2) scWout.nd rfl (Or.inl rfl))
        (pss_one (ps_expr (pe_mtX MK (goes_of (W := fun cls d _ H => E cls d H) (takes_of rfl rfl rfl rfl) fun _ _ _ _ h => h) hr (by decide) (pv 0) (pa_cons (pv 2) pa_nil)))))
      (pss_cons (ps_slot 3 (ps_setDc (i := 3) (own := [("number", 2), ("row", 4)]) (g := gTup K 2 (gCons (gName 2) (gCons (gName 4) gNil))) (by rfl) scWout.nd rfl rfl (swaps_dc rfl rfl rfl (by decide +kernel)) (pi_items (pe_fld (pv 0) rfl) (by rfl) (by rfl)) (blkOk_by (own := [("number", 2), ("row", 4)]) (N := nmWout) (sc := defScope sWout) (by decide +kernel)) (fun _ _ _ _ _ => by exact (pg_tup (by rfl) (pgs_cons (pg_name (i := 2) scWout.nd rfl (Or.inl rfl)) (pgs_cons (pg_name (i := 4) scWout.nd rfl (Or.inl rfl)) pgs_nil)))) (tt := tTest (tOp (rNiDT K) (tVar 2) (tVar 1))) (fun _ _ _ _ _ => by exact (pts_one (pt_cmpR (op_niDT hun) (pv 2) (pv 1) (by rfl)))) (tk := tVar 2) (fun _ _ _ _ _ => by exact (pv 2)) (tv := tVar 4) (fun _ _ _ _ _ => by exact (pv 4))))
      (pss_one (ps_ret (pe_mtX MW (goes_of (W := fun cls d _ H => E cls d H) (takes_of rfl rfl rfl rfl) fun _ _ _ _ h => h) hr (by decide) (pv 0) (pa_cons (pv 3) (pa_cons (pe_fld (pv 0) rfl) pa_nil))))))), ?_⟩
    obtain ⟨dx, KD, Rw, o1, o2, rows, h1, h2, h3, h4⟩ := id tb
    have chk : ∀ {H1 : Hp} {u : V} {k : Kd} {z : Option V} (D : Ends), Ex H H1 → Pv H1 u k → ((isIn u ns = true ∧ ∀ H', Ex H1 H' → D.nx [some (.ref a), some (.ref p), some u, none, none] H') ∨ (isIn u ns = false ∧ Rz CN "value" E H1 u)) → tDrop (tMeth C "_check_there" (spThere C CN) [] E (tVar 0) (tCons (tVar 2) tNil)) D [some (.ref a), some (.ref p), some u, none, none] H1 := fun {H1 u k z} D e1 pu hu => by
      refine ⟨_, rfl, a, dx, _, rfl, e1 _ _ h1, by rfl, _, rfl, a, u, k, ns, nx, rfl, tb.mono e1, pu, ?_⟩
      rcases hu with ⟨hi, q⟩ | ⟨hi, q⟩
      · exact .inl ⟨hi, fun H' e' => q H' e'⟩
      · exact .inr ⟨hi, q⟩
    refine ⟨_, rfl, p, rfl, ⟨_, SqT.of hp⟩, ?_⟩
    rcases h with ⟨i, u, k, post, rfl, hi, hl, pu, hu, q⟩ | ⟨is, his, rfl, hm, nd, nl, q⟩
    · refine for_tup (xs := .int i :: u :: post) (fun j σ H' => Ex H H' ∧ j ≤ 1 ∧ ∃ z, σ = [some (.ref a), some (.ref p), z, none, none]) ⟨Ex.refl _, Nat.zero_le _, _, rfl⟩ (fun j σ H' _ z => SqT.of (z.1 _ _ hp)) (fun j x σ H' hx z => ?_) (fun σ H' z => ?_)
      · obtain ⟨e1, j1, z, rfl⟩ := z
        match j, j1, hx with
        | 0, _, hx =>
          cases hx
          exact chk _ (z := none) e1 (.int i) (.inl ⟨decide_eq_true hi, fun H2 e2 => ⟨e1.trans e2, Nat.le_refl _, _, rfl⟩⟩)
        | 1, _, hx =>
          cases hx
          exact chk _ (z := none) e1 (pu.mono e1) (.inr ⟨hu, q.mono e1⟩)
      · have z := z.2.1
        rw [List.length_cons, List.length_cons] at z
        omega
    · refine for_tup (xs := is.map V.int) (fun j σ H' => Ex H H' ∧ ∃ z, σ = [some (.ref a), some (.ref p), z, none, none]) ⟨Ex.refl _, _, rfl⟩ (fun j σ H' _ z => SqT.of (z.1 _ _ hp)) (fun j x σ H' hx z => ?_) (fun σ H' z => ?_)
      · obtain ⟨e1, z, rfl⟩ := z
        rw [List.getElem?_map] at hx
        obtain ⟨i, hi, rfl⟩ := Option.map_eq_some_iff.mp hx
        exact chk _ (z := none) e1 (.int i) (.inl ⟨decide_eq_true (hm i (List.mem_of_getElem? hi)), fun H2 e2 => ⟨e1.trans e2, _, rfl⟩⟩)
      · obtain ⟨e1, z, rfl⟩ := z
        dsimp only
        refine q_slotQ (go_kept (K := K) (σ := [some (.ref a), some (.ref p), z, none, none]) (ns := ns) (is := is) (p := p) (Rw := Rw) (o := o2) (rows := rows) (ev_fldT (ev_var (i := 0) rfl) (e1 _ _ h1) TC.cl TC.nR (by rfl)) (e1 _ _ h3) h4 nd nl his (e1 _ _ hp) (fun _ _ => rfl) (fun _ _ => rfl) (fun _ _ => rfl) (fun _ _ => rfl) fun D kvs H2 nD e2 hD hk => ?_)
        have e12 := e1.trans e2
        refine ⟨D, _, rfl, hD, True.intro, fun od => ?_⟩
        have e3 : Ex H (upd H2 D (.frz od (.dK kvs))) := Ex.mut e12 (fresh_back e1 nD)
        refine s_retQ ⟨_, rfl, a, dx, _, rfl, e3 _ _ h1, by rfl, _, rfl, _, rfl, a, C, dx, _, _, rfl, e3 _ _ h1, TC.cl, TC.nN, by rfl, a, D, nx, ns, nx, goneN is ns, od, kvs, rfl, tb.mono e3, upd_same, hk, fun b H' e' t => q b H' (e3.trans e') t⟩
end
end Q
set_option Elab.async false
set_option linter.all false
set_option maxRecDepth 100000
set_option maxHeartbeats 4000000
/-! a, *b = a tuple -/
namespace L2
open PySem PySem.Spec PyProof.Rows PySem.Calls PySem.W
section
variable {prog : Program} {w : World} {A : Around} {E : Value → Shared → Prop} {s : Shared} {env : Env}
theorem star_unpack {l : Addr} {items : Array Value} {x : Value} {xs : List Value} {Q : List Value → Shared → Prop} (hl : IsTup s.heap l items) (hh : A.handled = none) (hx : items.toList = x :: xs) (hz : items.size ≤ 16384)
    (h : ∀ (h' : Heap) (tk : Nat), (∀ b o, s.heap.get? b = some o → h'.get? b = some o) → Q [x, .ref h'.objs.size] { s with heap := h'.push { cls := .type "list", data := .seq xs.toArray }, toks := tk }) : wpAny (model prog w) A (unpackItems (.ref l) 2 (some 1)) Q E s := by
  have sz : items.size = xs.length + 1 := by
    have z := congrArg List.length hx
    rw [Array.length_toList, List.length_cons] at z
    exact z
  have below : l < s.heap.objs.size := by
    obtain ⟨o, ho, _⟩ := hl
    exact Heap.lt_size ho
  have ne : l ≠ s.heap.objs.size := Nat.ne_of_lt below
  unfold unpackItems
  refine wpAny_bind ?_
  unfold notIterableAtAll
  refine wpAny_bind (wpAny_specialOf hl.typeIs slot_tuple_iter.lookup ?_)
  refine wpAny_pure ?_
  simp only [Bool.false_eq_true, if_false]
  refine wpAny_bind (wpAny_holding (iter_tuple hl ?_))
  refine wpAny_bind (wpAny_holding (draw_tuple ne 1 0 _ _ ⟨_, Heap.get?_push_size _ rfl, rfl, rfl⟩ (hl.push _) (by omega) fun h₁ hit₁ hs₁ => ?_))
  have hl₁ : IsTup h₁ l items := (hl.push _).extBut hs₁.extBut ne
  rw [Nat.zero_add] at hit₁
  obtain ⟨oi, hoi, _⟩ := id hit₁
  obtain ⟨ol, hol, _⟩ := id hl₁
  have tk1 : (items.toList.drop 0).take 1 = [x] := by
    rw [hx]
    rfl
  rw [tk1, if_neg (show ¬ ([x].length < 1) by simp)]
  refine wpAny_bind (wpAny_holding (kun_collect (s := { s with heap := h₁ }) (T := "tuple_iterator") (.inr (.inr (.inr rfl))) (Walks.tuple (A := A.in1) hh s.heap.objs.size l ne items) (fun j u st => st.1.typeIs) (k := 1) (by omega) ⟨hit₁, hl₁⟩ (Heap.lt_size hoi) (Heap.lt_size hol) (fun h₂ tk hk => ?_) (by rw [sizeLine_eq]; omega)))
  have dr : items.toList.drop 1 = xs := by
    rw [hx]
    rfl
  rw [dr]
  show wpAny _ _ (if xs.length < 2 - 1 - 1 then _ else _) _ _ _
  rw [if_neg (by omega)]
  show wpAny _ _ (newList (xs.take (xs.length - 0)) >>= fun d => pure ([x] ++ [d] ++ xs.drop (xs.length - 0))) _ _ _
  have e1 : xs.take (xs.length - 0) = xs := List.take_of_length_le (by omega)
  have e2 : xs.drop (xs.length - 0) = [] := List.drop_eq_nil_of_le (by omega)
  rw [e1, e2]
  have keep : ∀ b o, s.heap.get? b = some o → h₂.get? b = some o := fun b o e => by
    have nb : b ≠ s.heap.objs.size := Nat.ne_of_lt (Heap.lt_size e)
    exact hk b o nb (hs₁.extBut b o nb (Heap.get?_push_of_some _ e))
  exact wpAny_bind (wpAny_newList (s := { s with heap := h₂, toks := tk }) (wpAny_pure (h h₂ tk keep)) (by rw [sizeLine_eq]; omega))
end
/-- (x, *rest) = a tuple -/
def gStar (K : PySem.W.Frag) (t1 t2 : TG) : TG := fun v σ H Q => ∃ a x xs, v = .ref a ∧ SqT K H a (x :: xs) ∧ xs.length ≤ 1000 ∧ ∀ D, H D = none → t1 x σ (upd H D (.lst xs)) fun σ1 H1 => t2 (.ref D) σ1 H1 Q
section
variable {X : Cx}
theorem pg_star2 {e1 e2 : Expr} {k : Nat} {pos p2 : Pos} {t1 t2 : TG} (hc : X.calm = true) (h1 : PG X e1 t1) (h2 : PG X e2 t2) (hst : assignEach [e1, .Starred e2 p2] X.env = [(false, assign e1 X.env), (true, assign e2 X.env)] := by rfl) :
    PG X (.Tuple [e1, .Starred e2 p2] k pos) (gStar X.K t1 t2) := by
  constructor
  rintro pins s σ H v u Q I r ⟨a, x, xs, rfl, hq, hl, hw⟩
  cases r
  obtain ⟨its, rv, ht, hz⟩ := I.tuple hq
  cases rv with
  | @cons _ y _ ys ry rys =>
    have len := rys.length
    rw [assign_Tuple]
    refine wpAny_bind (wpAny_standAt ?_)
    unfold unpack
    rw [hst]
    refine wpAny_bind (wpAny_holding (star_unpack (x := y) (xs := ys) ht (I.ok.hd hc) (by simp) (by simp only [List.size_toArray, List.length_cons]; omega) fun h' tk keep => ?_))
    have I1 : Inv X pins σ H { s with heap := h', toks := tk } := I.kept keep
    have I2 : Inv X pins σ (upd H h'.objs.size (.lst xs)) { s with heap := h'.push { cls := .type "list", data := .seq ys.toArray }, toks := tk } := I1.laid (a := h'.objs.size) (o := .lst xs) (t' := tk) (fun _ _ e => Heap.get?_push_of_some _ e) (Nat.le_refl _)
      (show ObjOk X.prog X.w _ _ _ (.lst xs) from ⟨Nat.le_trans hl (by decide), ys, 0, rys, by simpa using Heap.get?_push_size h' rfl⟩)
    show wpAny _ _ (assignInOrder [assign e1 X.env, assign e2 X.env] [y, .ref h'.objs.size]) _ _ _
    refine assignInOrder_cons (thn (h1.run pins _ σ _ _ _ _ I2 ry (hw _ (I1.hok.fresh (Nat.le_refl _)))) ?_)
    rintro _ s1 ⟨σ1, H1, I3, q1⟩
    refine assignInOrder_cons (thn (h2.run pins s1 σ1 H1 (.ref h'.objs.size) _ _ I3 rfl q1) ?_)
    rintro _ s2 ⟨σ2, H2, I4, q2⟩
    exact assignInOrder_nil ⟨σ2, H2, I4, q2⟩
end
end L2
set_option Elab.async false
set_option linter.all false
set_option maxRecDepth 100000
set_option maxHeartbeats 4000000
/-! terms -/
namespace Q
open PySem L2 PySem.Spec PyProof.Rows PySem.Calls PySem.OwnX
open Evl
abbrev sPlain : Stmt := top 134
abbrev sKot : Stmt := top 129
abbrev sTwi : Stmt := top 130
abbrev sCof : Stmt := top 147
abbrev sTof : Stmt := top 148
abbrev colA : PyData := .tuple [.str "column", .str "a"]
inductive PT : PyData → V → Prop where
  | one : PT (.tuple [.str "column"]) .non
  | colc : PT (.tuple [.str "column", .str "c"]) .non
  | cola : PT colA (.str "number")
  | valN : PT (.tuple [.str "value", .none]) .non
inductive KT : PyData → V → Prop where
  | emp : KT (.tuple []) .non
  | pl {d : PyData} {r : V} (h : PT d r) : KT d r
  | area : KT (.tuple [.str "area", colA]) .non
/-- a term and its kind -/
def TermK (H : Hp) (v : V) (r : V) : Prop := (∃ k, Pv H v k ∧ k ≠ .tup ∧ r = .non) ∨ ∃ d, TD1 H v d ∧ KT d r
theorem TermK.mono {H H' : Hp} (e : Ex H H') {v r : V} (h : TermK H v r) : TermK H' v r := by
  rcases h with ⟨k, p, h1, h2⟩ | ⟨d, x, h⟩
  · exact .inl ⟨k, p.mono e, h1, h2⟩
  · exact .inr ⟨d, x.mono e, h⟩
def spPlain : Sp := fun vs H Q _ => ∃ kd v d r, vs = [.ref kd, v] ∧ Rd H kd (.dK KS) ∧ TD1 H v d ∧ PT d r ∧ ∀ H', Ex H H' → Q r H'
def spKot : Sp := fun vs H Q _ => ∃ kd v r, vs = [.ref kd, v] ∧ Rd H kd (.dK KS) ∧ TermK H v r ∧ ∀ H', Ex H H' → Q r H'
def spTwi : Sp := fun vs H Q _ => ∃ v, vs = [v] ∧ TD1 H v colA ∧ ∀ u H', Ex H H' → TD1 H' u (.tuple []) → Q u H'
def okC : PyData := .tuple [.str "missing", colA]
def spCof : Sp := fun vs H Q _ => ∃ v, vs = [v] ∧ TD1 H v okC ∧ ∀ u H', Ex H H' → TD1 H' u (.tuple []) → Q u H'
def spTof : Sp := fun vs H Q _ => ∃ v, vs = [v] ∧ TD1 H v okC ∧ ∀ t l1 l2 u H', Ex H H' → H' t = some (.tup [.ref l1, .ref l2]) → H' l1 = some (.lst [u]) → H' l2 = some (.lst []) → Q (.ref t) H'
theorem rd_mono {H H' : Hp} {a : Addr} {u : HO} (e : Ex H H') (h : Rd H a u) : Rd H' a u := by
  rcases h with h | ⟨o, h⟩
  · exact .inl (e _ _ h)
  · exact .inr ⟨o, e _ _ h⟩
section
variable {K : PySem.W.Frag} {σ : L2.St} {H : Hp} {ta tb te : TE} {E : XK} {v : V} {d : PyData} {ds : List PyData} {D : Ends} {tz : TS}
theorem pv_tup (x : TD1 H v (.tuple ds)) : Pv H v .tup := by
  obtain ⟨a, xs, rfl, ha, _⟩ := x.tup
  exact .tup ha
theorem et_tru (h : EvD te σ H (.tuple ds)) : EvT (fun σ H Q => te σ H fun x H' => ∃ k, TruV K x H' k ∧ Q k H') σ H (!ds.isEmpty) := fun H1 e Q q => h H1 e _ fun u H2 e2 x => by
  obtain ⟨a, xs, rfl, ha, t⟩ := x.tup
  refine ⟨!xs.isEmpty, .inr (.inl ⟨xs, SqT.of ha, rfl⟩), ?_⟩
  have l := t.len
  have e3 : xs.isEmpty = ds.isEmpty := by
    cases xs <;> cases ds <;> first | rfl | (simp at l)
  rw [e3]
  exact q H2 e2
theorem et_truL {a : Addr} {xs : List V} (h : Ev te σ H (.ref a)) (ha : H a = some (.lst xs)) : EvT (fun σ H Q => te σ H fun x H' => ∃ k, TruV K x H' k ∧ Q k H') σ H (!xs.isEmpty) := fun H1 e Q q => h H1 e _ fun H2 e2 => ⟨_, .inl ⟨xs, SqL.of ((e.trans e2) _ _ ha), rfl⟩, q H2 e2⟩
theorem ev_inD (h1 : EvD ta σ H d) (h2 : EvD tb σ H (.tuple ds)) (s1 : PyData.canLayAll0 ds = true) (s2 : d.canLay0 = true) (h5 : PyData.depthAll ds ≤ 5) : Ev (tOp (rInDT K) ta tb) σ H (.bl (ds.any fun z => PyData.eqv z d)) := fun H1 e Q q =>
  h1 H1 e _ fun u H2 e2 a => h2 H2 (e.trans e2) _ fun v H3 e3 b => ⟨d, ds, (a.mono e3).dp, b.dp, s1, s2, h5, q H3 (e2.trans e3)⟩
theorem ev_lenSeq {a : Addr} {xs : List V} (h : Ev te σ H (.ref a)) (ha : H a = some (.lst xs)) : Ev (tCB (rLenS K) (tCons te tNil)) σ H (.int (xs.length : Int)) := ev_len h (SqL.of ha)
theorem ev_lenTup (h : EvD te σ H (.tuple ds)) : Ev (tCB (rLenS K) (tCons te tNil)) σ H (.int (ds.length : Int)) := fun H1 e Q q => h H1 e _ fun u H2 e2 x => by
  obtain ⟨a, xs, rfl, ha, t⟩ := x.tup
  exact ⟨a, xs, rfl, .inr (SqT.of ha), by rw [t.len]; exact q H2 e2⟩
theorem q_unpE {i1 i2 : Nat} {d1 d2 : PyData} (h : EvD te σ H (.tuple [d1, d2])) (k : ∀ v1 v2 H1, Ex H H1 → TD1 H1 v1 d1 → TD1 H1 v2 d2 → tz D ((σ.set i1 (some v1)).set i2 (some v2)) H1) : tSeq (tAsg te (gTup K 2 (gCons (gName i1) (gCons (gName i2) gNil)))) tz D σ H := h H (Ex.refl H) _ fun v H1 e x => by
  obtain ⟨a, xs, rfl, ha, y⟩ := x.tup
  obtain ⟨u1, y1, rfl, x1, y⟩ := y.inv
  obtain ⟨u2, y2, rfl, x2, y⟩ := y.inv
  cases y.inv0
  exact ⟨a, _, rfl, SqT.of ha, rfl, u1, _, rfl, u2, _, rfl, rfl, k u1 u2 H1 e x1 x2⟩
theorem q_star {i1 i2 : Nat} {d1 : PyData} (h : EvD te σ H (.tuple (d1 :: ds))) (hl : ds.length ≤ 1000) (k : ∀ v1 l xs H1, Ex H H1 → TD1 H1 v1 d1 → H1 l = some (.lst xs) → TDs H1 xs ds → tz D ((σ.set i1 (some v1)).set i2 (some (.ref l))) H1) : tSeq (tAsg te (gStar K (gName i1) (gName i2))) tz D σ H := h H (Ex.refl H) _ fun v H1 e x => by
  obtain ⟨a, xs, rfl, ha, y⟩ := x.tup
  obtain ⟨u1, ys, rfl, x1, y⟩ := y.inv
  refine ⟨a, u1, ys, rfl, SqT.of ha, by rw [y.len]; exact hl, fun L hL => ?_⟩
  exact k u1 L ys _ (e.trans (Ex.new hL)) (x1.mono (Ex.new hL)) upd_same (y.mono (Ex.new hL))
theorem ev_eqS {x y : Str} (h1 : Ev ta σ H (.str x)) (h2 : Ev tb σ H (.str y)) : Ev (tOp rEq ta tb) σ H (.bl (decide (x = y))) := ev_is (ev_op h1 h2 (rv_eq rfl)) (by
  congr 1
  exact decide_eq_decide.mpr ⟨fun h => by injection h, fun h => by rw [h]⟩)
theorem ev_isnameS {z : Str} {b : Bool} (h : Ev te σ H (.str z)) (hz : z.cps.size ≤ 1000) (hb : nameB z = b) : Ev (tCall spIsName [] E (tCons te tNil)) σ H (.bl b) := ev_call (ea_cons h ea_nil) fun H1 e Q q E => ⟨_, _, _, rfl, .str z, .inr ⟨z, rfl, hz, hb.symm⟩, fun H2 e2 => q H2 e2⟩
theorem ev_isfr {k : Kd} (h : Ev te σ H v) (p : Pv H v k) (hk : k ≠ .tup) : Ev (tCall spIsFr [] E (tCons te tNil)) σ H (.bl false) := ev_call (ea_cons h ea_nil) fun H1 e Q q E => ⟨_, _, rfl, p.mono e, hk, fun H2 e2 => q H2 e2⟩
theorem ev_get1 {a : Addr} {k : Key} (h1 : Ev ta σ H (.ref a)) (h2 : Ev tb σ H (kV k)) (ha : Rd H a (.dK KS)) : Ev (tDGet1 ta tb) σ H ((valV KS k).getD .non) := fun H1 e Q q =>
  h1 H1 e _ fun H2 e2 => ⟨a, rfl, .inl ⟨KS, rd_mono (e.trans e2) ha⟩, h2 H2 (e.trans e2) _ fun H3 e3 => ⟨valV KS k, .inl ⟨KS, k, rd_mono ((e.trans e2).trans e3) ha, rfl, rfl⟩, q H3 (e2.trans e3)⟩⟩
theorem ev_plain {kd : Addr} {r : V} (h1 : Ev ta σ H (.ref kd)) (h2 : Ev tb σ H v) (hk : Rd H kd (.dK KS)) (x : TD1 H v d) (p : PT d r) : Ev (tCall spPlain [] E (tCons ta (tCons tb tNil))) σ H r := ev_call (ea_cons h1 (ea_cons h2 ea_nil)) fun H1 e Q q E => ⟨kd, v, d, r, rfl, rd_mono e hk, x.mono e, p, fun H2 e2 => q H2 e2⟩
end
section
variable {P : Program} {w : World} {K : PySem.W.Frag} {mg : Str → Option Value} {base : Heap}
abbrev nmPlain : List Str := ["kinds", "term", "word", "told"]
theorem scPlain : FnScope nmPlain ["kinds", "term"] (defScope sPlain) := ⟨rfl, rfl, rfl, by decide +kernel, rfl, by decide +kernel, by decide +kernel⟩
theorem ok_plain {f : Addr} {fd : FuncData} (F : Fun K "_kind_of_plain_term" "_kind_of_plain_term" sPlain f fd) (T : TN mg) (CN : Cl P w K mg base 1 "is_name" spIsName) (CF : Cl P w K mg base 2 "is_fraction" spIsFr) (CV : Cl P w K mg base 2 "kind_of_value" spKov) : FnOk P w K mg base CX0 3 f fd ["kinds", "term"] spPlain := by
  refine F.ok scPlain (fun vs H Q E h => ?_) (fun cdv A outer s H vs Q E hr h => ?_)
  · obtain ⟨kd, v, d, r, rfl, _⟩ := h
    rfl
  · obtain ⟨kd, v, d, r, rfl, hk, x, p, q⟩ := h
    refine ⟨_, (pss_cons (ps_if (pw_or (pt_not (pt_val ((pe_callB call_isi (by rfl) T.isi PyProof.Rows.boot_isinstance (pa_cons (pv 1) (pa_cons (pe_bltn (v := .ty "tuple") (by rfl) T.tuple (by decide +kernel) rfl) pa_nil)))))) (pw_or1 (pt_cmpR op_ne (pe_callB call_len_seq (by rfl) T.len PySem.boot_len (pa_cons (pv 1) pa_nil)) pe_int (nomark _)))).pt (pss_one (ps_ret pe_non)) pss_nil)
      (pss_cons (ps_asg (pv 1) (pg_tup (by rfl) (pgs_cons (pg_name (i := 2) scPlain.nd rfl (Or.inl rfl)) (pgs_cons (pg_name (i := 3) scPlain.nd rfl (Or.inl rfl)) pgs_nil))))
      (pss_cons (ps_if (pt_cmpR op_eq (pv 2) pe_str (nomark _)) (pss_one (ps_ret (pe_ifExp (pt_val (pe_cl CN hr (by decide) (by rfl) (pa_cons (pv 3) pa_nil))) (pe_dget1 (hu_of hr) (pv 0) (pv 3) ⟨by rfl, by rfl, by rfl, by rfl⟩) pe_non))) pss_nil)
      (pss_cons (ps_if (pt_cmpR op_eq (pv 2) pe_str (nomark _)) (pss_one (ps_ret (pe_ifExp (pt_val (pe_cl CF hr (by decide) (by rfl) (pa_cons (pv 3) pa_nil))) pe_str (pe_cl CV hr (by decide) (by rfl) (pa_cons (pv 3) pa_nil))))) pss_nil)
      (pss_one (ps_ret pe_non)))))), ?_⟩
    have two : ∀ {d1 d2 : PyData}, TD1 H v (.tuple [d1, d2]) → EvT (tOr (tNot (tB (tCB (rIsi K) (tCons (tVar 1) (tCons (tC (.ty "tuple")) tNil))))) (tTest (tOp rNe (tCB (rLenS K) (tCons (tVar 1) tNil)) (tC (.int 2))))) [some (.ref kd), some v, none, none] H false := fun x =>
      et_is (et_or (et_is (et_not (et_B (ev_isT (.inr (.inr (.inr (.inl rfl)))) (ev_var rfl) (pv_tup x)))) (show (!Kd.is .tup "tuple") = false by decide)) fun _ => et_is (et_test (ev_op (ev_lenTup (ed_var rfl x)) ev_c (rv_ne rfl))) (show (!decide (V.int 2 = V.int 2)) = false by decide)) rfl
    cases p with
    | one =>
      refine q_yes (et_is (et_or (et_is (et_not (et_B (ev_isT (.inr (.inr (.inr (.inl rfl)))) (ev_var rfl) (pv_tup x)))) (show (!Kd.is .tup "tuple") = false by decide)) fun _ => et_is (et_test (ev_op (ev_lenTup (ed_var rfl x)) ev_c (rv_ne rfl))) (show _ = true by decide)) rfl) fun H1 e1 => ?_
      exact s_ret ev_c fun H2 e2 => q H2 (e1.trans e2)
    | colc =>
      refine q_not (two x) fun H1 e1 => q_unpE (ed_var rfl (x.mono e1)) fun v1 v2 H2 e2 x1 x2 => ?_
      cases x1.str
      cases x2.str
      refine q_yes (et_is (et_test (ev_eqS (ev_var rfl) ev_c)) (by decide +kernel)) fun H3 e3 => ?_
      exact s_ret (ev_if (b := true) (et_B (ev_isnameS (ev_var rfl) (by decide) (by decide +kernel))) (fun _ => ev_is (ev_get1 (k := .inr "c") (ev_var rfl) (ev_var rfl) (rd_mono ((e1.trans e2).trans e3) hk)) (by decide +kernel)) (fun z => nomatch z)) fun H4 e4 => q H4 (((e1.trans e2).trans e3).trans e4)
    | cola =>
      refine q_not (two x) fun H1 e1 => q_unpE (ed_var rfl (x.mono e1)) fun v1 v2 H2 e2 x1 x2 => ?_
      cases x1.str
      cases x2.str
      refine q_yes (et_is (et_test (ev_eqS (ev_var rfl) ev_c)) (by decide +kernel)) fun H3 e3 => ?_
      exact s_ret (ev_if (b := true) (et_B (ev_isnameS (ev_var rfl) (by decide) (by decide +kernel))) (fun _ => ev_is (ev_get1 (k := .inr "a") (ev_var rfl) (ev_var rfl) (rd_mono ((e1.trans e2).trans e3) hk)) (by decide +kernel)) (fun z => nomatch z)) fun H4 e4 => q H4 (((e1.trans e2).trans e3).trans e4)
    | valN =>
      refine q_not (two x) fun H1 e1 => q_unpE (ed_var rfl (x.mono e1)) fun v1 v2 H2 e2 x1 x2 => ?_
      cases x1.str
      cases x2
      refine q_not (et_is (et_test (ev_eqS (ev_var rfl) ev_c)) (by decide +kernel)) fun H3 e3 => ?_
      refine q_yes (et_is (et_test (ev_eqS (ev_var rfl) ev_c)) (by decide +kernel)) fun H4 e4 => ?_
      exact s_ret (ev_if (b := false) (et_B (ev_isfr (ev_var rfl) .non (fun z => nomatch z))) (fun z => nomatch z) (fun _ => ev_call (ea_cons (ev_var rfl) ea_nil) fun H1 e Q q E => ⟨_, _, _, rfl, .non, .no (fun z => nomatch z) (fun z => nomatch z), fun H2 e2 => q H2 e2⟩)) fun H5 e5 => q H5 ((((e1.trans e2).trans e3).trans e4).trans e5)
abbrev nmKot : List Str := ["kinds", "term", "word", "inner", "are_shapes", "one"]
theorem scKot : FnScope nmKot ["kinds", "term"] (defScope sKot) := ⟨rfl, rfl, rfl, by decide +kernel, rfl, by decide +kernel, by decide +kernel⟩
theorem ok_kot {f : Addr} {fd : FuncData} (F : Fun K "kind_of_term" "kind_of_term" sKot f fd) (T : TN mg) (CP : Cl P w K mg base 3 "_kind_of_plain_term" spPlain) : FnOk P w K mg base CX0 4 f fd ["kinds", "term"] spKot := by
  refine F.ok scKot (fun vs H Q E h => ?_) (fun cdv A' outer s H vs Q E hr h => ?_)
  · obtain ⟨kd, v, r, rfl, _⟩ := h
    rfl
  · obtain ⟨kd, v, r, rfl, hk, h, q⟩ := h
    have hun : (A'.deeper (envOfC (Str.ofString "kind_of_term") (defScope sKot) s.heap.objs.size f cdv)).units + 65 < cLine := by
      have := hr.un
      omega
    refine ⟨_, (pss_cons (ps_if (pw_or (pt_not (pt_val ((pe_callB call_isi (by rfl) T.isi PyProof.Rows.boot_isinstance (pa_cons (pv 1) (pa_cons (pe_bltn (v := .ty "tuple") (by rfl) T.tuple (by decide +kernel) rfl) pa_nil)))))) (pw_or1 (pt_not (pt_truth (pv 1) (fun _ => rfl))))).pt (pss_one (ps_ret pe_non)) pss_nil)
      (pss_cons (ps_asg (pv 1) (pg_star2 rfl (pg_name (i := 2) scKot.nd rfl (Or.inl rfl)) (pg_name (i := 3) scKot.nd rfl (Or.inl rfl))))
      (pss_cons (ps_if (pt_cmpR (op_inDT hun) (pe_tup (pa_cons (pv 2) (pa_cons (pe_callB call_len_seq (by rfl) T.len PySem.boot_len (pa_cons (pv 3) pa_nil)) pa_nil))) (pe_tup (pa_cons (pe_tup (pa_cons (pe_str) (pa_cons (pe_int) pa_nil))) (pa_cons (pe_tup (pa_cons (pe_str) (pa_cons (pe_int) pa_nil))) pa_nil))) (by rfl)) (pss_cons (ps_set (i := 4) scKot.nd rfl (Or.inl rfl) (pe_callB (cr_all rfl) (by rfl) T.all (by decide +kernel) (pa_cons (pe_lc (own := [("one", 5)]) (g := gName 5) (by rfl) scKot.nd (pi_list (pv 3))
        (blkOk_by (own := [("one", 5)]) (N := nmKot) (sc := defScope sKot) (by decide +kernel))
        (fun _ _ _ _ _ => by exact (pg_name (i := 5) scKot.nd rfl (Or.inl rfl))) (fun _ _ _ _ _ => pts_nil)
        (te := (tOp rEq (tCall spPlain [] E0 (tCons (tVar 0) (tCons (tVar 5) tNil))) (tC (.str "shape")))) (fun _ _ _ _ _ => by exact (pe_cmpR op_eq (pe_cl CP hr (by decide) (by rfl) (by exact (pa_cons (pv 0) (pa_cons (pv 5) pa_nil)))) pe_str (nomark _)))) pa_nil)))
        (pss_one (ps_ret (pe_ifExp (pt_val (pv 4)) pe_str pe_non)))) pss_nil)
      (pss_one (ps_ret (pe_cl CP hr (by decide) (by rfl) (pa_cons (pv 0) (pa_cons (pv 1) pa_nil)))))))), ?_⟩
    rcases h with ⟨k, p, h1, rfl⟩ | ⟨d, x, h⟩
    · have e : (!k.is "tuple") = true := by cases k <;> first | decide | exact absurd rfl h1
      exact q_yes (et_is (et_or (b := true) (et_is (et_not (et_B (ev_isT (.inr (.inr (.inr (.inl rfl)))) (ev_var rfl) p))) e) fun z => nomatch z) rfl) fun H1 e1 => s_ret ev_c fun H2 e2 => q H2 (e1.trans e2)
    have tst : ∀ {ds : List PyData}, TD1 H v (.tuple ds) → EvT (tOr (tNot (tB (tCB (rIsi K) (tCons (tVar 1) (tCons (tC (.ty "tuple")) tNil))))) (tNot (fun σ H Q => (tVar 1) σ H fun x H' => ∃ k, TruV K x H' k ∧ Q k H'))) [some (.ref kd), some v, none, none, none, none] H ds.isEmpty := fun {ds} x =>
      et_is (et_or (et_is (et_not (et_B (ev_isT (.inr (.inr (.inr (.inl rfl)))) (ev_var rfl) (pv_tup x)))) (show (!Kd.is .tup "tuple") = false by decide)) fun _ => et_not (et_tru (ed_var rfl x))) (by simp)
    have t2 : ∀ {w : Str} {ds : List PyData} {l : Addr} {xs : List V} {H1 : Hp}, H1 l = some (.lst xs) → TDs H1 xs ds → PyData.canLay0 (.tuple [.str w, .int ds.length]) = true →
        EvT (tTest (tOp (rInDT K) (tTup (tCons (tVar 2) (tCons (tCB (rLenS K) (tCons (tVar 3) tNil)) tNil))) (tTup (tCons (tTup (tCons (tC (.str "area")) (tCons (tC (.int 1)) tNil))) (tCons (tTup (tCons (tC (.str "square")) (tCons (tC (.int 2)) tNil))) tNil))))) [some (.ref kd), some v, some (.str w), some (.ref l), none, none] H1
          (([.tuple [.str "area", .int 1], .tuple [.str "square", .int 2]] : List PyData).any fun z => PyData.eqv z (.tuple [.str w, .int ds.length])) := fun {w ds l xs H1} hl t lay =>
      et_test (ev_inD (ed_tup (da_cons (ed_str (ev_var rfl)) (da_cons (ed_int (by
          have z := ev_lenSeq (K := K) (σ := [some (.ref kd), some v, some (.str w), some (.ref l), none, none]) (te := tVar 3) (ev_var rfl) hl
          rw [t.len] at z
          exact z)) da_nil)) (by show 2 ≤ 100000; decide))
        (ed_tup (da_cons (ed_tup (da_cons (ed_str ev_c) (da_cons (ed_int ev_c) da_nil)) (by show 2 ≤ 100000; decide)) (da_cons (ed_tup (da_cons (ed_str ev_c) (da_cons (ed_int ev_c) da_nil)) (by show 2 ≤ 100000; decide)) da_nil)) (by show 2 ≤ 100000; decide)) (by decide +kernel) lay (by decide))
    cases h with
    | emp => exact q_yes (tst x) fun H1 e1 => s_ret ev_c fun H2 e2 => q H2 (e1.trans e2)
    | area =>
      refine q_not (tst x) fun H1 e1 => q_star (ed_var rfl (x.mono e1)) (by decide) fun v1 l xs H2 e2 x1 hl t => ?_
      cases x1.str
      refine q_yes (et_is (t2 hl t (by decide +kernel)) (by decide +kernel)) fun H3 e3 => ?_
      have e13 := (e1.trans e2).trans e3
      refine q_asg (v := .bl false) (ev_is (ev_allLcB (enc := fun d : PyData => d) (es := [colA]) (fun _ => false) (ei_list (ld_of (ev_var rfl) (e3 _ _ hl) (t.mono e3))) (by decide) fun e he => turn_nm (fun _ => rfl) (fun _ _ _ _ => et_yes) fun u H4 e4 y _ => ed_bool (by
        rw [List.mem_singleton.mp he] at y
        exact ev_is (ev_eqS (ev_plain (ev_var rfl) (ev_var rfl) (rd_mono (e13.trans e4) hk) y .cola) ev_c) (by decide +kernel))) (by rfl)) fun H4 e4 => ?_
      exact s_ret (ev_if (b := false) (et_B (ev_var rfl)) (fun z => nomatch z) fun _ => ev_c) fun H5 e5 => q H5 ((e13.trans e4).trans e5)
    | pl hp =>
      obtain ⟨w, ds, rfl, l5, lay, no⟩ : ∃ (w : Str) (ds : List PyData), d = .tuple (.str w :: ds) ∧ ds.length ≤ 5 ∧ PyData.canLay0 (.tuple [.str w, .int ds.length]) = true ∧ (([.tuple [.str "area", .int 1], .tuple [.str "square", .int 2]] : List PyData).any fun z => PyData.eqv z (.tuple [.str w, .int ds.length])) = false := by
        cases hp <;> exact ⟨_, _, rfl, by decide, by decide +kernel, by decide +kernel⟩
      refine q_not (tst x) fun H1 e1 => q_star (ed_var rfl (x.mono e1)) (by omega) fun v1 l xs H2 e2 x1 hl t => ?_
      cases x1.str
      refine q_not (et_is (t2 hl t lay) no) fun H3 e3 => ?_
      have e13 := (e1.trans e2).trans e3
      exact s_ret (ev_plain (ev_var rfl) (ev_var rfl) (rd_mono e13 hk) (x.mono e13) hp) fun H4 e4 => q H4 (e13.trans e4)
end
end Q
set_option Elab.async false
set_option linter.all false
set_option maxRecDepth 100000
set_option maxHeartbeats 4000000
/-! the form of a condition -/
namespace Q
open PySem L2 PySem.Spec PyProof.Rows PySem.Calls PySem.OwnX
open Evl
abbrev sForm : Stmt := top 146
/-- what is a condition (true), and what is none -/
inductive CD : PyData → Bool → Prop where
  | emp : CD (.tuple []) false
  | miss1 : CD (.tuple [.str "missing"]) false
  | missc : CD (.tuple [.str "missing", .tuple [.str "column", .str "c"]]) false
  | not1 : CD (.tuple [.str "not"]) false
  | tupw : CD (.tuple [.tuple [.str "and"]]) false
  | good : CD okC true
def CondB (H : Hp) (v : V) (b : Bool) : Prop := (∃ k, Pv H v k ∧ k ≠ .tup ∧ b = false) ∨ ∃ d, TD1 H v d ∧ CD d b
theorem CondB.mono {H H' : Hp} (e : Ex H H') {v : V} {b : Bool} (h : CondB H v b) : CondB H' v b := by
  rcases h with ⟨k, p, h1, h2⟩ | ⟨d, x, h⟩
  · exact .inl ⟨k, p.mono e, h1, h2⟩
  · exact .inr ⟨d, x.mono e, h⟩
def spForm : Sp := fun vs H Q _ => ∃ kd v b, vs = [.ref kd, v] ∧ Rd H kd (.dK KS) ∧ CondB H v b ∧ ∀ H', Ex H H' → Q (.bl b) H'
def wordsD : List PyData := [.str "not", .str "and", .str "or"]
section
variable {K : PySem.W.Frag} {σ : L2.St} {H : Hp} {ta tb te : TE} {E : XK} {v : V} {d : PyData} {ds : List PyData} {D : Ends} {tz : TS} {t : TT}
theorem ed_if {b : Bool} (h : EvT t σ H b) (h1 : b = true → EvD ta σ H d) (h2 : b = false → EvD tb σ H d) : EvD (tIf t ta tb) σ H d := fun H1 e Q q => h H1 e _ fun H2 e2 => by
  cases b with
  | true =>
    show ta σ H2 Q
    exact h1 rfl H2 (e.trans e2) Q fun v H3 e3 x => q v H3 (e2.trans e3) x
  | false =>
    show tb σ H2 Q
    exact h2 rfl H2 (e.trans e2) Q fun v H3 e3 x => q v H3 (e2.trans e3) x
/-- t[1:3] -/
theorem ed_cut {e1 : PyData} (h : EvD te σ H (.tuple (e1 :: ds))) (hl : ds.length ≤ 2) : EvD (tSl (rSlA K) te (tPart (tC (.int 1))) (tPart (tC (.int 3)))) σ H (.tuple ds) := fun H1 e Q q => h H1 e _ fun u H2 e2 x => by
  obtain ⟨a, xs, rfl, ha, y⟩ := x.tup
  obtain ⟨u1, ys, rfl, x1, y⟩ := y.inv
  have l := y.len
  refine ⟨1, rfl, 3, rfl, a, u1 :: ys, rfl, SqT.of ha, fun z => ?_, fun _ p hp => ?_⟩
  · have z1 := z.1
    have e1 : HT.sIx (u1 :: ys).length 0 (some 1) = min 1 (u1 :: ys).length := HT.sIx_nat _ _ 1
    rw [e1, List.length_cons] at z1
    omega
  · have c : cutV (u1 :: ys) (some 1) (some 3) = ys := by
      match ys, l with
      | [], _ => rfl
      | [_], _ => rfl
      | [_, _], _ => rfl
      | _ :: _ :: _ :: _, l =>
        rw [List.length_cons, List.length_cons, List.length_cons] at l
        omega
    rw [c]
    exact q _ _ (e2.trans (Ex.new hp)) (TD1.mk upd_same (y.mono (Ex.new hp)))
theorem eds_listT (h : EvD te σ H (.tuple ds)) : EvDs (tCB (rListS K) (tCons te tNil)) σ H ds := fun H1 e Q q => h H1 e _ fun v H2 e2 x => by
  obtain ⟨a, xs, rfl, ha, t⟩ := x.tup
  exact ⟨a, xs, rfl, .inr (SqT.of ha), fun l hl => q l xs _ (fresh_back e2 hl) (e2.trans (Ex.new hl)) upd_same (t.mono (Ex.new hl))⟩
theorem ev_neS {x y : Str} (h1 : Ev ta σ H (.str x)) (h2 : Ev tb σ H (.str y)) : Ev (tOp rNe ta tb) σ H (.bl (!decide (x = y))) := ev_is (ev_op h1 h2 (rv_ne rfl)) (by
  congr 2
  exact decide_eq_decide.mpr ⟨fun h => by injection h, fun h => by rw [h]⟩)
theorem ev_eqD {d1 d2 : PyData} (h1 : EvD ta σ H d1) (h2 : EvD tb σ H d2) (s1 : SeqAt.shaped d1 = true) (s2 : SeqAt.shaped d2 = true) : Ev (tOp (rEqD K) ta tb) σ H (.bl (PyData.eqv d1 d2)) := fun H1 e Q q =>
  h1 H1 e _ fun u H2 e2 a => h2 H2 (e.trans e2) _ fun v H3 e3 b => ⟨d1, d2, (a.mono e3).dp, b.dp, s1, s2, q H3 (e2.trans e3)⟩
theorem ev_notNone (h : Ev ta σ H v) : Ev (tOp rNotN ta (tC .non)) σ H (.bl (!decide (v = .non))) := ev_op h ev_c fun H1 _ Q q => ⟨rfl, q H1 (Ex.refl _)⟩
theorem ev_kot {kd : Addr} {r : V} (h1 : Ev ta σ H (.ref kd)) (h2 : Ev tb σ H v) (hk : Rd H kd (.dK KS)) (x : TermK H v r) : Ev (tCall spKot [] E (tCons ta (tCons tb tNil))) σ H r := ev_call (ea_cons h1 (ea_cons h2 ea_nil)) fun H1 e Q q E => ⟨kd, v, r, rfl, rd_mono e hk, x.mono e, fun H2 e2 => q H2 e2⟩
/-- a word in a tuple of words -/
theorem et_words (h : EvD ta σ H d) (hl : d.canLay0 = true) : EvT (tTest (tOp (rInDT K) ta (tTup (tCons (tC (.str "not")) (tCons (tC (.str "and")) (tCons (tC (.str "or")) tNil)))))) σ H (wordsD.any fun z => PyData.eqv z d) :=
  et_test (ev_inD h (ed_tup (da_cons (ed_str ev_c) (da_cons (ed_str ev_c) (da_cons (ed_str ev_c) da_nil))) (by show 3 ≤ 100000; decide)) (by decide +kernel) hl (by decide))
end
section
variable {P : Program} {w : World} {K : PySem.W.Frag} {mg : Str → Option Value} {base : Heap}
theorem scTwi : FnScope ["term"] ["term"] (defScope sTwi) := ⟨rfl, rfl, rfl, by decide +kernel, rfl, by decide +kernel, by decide +kernel⟩
theorem ok_twi {f : Addr} {fd : FuncData} (F : Fun K "terms_within" "terms_within" sTwi f fd) : FnOk P w K mg base CX0 1 f fd ["term"] spTwi := by
  refine F.ok scTwi (fun vs H Q E h => ?_) (fun cdv A' outer s H vs Q E hr h => ?_)
  · obtain ⟨v, rfl, _⟩ := h
    rfl
  · obtain ⟨v, rfl, x, q⟩ := h
    have hun : (A'.deeper (envOfC (Str.ofString "terms_within") (defScope sTwi) s.heap.objs.size f cdv)).units + 65 < cLine := by
      have := hr.un
      omega
    refine ⟨_, (pss_one (ps_ret (pe_ifExp (pt_cmpR (op_inDT hun) (pe_ix ix_tup (pv 0) pe_int (fun _ _ => rfl)) (pe_tup (pa_cons (pe_str) (pa_cons (pe_str) pa_nil))) (by rfl)) pe_never (pe_tup pa_nil)))), ?_⟩
    exact s_retD (ed_if (b := false) (et_is (et_test (ev_inD (ed_ix (d := .str "column") (ed_var rfl x) ⟨by decide, rfl⟩) (ed_tup (da_cons (ed_str ev_c) (da_cons (ed_str ev_c) da_nil)) (by show 2 ≤ 100000; decide)) (by decide +kernel) (by decide +kernel) (by decide))) (by decide +kernel)) (fun z => nomatch z) fun _ => ed_tup da_nil (by decide)) fun u H1 e1 y => q u H1 e1 y
theorem scCof : FnScope ["condition"] ["condition"] (defScope sCof) := ⟨rfl, rfl, rfl, by decide +kernel, rfl, by decide +kernel, by decide +kernel⟩
theorem ok_cof {f : Addr} {fd : FuncData} (F : Fun K "_conditions_of" "_conditions_of" sCof f fd) : FnOk P w K mg base CX0 1 f fd ["condition"] spCof := by
  refine F.ok scCof (fun vs H Q E h => ?_) (fun cdv A' outer s H vs Q E hr h => ?_)
  · obtain ⟨v, rfl, _⟩ := h
    rfl
  · obtain ⟨v, rfl, x, q⟩ := h
    have hun : (A'.deeper (envOfC (Str.ofString "_conditions_of") (defScope sCof) s.heap.objs.size f cdv)).units + 65 < cLine := by
      have := hr.un
      omega
    refine ⟨_, (pss_one (ps_ret (pe_ifExp (pt_cmpR (op_inDT hun) (pe_ix ix_tup (pv 0) pe_int (fun _ _ => rfl)) (pe_tup (pa_cons (pe_str) (pa_cons (pe_str) (pa_cons (pe_str) pa_nil)))) (by rfl)) pe_never (pe_tup pa_nil)))), ?_⟩
    exact s_retD (ed_if (b := false) (et_is (et_words (ed_ix (d := .str "missing") (ed_var rfl x) ⟨by decide, rfl⟩) (by decide +kernel)) (by decide +kernel)) (fun z => nomatch z) fun _ => ed_tup da_nil (by decide)) fun u H1 e1 y => q u H1 e1 y
abbrev nmTof : List Str := ["condition", "terms", "term", "inner"]
theorem scTof : FnScope nmTof ["condition"] (defScope sTof) := ⟨rfl, rfl, rfl, by decide +kernel, rfl, by decide +kernel, by decide +kernel⟩
theorem ok_tof {f : Addr} {fd : FuncData} (F : Fun K "_terms_of" "_terms_of" sTof f fd) (T : TN mg) (CW : Cl P w K mg base 1 "terms_within" spTwi) : FnOk P w K mg base CX0 2 f fd ["condition"] spTof := by
  refine F.ok scTof (fun vs H Q E h => ?_) (fun cdv A' outer s H vs Q E hr h => ?_)
  · obtain ⟨v, rfl, _⟩ := h
    rfl
  · obtain ⟨v, rfl, x, q⟩ := h
    have hun : (A'.deeper (envOfC (Str.ofString "_terms_of") (defScope sTof) s.heap.objs.size f cdv)).units + 65 < cLine := by
      have := hr.un
      omega
    refine ⟨_, (pss_cons (ps_if (pt_cmpR (op_inDT hun) (pe_ix ix_tup (pv 0) pe_int (fun _ _ => rfl)) (pe_tup (pa_cons (pe_str) (pa_cons (pe_str) (pa_cons (pe_str) pa_nil)))) (by rfl)) (pss_one (ps_ret (pe_tup (pa_cons (pe_lst pa_nil) (pa_cons (pe_lst pa_nil) pa_nil))))) pss_nil)
      (pss_cons (ps_set (i := 1) scTof.nd rfl (Or.inl rfl) (pe_callTy call_list_of (by rfl) T.list (by decide +kernel) (pa_cons (pe_slice sl_tupA (pv 0) (po_some pe_int) (po_some pe_int)) pa_nil)))
      (pss_one (ps_ret (pe_tup (pa_cons (pv 1) (pa_cons (pe_lc2 (own := [("term", 2), ("inner", 3)]) (vs1 := [3]) (g := gName 2) (g1 := gName 3) (by rfl) scTof.nd (pi_list (pv 1)) (blkOk_by (own := [("term", 2), ("inner", 3)]) (N := nmTof) (sc := defScope sTof) (by decide +kernel)) (by decide) (fun _ _ _ _ _ => by exact pg_name (i := 2) scTof.nd rfl (Or.inl rfl)) (fun _ _ _ _ _ => pts_nil) (wi1 := iTup K (tCall spTwi [] E0 (tCons (tVar 2) tNil))) (fun _ _ _ _ _ => by exact (pi_tup (pe_cl CW hr (by decide) (by rfl) (by exact (pa_cons (pv 2) pa_nil))))) (fun _ _ _ _ _ => by exact pg_name (i := 3) scTof.nd rfl (Or.inl rfl)) (fun _ _ _ _ _ => pts_nil) (te := tVar 3) (fun _ _ _ _ _ => by exact (pv 3))) pa_nil))))))), ?_⟩
    refine q_not (et_is (et_words (ed_ix (d := .str "missing") (ed_var rfl x) ⟨by decide, rfl⟩) (by decide +kernel)) (by decide +kernel)) fun H1 e1 => ?_
    refine q_asgDs (eds_listT (ed_cut (ds := [colA]) (ed_var rfl (x.mono e1)) (by decide))) fun l xs H2 e2 nl hl t => ?_
    obtain ⟨u, ys, rfl, xu, t⟩ := t.inv
    cases t.inv0
    have z := eds_it2 (te := tVar 3) (wi := iList K (tVar 1)) (g := gName 2) (vs := [2, 3]) (vs1 := [3]) (tt1 := tYes) (g1 := gName 3) (σ := [some v, some (.ref l), none, none]) (H := H2) (wi1 := iTup K (tCall spTwi [] E0 (tCons (tVar 2) tNil))) (enc := fun d : PyData => d) (es := [colA]) (enc1 := fun d : PyData => d) (sub := fun _ => []) (p1 := fun _ _ => true) (F1 := fun _ d => d)
      (ei_list (ld_of (ev_var rfl) hl (TDs.cons xu .nil))) (by decide) (fun _ _ => by decide) (fun e he u' H3 e3 y kk k => k _ H3 (Ex.refl _) rfl (em_tup (fun H4 e4 Q q => by
        rw [List.mem_singleton.mp he] at y
        exact ⟨_, rfl, _, rfl, y.mono e4, fun u H5 e5 z => q u H5 e5 z⟩)) fun f hf => nomatch hf)
    refine s_retQ ⟨_, rfl, z H2 (Ex.refl _) _ fun l2 xs2 H3 n2 e3 h2 t2 => ⟨by show 2 ≤ sizeLine; decide, fun p hp => ?_⟩⟩
    cases t2.inv0
    have ep := Ex.new (o := .tup [.ref l, .ref l2]) hp
    exact q p l l2 u _ (((e1.trans e2).trans e3).trans ep) upd_same (ep _ _ (e3 _ _ hl)) (ep _ _ h2)
abbrev nmForm : List Str := ["kinds", "value", "word", "found", "term"]
theorem scForm : FnScope nmForm ["kinds", "value"] (defScope sForm) := ⟨rfl, rfl, rfl, by decide +kernel, rfl, by decide +kernel, by decide +kernel⟩
theorem ok_form {f : Addr} {fd : FuncData} (F : Fun K "_has_form" "_has_form" sForm f fd) (T : TN mg) (CK : Cl P w K mg base 4 "kind_of_term" spKot) : FnOk P w K mg base CX0 5 f fd ["kinds", "value"] spForm := by
  refine F.ok scForm (fun vs H Q E h => ?_) (fun cdv A' outer s H vs Q E hr h => ?_)
  · obtain ⟨kd, v, b, rfl, _⟩ := h
    rfl
  · obtain ⟨kd, v, b, rfl, hk, h, q⟩ := h
    have hun : (A'.deeper (envOfC (Str.ofString "_has_form") (defScope sForm) s.heap.objs.size f cdv)).units + 65 < cLine := by
      have := hr.un
      omega
    refine ⟨_, (pss_cons (ps_if (pw_or (pt_not (pt_val ((pe_callB call_isi (by rfl) T.isi PyProof.Rows.boot_isinstance (pa_cons (pv 1) (pa_cons (pe_bltn (v := .ty "tuple") (by rfl) T.tuple (by decide +kernel) rfl) pa_nil)))))) (pw_or1 (pt_not (pt_truth (pv 1) (fun _ => rfl))))).pt (pss_one (ps_ret pe_bl)) pss_nil)
      (pss_cons (ps_set (i := 2) scForm.nd rfl (Or.inl rfl) (pe_ix ix_tup (pv 1) pe_int (fun _ _ => rfl)))
      (pss_cons (ps_if (pt_cmpR (op_inDT hun) (pv 2) (pe_tup (pa_cons (pe_str) (pa_cons (pe_str) (pa_cons (pe_str) pa_nil)))) (by rfl)) (pss_one (ps_ret (pe_or (pe_cmpR op_ne (pv 2) pe_str (nomark _)) (pe_one (pe_cmpR op_eq (pe_callB call_len_seq (by rfl) T.len PySem.boot_len (pa_cons (pv 1) pa_nil)) pe_int (nomark _)))))) pss_nil)
      (pss_cons (ps_setLc (i := 3) (own := [("term", 4)]) (g := gName 4) (by rfl) scForm.nd rfl rfl (sw_true rfl rfl rfl (by decide +kernel)) (pi_tup (pe_slice sl_tupA (pv 1) (po_some pe_int) (po_some pe_int)))
        (blkOk_by (own := [("term", 4)]) (N := nmForm) (sc := defScope sForm) (by decide +kernel))
        (fun _ _ _ _ _ => by exact (pg_name (i := 4) scForm.nd rfl (Or.inl rfl))) (fun _ _ _ _ _ => pts_nil)
        (te := (tCall spKot [] E0 (tCons (tVar 0) (tCons (tVar 4) tNil)))) (fun _ _ _ _ _ => by exact (pe_cl CK hr (by decide) (by rfl) (by exact (pa_cons (pv 0) (pa_cons (pv 4) pa_nil))))))
      (pss_cons (ps_if (pt_cmpR (op_eqD hr.units) (pv 2) pe_str (nomark _)) (pss_one (ps_ret (pe_and (pe_cmpR op_eq (pe_callB call_len_seq (by rfl) T.len PySem.boot_len (pa_cons (pv 1) pa_nil)) pe_int (nomark _)) (pe_one (pe_cmpR op_notN1 (pe_ix ix_list (pv 3) pe_int (fun _ _ => rfl)) pe_non (nomark _)))))) pss_nil)
      (pss_cons (ps_if (pt_cmpR (op_eqD hr.units) (pv 2) pe_str (nomark _)) pss_never pss_nil)
      (pss_cons (ps_if (pt_cmpR op_ne (pe_callB call_len_seq (by rfl) T.len PySem.boot_len (pa_cons (pv 1) pa_nil)) pe_int (nomark _)) (pss_one (ps_ret pe_bl)) pss_nil) pss_never))))))), ?_⟩
    rcases h with ⟨k, p, h1, rfl⟩ | ⟨d, x, h⟩
    · have e : (!k.is "tuple") = true := by cases k <;> first | decide | exact absurd rfl h1
      exact q_yes (et_is (et_or (b := true) (et_is (et_not (et_B (ev_isT (.inr (.inr (.inr (.inl rfl)))) (ev_var rfl) p))) e) fun z => nomatch z) rfl) fun H1 e1 => s_ret ev_c fun H2 e2 => q H2 (e1.trans e2)
    have tst : ∀ {ds : List PyData}, TD1 H v (.tuple ds) → EvT (tOr (tNot (tB (tCB (rIsi K) (tCons (tVar 1) (tCons (tC (.ty "tuple")) tNil))))) (tNot (fun σ H Q => (tVar 1) σ H fun x H' => ∃ k, TruV K x H' k ∧ Q k H'))) [some (.ref kd), some v, none, none, none] H ds.isEmpty := fun {ds} x =>
      et_is (et_or (et_is (et_not (et_B (ev_isT (.inr (.inr (.inr (.inl rfl)))) (ev_var rfl) (pv_tup x)))) (show (!Kd.is .tup "tuple") = false by decide)) fun _ => et_not (et_tru (ed_var rfl x))) (by simp)
    -- behind the word
    by_cases hd : d = .tuple []
    · subst hd
      cases h
      exact q_yes (tst x) fun H1 e1 => s_ret ev_c fun H2 e2 => q H2 (e1.trans e2)
    obtain ⟨d1, ds, rfl, l2, lay, sh⟩ : ∃ (d1 : PyData) (ds : List PyData), d = .tuple (d1 :: ds) ∧ ds.length ≤ 2 ∧ d1.canLay0 = true ∧ SeqAt.shaped d1 = true := by
      cases h <;> first | exact absurd rfl hd | exact ⟨_, _, rfl, by decide, by decide +kernel, by decide +kernel⟩
    refine q_not (tst x) fun H1 e1 => q_asgD (ed_ix (d := d1) (ed_var rfl (x.mono e1)) ⟨by decide, rfl⟩) fun u H2 e2 xu => ?_
    have e12 := e1.trans e2
    have x2 := x.mono e12
    refine q_when (et_words (ed_var rfl xu) lay) (fun hw H3 e3 => ?_) (fun hw H3 e3 => ?_)
    · cases h with
      | not1 =>
        cases xu.str
        refine s_ret (ev_is (ev_orV (ev_neS (ev_var rfl) ev_c) fun _ => ev_is (ev_op (ev_lenTup (ed_var rfl (x2.mono e3))) ev_c (rv_eq rfl)) (by rfl)) ?_) fun H4 e4 => q H4 ((e12.trans e3).trans e4)
        decide +kernel
      | miss1 => exact absurd hw (by decide +kernel)
      | missc => exact absurd hw (by decide +kernel)
      | tupw => exact absurd hw (by decide +kernel)
      | good => exact absurd hw (by decide +kernel)
    · have e13 := e12.trans e3
      have x3 := x2.mono e3
      have u3 := xu.mono e3
      -- the kinds of the terms
      have found : ∀ (F : PyData) (r : V), (∀ e ∈ ds, KT e r ∧ (∀ H : Hp, TD1 H r F)) → EvDs (tLc (iTup K (tSl (rSlA K) (tVar 1) (tPart (tC (.int 1))) (tPart (tC (.int 3))))) (gName 4) tYes (tCall spKot [] E0 (tCons (tVar 0) (tCons (tVar 4) tNil))) [4]) [some (.ref kd), some v, some u, none, none] H3 (ds.map fun _ => F) := fun F r hf => by
        have z := eds_it (te := tCall spKot [] E0 (tCons (tVar 0) (tCons (tVar 4) tNil))) (g := gName 4) (tt := tYes) (vs := [4]) (σ := [some (.ref kd), some v, some u, none, none]) (H := H3) (enc := fun d : PyData => d) (es := ds) (fun _ => true) (fun _ => F) (by
          rw [List.map_id']
          exact ei_tup (K := K) (ed_cut (K := K) (ed_var (i := 1) rfl x3) l2)) (by omega) (fun e he => turn_nm (fun _ => rfl) (fun _ _ _ _ => et_yes) fun w H4 e4 y _ => ed_of (ev_kot (ev_var rfl) (ev_var rfl) (rd_mono (e13.trans e4) hk) (.inr ⟨e, y, (hf e he).1⟩)) ((hf e he).2 H4))
        rw [filt_all] at z
        exact z
      have isM : ∀ {H4 : Hp} {l : Addr} (b : Bool), Ex H3 H4 → PyData.eqv d1 (.str "missing") = b → EvT (tTest (tOp (rEqD K) (tVar 2) (tC (.str "missing")))) [some (.ref kd), some v, some u, some (.ref l), none] H4 b := fun {H4 l} b e4 hb => et_is (et_test (ev_eqD (ed_var rfl (u3.mono e4)) (ed_str ev_c) sh (by decide +kernel))) hb
      have len2 : ∀ {H4 : Hp} {l : Addr}, Ex H3 H4 → Ev (tOp rEq (tCB (rLenS K) (tCons (tVar 1) tNil)) (tC (.int 2))) [some (.ref kd), some v, some u, some (.ref l), none] H4 (.bl (decide (V.int ((d1 :: ds).length : Int) = V.int 2))) := fun {H4 l} e4 => ev_op (ev_lenTup (ed_var rfl (x3.mono e4))) ev_c (rv_eq rfl)
      cases h with
      | not1 => exact absurd hw (by decide +kernel)
      | miss1 =>
        refine q_asgDs (found .none .non fun e he => nomatch he) fun l xs H4 e4 nl hl t => ?_
        refine q_yes (isM true e4 (by decide +kernel)) fun H5 e5 => ?_
        exact s_ret (ev_is (ev_andV (a := false) (b := false) (ev_is (len2 (e4.trans e5)) (by rfl)) fun z => nomatch z) rfl) fun H6 e6 => q H6 (((e13.trans e4).trans e5).trans e6)
      | missc =>
        refine q_asgDs (found .none .non fun e he => by
          rw [List.mem_singleton.mp he]
          exact ⟨.pl .colc, fun H => .non .nil⟩) fun l xs H4 e4 nl hl t => ?_
        refine q_yes (isM true e4 (by decide +kernel)) fun H5 e5 => ?_
        obtain ⟨r1, ys, rfl, xr, t⟩ := t.inv
        cases t.inv0
        cases xr
        exact s_ret (ev_is (ev_andV (ev_is (len2 (e4.trans e5)) (show V.bl _ = .bl true by decide)) fun _ => ev_notNone (v := .non) (ev_op (ev_var rfl) ev_c (rv_ixL (SqL.of (e5 _ _ hl)) rfl))) (by rfl)) fun H6 e6 => q H6 (((e13.trans e4).trans e5).trans e6)
      | good =>
        refine q_asgDs (found (.str "number") (.str "number") fun e he => by
          rw [List.mem_singleton.mp he]
          exact ⟨.pl .cola, fun H => TDs.str _ .nil⟩) fun l xs H4 e4 nl hl t => ?_
        refine q_yes (isM true e4 (by decide +kernel)) fun H5 e5 => ?_
        obtain ⟨r1, ys, rfl, xr, t⟩ := t.inv
        cases t.inv0
        cases xr.str
        exact s_ret (ev_is (ev_andV (ev_is (len2 (e4.trans e5)) (show V.bl _ = .bl true by decide)) fun _ => ev_notNone (v := .str "number") (ev_op (ev_var rfl) ev_c (rv_ixL (SqL.of (e5 _ _ hl)) rfl))) (by rfl)) fun H6 e6 => q H6 (((e13.trans e4).trans e5).trans e6)
      | tupw =>
        refine q_asgDs (found .none .non fun e he => nomatch he) fun l xs H4 e4 nl hl t => ?_
        refine q_not (isM false e4 (by decide +kernel)) fun H5 e5 => ?_
        have e35 := e4.trans e5
        refine q_not (et_is (et_test (ev_eqD (ed_var rfl (u3.mono e35)) (ed_str ev_c) sh (by decide +kernel))) (by decide +kernel)) fun H6 e6 => ?_
        refine q_yes (et_is (et_test (ev_op (ev_lenTup (ed_var rfl (x3.mono (e35.trans e6)))) ev_c (rv_ne rfl))) (show _ = true by decide)) fun H7 e7 => ?_
        exact s_ret ev_c fun H8 e8 => q H8 ((((e13.trans e35).trans e6).trans e7).trans e8)
end
end Q
set_option Elab.async false
set_option linter.all false
set_option maxRecDepth 100000
set_option maxHeartbeats 4000000
/-! conditions and terms asked of a table -/
namespace Q
open PySem L2 PySem.Spec PyProof.Rows PySem.Calls PySem.OwnX
open Evl
abbrev sIsC : Stmt := top 140
abbrev sChkC : Stmt := top 145
abbrev sIsT : Stmt := top 139
abbrev sTVal : Stmt := top 141
abbrev sTruth : Stmt := top 142
abbrev sTruths : Stmt := top 143
abbrev sMoved : Stmt := top 144
/-- no table -/
def NoTb (H : Hp) (t : V) : Prop := ∃ k, Pv H t k
def spIsC (C CT : Addr) : Sp := fun vs H Q E => ∃ t v, vs = [t, v] ∧ ((NoTb H t ∧ Rs CT E H) ∨ ∃ a ns nx b, t = .ref a ∧ TbA C H a ns nx ∧ CondB H v b ∧ ∀ H', Ex H H' → Q (.bl b) H')
def spChkC (C CT CC : Addr) : Sp := fun vs H Q E => ∃ t v, vs = [t, v] ∧ ((NoTb H t ∧ Rs CT E H) ∨ ∃ a ns nx, t = .ref a ∧ TbA C H a ns nx ∧ ((CondB H v true ∧ ∀ H', Ex H H' → Q .non H') ∨ (CondB H v false ∧ Rs CC E H)))
def spIsT (C CT : Addr) : Sp := fun vs H Q E => ∃ t v, vs = [t, v] ∧ ((NoTb H t ∧ Rs CT E H) ∨ ∃ a ns nx r, t = .ref a ∧ TbA C H a ns nx ∧ TermK H v r ∧ ∀ H', Ex H H' → Q (.bl (!decide (r = .non))) H')
def Far (CN : Addr) (n : V) (ns : List Int) (H : Hp) (E : XK) : Prop := ∃ k, Pv H n k ∧ isIn n ns = false ∧ Rz CN "value" E H n
def spTVal (C CT CC CN : Addr) : Sp := fun vs H Q E => ∃ t v n, vs = [t, v, n] ∧ ((NoTb H t ∧ Rs CT E H) ∨ ∃ a ns nx r, t = .ref a ∧ TbA C H a ns nx ∧ TermK H v r ∧ ((r = .non ∧ Rs CC E H) ∨ (r ≠ .non ∧ Far CN n ns H E)))
def spTruth (C CT CC CN : Addr) : Sp := fun vs H Q E => ∃ t v n, vs = [t, v, n] ∧ ((NoTb H t ∧ Rs CT E H) ∨ ∃ a ns nx, t = .ref a ∧ TbA C H a ns nx ∧ ((CondB H v false ∧ Rs CC E H) ∨ (CondB H v true ∧ Far CN n ns H E)))
def spRef2 (C CT CC : Addr) : Sp := fun vs H Q E => ∃ t v, vs = [t, v] ∧ ((NoTb H t ∧ Rs CT E H) ∨ ∃ a ns nx, t = .ref a ∧ TbA C H a ns nx ∧ CondB H v false ∧ Rs CC E H)
def spNone : Sp := fun _ _ _ _ => False
theorem CondB.cases {H : Hp} {v : V} (h : CondB H v true) : TD1 H v okC := by
  rcases h with ⟨_, _, _, z⟩ | ⟨d, x, c⟩
  · cases z
  · cases c
    exact x
section
variable {K : PySem.W.Frag} {σ : L2.St} {H : Hp} {ta tb te : TE} {E : XK} {v : V}
theorem ev_form {kd : Addr} {b : Bool} (h1 : Ev ta σ H (.ref kd)) (h2 : Ev tb σ H v) (hk : Rd H kd (.dK KS)) (x : CondB H v b) : Ev (tCall spForm [] E (tCons ta (tCons tb tNil))) σ H (.bl b) := ev_call (ea_cons h1 (ea_cons h2 ea_nil)) fun H1 e Q q E => ⟨kd, v, b, rfl, rd_mono e hk, x.mono e, fun H2 e2 => q H2 e2⟩
end
section
variable {P : Program} {w : World} {K : PySem.W.Frag} {mg : Str → Option Value} {base : Heap} {C cT cC cN : Addr}
abbrev nmIsC : List Str := ["table", "value", "kinds", "count", "waiting", "condition", "depth", "terms", "inner", "deepest", "part"]
theorem scIsC : FnScope nmIsC ["table", "value"] (defScope sIsC) := ⟨rfl, rfl, rfl, by decide +kernel, rfl, by decide +kernel, by decide +kernel⟩
theorem ok_isc {f : Addr} {fd : FuncData} {t60 t8 : Tok} (F : Fun K "is_condition" "is_condition" sIsC f fd) (T : TN mg) (g60 : mg "MAX_PARTS" = some (.int 60 t60)) (g8 : mg "MAX_DEPTH" = some (.int 8 t8)) (CT : ClX P w K mg base 1 "check_table" (spChkT C cT)) (PK : Pq P w K mg base 1 C "kinds" (spKinds C)) (CF : Cl P w K mg base 5 "_has_form" spForm) (CO : Cl P w K mg base 2 "_terms_of" spTof) (CC : Cl P w K mg base 1 "_conditions_of" spCof) : FnOk P w K mg base (L2.CX P w) 6 f fd ["table", "value"] (spIsC C cT) := by
  refine F.okX scIsC (fun vs H Q E h => ?_) (fun cdv A' outer s H vs Q E hr h => ?_)
  · obtain ⟨t, v, rfl, _⟩ := h
    rfl
  · obtain ⟨t, v, rfl, h⟩ := h
    refine ⟨_, (pss_cons (ps_expr (pe_clX CT (goes_of (W := fun cls d _ H => E cls d H) (takes_of rfl rfl rfl rfl) fun _ _ _ _ h => h) hr (by decide) (by rfl) (pa_cons (pv 0) pa_nil)))
      (pss_cons (ps_set (i := 2) scIsC.nd rfl (Or.inl rfl) (pe_pq PK hr (by decide) (pv 0)))
      (pss_cons (ps_set (i := 3) scIsC.nd rfl (Or.inl rfl) pe_int)
      (pss_cons (ps_set (i := 4) scIsC.nd rfl (Or.inl rfl) (pe_lst (pa_cons (pe_tup (pa_cons (pv 1) (pa_cons (pe_int) pa_nil))) pa_nil)))
      (pss_cons (ps_while (passes_of rfl) (pt_truth (pv 4) (fun _ => rfl)) (pss_cons (ps_asg (pe_bm0 PySem.F.plainAttrs_list PySem.F.slot_list_pop PySem.F.type_list_pop mt_pop (pv 4)) (pg_tup (by rfl) (pgs_cons (pg_name (i := 5) scIsC.nd rfl (Or.inl rfl)) (pgs_cons (pg_name (i := 6) scIsC.nd rfl (.inr rfl)) pgs_nil))))
        (pss_cons (ps_if (pt_not (pt_val (pe_cl CF hr (by decide) (by rfl) (pa_cons (pv 2) (pa_cons (pv 5) pa_nil))))) (pss_one (ps_ret pe_bl)) pss_nil)
        (pss_cons (ps_asg (pe_cl CO hr (by decide) (by rfl) (pa_cons (pv 5) pa_nil)) (pg_tup (by rfl) (pgs_cons (pg_name (i := 7) scIsC.nd rfl (Or.inl rfl)) (pgs_cons (pg_name (i := 8) scIsC.nd rfl (Or.inl rfl)) pgs_nil))))
        (pss_cons (ps_aug (i := 3) scIsC.nd rfl (.inl rfl) (pe_op op_add (pe_op op_add pe_int (pe_callB call_len_seq (by rfl) T.len PySem.boot_len (pa_cons (pv 7) pa_nil))) (pe_callB call_len_seq (by rfl) T.len PySem.boot_len (pa_cons (pv 8) pa_nil))) ip_add)
        (pss_cons (ps_set (i := 9) scIsC.nd rfl (Or.inl rfl) (pe_op op_add (pv 6) (pe_ifExp (pt_truth (pv 8) (fun _ => rfl)) pe_int (pe_ifExp (pt_truth (pv 7) (fun _ => rfl)) pe_int pe_int))))
        (pss_cons (ps_if (pw_or (pt_cmpR op_gt (pv 3) (pe_glob (v := .int 60) (by rfl) g60 ⟨_, rfl⟩) (nomark _)) (pw_or1 (pt_cmpR op_gt (pv 9) (pe_glob (v := .int 8) (by rfl) g8 ⟨_, rfl⟩) (nomark _)))).pt (pss_one (ps_ret pe_bl)) pss_nil)
        (pss_one (ps_expr (pe_bm PySem.F.plainAttrs_list PySem.F.slot_list_extend PySem.F.type_list_extend mt_extend (pv 4) (pa_cons (pe_lc (own := [("part", 10)]) (g := gName 10) (by rfl) scIsC.nd (pi_tup (pe_cl CC hr (by decide) (by rfl) (pa_cons (pv 5) pa_nil)))
        (blkOk_by (own := [("part", 10)]) (N := nmIsC) (sc := defScope sIsC) (by decide +kernel))
        (fun _ _ _ _ _ => by exact (pg_name (i := 10) scIsC.nd rfl (Or.inl rfl))) (fun _ _ _ _ _ => pts_nil)
        (te := (tTup (tCons (tVar 10) (tCons (tOp (rI0 fun i j => .int (i + j)) (tVar 6) (tC (.int 1))) tNil)))) (fun _ _ _ _ _ => by exact (pe_tup (by exact (pa_cons (pv 10) (pa_cons (pe_op op_add (pv 6) pe_int) pa_nil)))))) pa_nil)))))))))))
      (pss_one (ps_ret pe_bl))))))), ?_⟩
    rcases h with ⟨⟨k, p⟩, q⟩ | ⟨a, ns, nx, b, rfl, tb, cb, q⟩
    · exact ⟨_, rfl, t, rfl, .inr ⟨k, p, q⟩⟩
    obtain ⟨dx, KD, Rw, o1, o2, rows, h1, h2, h3, h4⟩ := id tb
    refine ⟨_, rfl, .ref a, rfl, .inl ⟨a, dx, _, rfl, h1, fun H1 e1 => ?_⟩⟩
    dsimp only
    refine q_asgQ ⟨_, rfl, a, dx, _, rfl, e1 _ _ h1, a, ns, nx, rfl, tb.mono e1, fun kd H2 e2 hkd _ => ?_⟩
    refine q_asg (v := .int 0) ev_c fun H3 e3 => ?_
    have e03 := (e1.trans e2).trans e3
    refine q_asgQ ⟨_, rfl, by show 2 ≤ sizeLine; decide, fun tp hp => ⟨by show 1 ≤ sizeLine; decide, fun W hW => ?_⟩⟩
    have eT := Ex.new (o := .tup [v, .int 1]) hp
    have nW : H3 W = none := fresh_back eT hW
    have hkd3 := e3 _ _ hkd
    have kW : kd ≠ W := fun z => by rw [← z, hkd3] at nW; cases nW
    have tW : tp ≠ W := fun z => by rw [← z, upd_same] at hW; cases hW
    have e04 : Ex H (upd (upd H3 tp (.tup [v, .int 1])) W (.lst [.ref tp])) := (e03.trans eT).trans (Ex.new hW)
    have tp4 : upd (upd H3 tp (.tup [v, .int 1])) W (.lst [.ref tp]) tp = some (.tup [v, .int 1]) := by rw [upd_ne tW, upd_same]
    have kd4 : upd (upd H3 tp (.tup [v, .int 1])) W (.lst [.ref tp]) kd = some (.dK KS) := Ex.new hW _ _ (eT _ _ hkd3)
    have W4 : upd (upd H3 tp (.tup [v, .int 1])) W (.lst [.ref tp]) W = some (.lst [.ref tp]) := upd_same
    have n0W : H W = none := fresh_back e03 nW
    generalize upd (upd H3 tp (.tup [v, .int 1])) W (.lst [.ref tp]) = H4 at e04 tp4 kd4 W4
    refine while_by (fun σ H' => Ex H H' ∧ ∃ (n : Int) (r5 r6 r7 r8 r9 r10 : Option V), σ = [some (.ref a), some v, some (.ref kd), some (.int n), some (.ref W), r5, r6, r7, r8, r9, r10] ∧ ((H' W = some (.lst [.ref tp]) ∧ n = 0 ∧ H' tp = some (.tup [v, .int 1]) ∧ H' kd = some (.dK KS)) ∨ (b = true ∧ H' W = some (.lst []))))
      (fun σ H' => match H' W with | some (.lst [_]) => 1 | _ => 0) ⟨e04, 0, _, _, _, _, _, _, rfl, .inl ⟨W4, rfl, tp4, kd4⟩⟩ ?_ ?_
    · rintro σ H5 ⟨e5, n, r5, r6, r7, r8, r9, r10, rfl, hh⟩
      rcases hh with ⟨hW5, rfl, tp5, kd5⟩ | ⟨hb, hW5⟩
      · refine et_truL (ev_var rfl) hW5 H5 (Ex.refl _) _ fun H6 e6 => ?_
        rw [if_pos (by rfl)]
        have e06 := e5.trans e6
        have hW6 := e6 _ _ hW5
        -- the part that is looked at
        refine ⟨_, rfl, .inl ⟨rfl, _, SqL.of hW6⟩, W, _, .ref tp, rfl, rfl, hW6, rfl, ?_⟩
        have e07 : Ex H (upd H6 W (.lst [.ref tp].dropLast)) := Ex.mut e06 n0W
        have tp7 : upd H6 W (.lst [V.ref tp].dropLast) tp = some (.tup [v, .int 1]) := by rw [upd_ne tW]; exact e6 _ _ tp5
        have kd7 : upd H6 W (.lst [V.ref tp].dropLast) kd = some (.dK KS) := by rw [upd_ne kW]; exact e6 _ _ kd5
        have W7 : upd H6 W (.lst [V.ref tp].dropLast) W = some (.lst []) := upd_same
        generalize upd H6 W (.lst [V.ref tp].dropLast) = H7 at e07 tp7 kd7 W7
        refine ⟨tp, _, rfl, SqT.of tp7, rfl, _, _, rfl, _, _, rfl, rfl, ?_⟩
        dsimp only [List.set]
        have cb7 := cb.mono e07
        refine q_when (et_not (et_B (ev_form (ev_var rfl) (ev_var rfl) (.inl kd7) cb7))) (fun hb H8 e8 => ?_) (fun hb H8 e8 => ?_)
        · have hb : b = false := by cases b <;> first | rfl | cases hb
          rw [hb] at q
          exact s_ret ev_c fun H9 e9 => q _ ((e07.trans e8).trans e9)
        · have hb : b = true := by cases b <;> first | rfl | cases hb
          subst hb
          have e08 := e07.trans e8
          have x8 := (cb7.mono e8).cases
          refine ⟨_, rfl, _, rfl, x8, fun t l1 l2 u H9 e9 ht hl1 hl2 => ?_⟩
          refine ⟨t, _, rfl, SqT.of ht, rfl, _, _, rfl, _, _, rfl, rfl, ?_⟩
          dsimp only [List.set]
          have e09 := e08.trans e9
          refine q_aug (a := 0) (b := 2) (f := fun i j => i + j) rfl (ev_is (ev_op (ev_op ev_c (ev_lenSeq (ev_var rfl) hl1) rv_I0) (ev_lenSeq (ev_var rfl) hl2) rv_I0) (by rfl)) fun H10 e10 => ?_
          dsimp only [List.set]
          refine q_asg (v := .int 2) (ev_is (ev_op (x := .int 1) (y := .int 1) (ev_var rfl) (ev_if (b := false) (et_is (et_truL (ev_var rfl) (e10 _ _ hl2)) rfl) (fun z => nomatch z) fun _ => ev_if (b := true) (et_is (et_truL (ev_var rfl) (e10 _ _ hl1)) rfl) (fun _ => ev_c) fun z => nomatch z) rv_I0) (by rfl)) fun H11 e11 => ?_
          dsimp only [List.set]
          refine q_not (et_is (et_or (et_is (et_test (ev_op (ev_var rfl) ev_c rv_I0)) (show decide ((60 : Int) < 2) = false by decide)) fun _ => et_is (et_test (ev_op (ev_var rfl) ev_c rv_I0)) (show decide ((8 : Int) < 2) = false by decide)) rfl) fun H12 e12 => ?_
          have e8c := ((e9.trans e10).trans e11).trans e12
          have e0c := e08.trans e8c
          have hWc := e8c _ _ (e8 _ _ W7)
          have xc := x8.mono e8c
          have z := eds_it (te := tTup (tCons (tVar 10) (tCons (tOp (rI0 fun i j => .int (i + j)) (tVar 6) (tC (.int 1))) tNil))) (g := gName 10) (tt := tYes) (vs := [10]) (wi := iTup K (tCall spCof [] E0 (tCons (tVar 5) tNil))) (σ := [some (.ref a), some v, some (.ref kd), some (.int 2), some (.ref W), some v, some (.int 1), some (.ref l1), some (.ref l2), some (.int 2), r10]) (H := H12) (enc := fun d : PyData => d) (es := []) (fun _ => true) (fun d => d)
            (ei_tup (K := K) fun H13 e13 Q q => ⟨_, rfl, _, rfl, xc.mono e13, fun u H14 e14 y => q u H14 e14 y⟩) (by decide) (fun e he => nomatch he)
          refine ⟨_, rfl, .inl ⟨rfl, _, SqL.of hWc⟩, z H12 (Ex.refl _) _ fun l xs H13 nl e13 hl t => ?_⟩
          cases t.inv0
          refine ⟨W, l, [], [], rfl, rfl, e13 _ _ hWc, hl, by decide, ?_⟩
          refine ⟨⟨Ex.mut (e0c.trans e13) n0W, 2, _, _, _, _, _, _, rfl, .inr ⟨rfl, upd_same⟩⟩, ?_⟩
          rw [upd_same, hW5]
          exact Nat.zero_lt_one
      · refine et_truL (ev_var rfl) hW5 H5 (Ex.refl _) _ fun H6 e6 => ?_
        rw [if_neg (by decide)]
        dsimp only
        refine s_ret ev_c fun H7 e7 => by
          rw [← hb]
          exact q _ ((e5.trans e6).trans e7)
    · rintro σ H5 Q1 Q2 hm ⟨x, hx, k, hk, q5⟩
      exact ⟨x, hx, k, hk, hm _ _ q5⟩
theorem scChkC : FnScope ["table", "value"] ["table", "value"] (defScope sChkC) := ⟨rfl, rfl, rfl, by decide +kernel, rfl, by decide +kernel, by decide +kernel⟩
theorem ok_chkc {f : Addr} {fd : FuncData} (F : Fun K "check_condition" "check_condition" sChkC f fd) (EC : ErrE "InvalidCondition" K mg cC) (CI : ClX P w K mg base 6 "is_condition" (spIsC C cT)) : FnOk P w K mg base (L2.CX P w) 7 f fd ["table", "value"] (spChkC C cT cC) := by
  refine F.okX scChkC (fun vs H Q E h => ?_) (fun cdv A' outer s H vs Q E hr h => ?_)
  · obtain ⟨t, v, rfl, _⟩ := h
    rfl
  · obtain ⟨t, v, rfl, h⟩ := h
    refine ⟨_, (pss_one (ps_if (pt_not (pt_val (pe_clX CI (goes_of (W := fun cls d _ H => E cls d H) (takes_of rfl rfl rfl rfl) fun _ _ _ _ h => h) hr (by decide) (by rfl) (pa_cons (pv 0) (pa_cons (pv 1) pa_nil))))) (pss_one (ps_raise (W := fun cls d _ H => E cls d H) rfl (takes_of rfl rfl rfl rfl) (SkE.pmk_own1 PySem.F.excBase_ValueError EC.x EC.g EC.kC (raises_own EC.be EC.typ) (by rfl) pe_str))) pss_nil)), ?_⟩
    have e : ∀ (b : Bool) {a : Addr} {ns : List Int} {nx : Int}, t = .ref a → TbA C H a ns nx → CondB H v b → EvT (tNot (tB (tCall (spIsC C cT) [] E (tCons (tVar 0) (tCons (tVar 1) tNil))))) [some t, some v] H (!b) := fun b {a ns nx} ht tb cb => by
      subst ht
      exact et_not (et_B fun H1 e1 Q q => ⟨_, rfl, _, rfl, .ref a, v, rfl, .inr ⟨a, ns, nx, b, rfl, tb.mono e1, cb.mono e1, fun H2 e2 => q H2 e2⟩⟩)
    rcases h with ⟨nt, q⟩ | ⟨a, ns, nx, rfl, tb, ⟨cb, q⟩ | ⟨cb, q⟩⟩
    · exact ⟨_, rfl, _, rfl, t, v, rfl, .inl ⟨nt, q⟩⟩
    · exact s_when (e true rfl tb cb) (fun z => nomatch z) fun _ H1 e1 => q H1 e1
    · exact s_when (e false rfl tb cb) (fun _ H1 e1 => q H1 e1) fun z => nomatch z
theorem scIsT : FnScope ["table", "value"] ["table", "value"] (defScope sIsT) := ⟨rfl, rfl, rfl, by decide +kernel, rfl, by decide +kernel, by decide +kernel⟩
theorem ok_ist {f : Addr} {fd : FuncData} (F : Fun K "is_term" "is_term" sIsT f fd) (CT : ClX P w K mg base 1 "check_table" (spChkT C cT)) (PK : Pq P w K mg base 1 C "kinds" (spKinds C)) (CK : Cl P w K mg base 4 "kind_of_term" spKot) : FnOk P w K mg base (L2.CX P w) 5 f fd ["table", "value"] (spIsT C cT) := by
  refine F.okX scIsT (fun vs H Q E h => ?_) (fun cdv A' outer s H vs Q E hr h => ?_)
  · obtain ⟨t, v, rfl, _⟩ := h
    rfl
  · obtain ⟨t, v, rfl, h⟩ := h
    refine ⟨_, (pss_cons (ps_expr (pe_clX CT (goes_of (W := fun cls d _ H => E cls d H) (takes_of rfl rfl rfl rfl) fun _ _ _ _ h => h) hr (by decide) (by rfl) (pa_cons (pv 0) pa_nil)))
      (pss_one (ps_ret (pe_cmpR op_notN1 (pe_cl CK hr (by decide) (by rfl) (pa_cons (pe_pq PK hr (by decide) (pv 0)) (pa_cons (pv 1) pa_nil))) pe_non (nomark _))))), ?_⟩
    rcases h with ⟨⟨k, p⟩, q⟩ | ⟨a, ns, nx, r, rfl, tb, tk, q⟩
    · exact ⟨_, rfl, t, rfl, .inr ⟨k, p, q⟩⟩
    obtain ⟨dx, KD, Rw, o1, o2, rows, h1, h2, h3, h4⟩ := id tb
    refine ⟨_, rfl, .ref a, rfl, .inl ⟨a, dx, _, rfl, h1, fun H1 e1 => ?_⟩⟩
    dsimp only
    refine s_ret (ev_notNone fun H2 e2 Q q => ⟨_, rfl, a, dx, _, rfl, (e1.trans e2) _ _ h1, a, ns, nx, rfl, tb.mono (e1.trans e2), fun kd H3 e3 hkd _ => ⟨_, rfl, kd, v, r, rfl, .inl hkd, tk.mono ((e1.trans e2).trans e3), fun H4 e4 => q H4 (e3.trans e4)⟩⟩) fun H5 e5 => q H5 (e1.trans e5)
theorem scTVal : FnScope ["table", "term", "number"] ["table", "term", "number"] (defScope sTVal) := ⟨rfl, rfl, rfl, by decide +kernel, rfl, by decide +kernel, by decide +kernel⟩
theorem ok_tval {f : Addr} {fd : FuncData} (F : Fun K "term_value" "term_value" sTVal f fd) (EC : ErrE "InvalidCondition" K mg cC) (CI : ClX P w K mg base 5 "is_term" (spIsT C cT)) (MR : MtX P w K mg base 4 C "row" (spRow C cN)) (CV : Cl P w K mg base 0 "value_of_term" spNone) : FnOk P w K mg base (L2.CX P w) 6 f fd ["table", "term", "number"] (spTVal C cT cC cN) := by
  refine F.okX scTVal (fun vs H Q E h => ?_) (fun cdv A' outer s H vs Q E hr h => ?_)
  · obtain ⟨t, v, n, rfl, _⟩ := h
    rfl
  · obtain ⟨t, v, n, rfl, h⟩ := h
    refine ⟨_, (pss_cons (ps_if (pt_not (pt_val (pe_clX CI (goes_of (W := fun cls d _ H => E cls d H) (takes_of rfl rfl rfl rfl) fun _ _ _ _ h => h) hr (by decide) (by rfl) (pa_cons (pv 0) (pa_cons (pv 1) pa_nil))))) (pss_one (ps_raise (W := fun cls d _ H => E cls d H) rfl (takes_of rfl rfl rfl rfl) (SkE.pmk_own1 PySem.F.excBase_ValueError EC.x EC.g EC.kC (raises_own EC.be EC.typ) (by rfl) pe_str))) pss_nil)
      (pss_one (ps_ret (pe_cl CV hr (by decide) (by rfl) (pa_cons (pe_mtX MR (goes_of (W := fun cls d _ H => E cls d H) (takes_of rfl rfl rfl rfl) fun _ _ _ _ h => h) hr (by decide) (pv 0) (pa_cons (pv 2) pa_nil)) (pa_cons (pv 1) pa_nil)))))), ?_⟩
    rcases h with ⟨nt, q⟩ | ⟨a, ns, nx, r, rfl, tb, tk, h⟩
    · exact ⟨_, rfl, _, rfl, t, v, rfl, .inl ⟨nt, q⟩⟩
    obtain ⟨dx, KD, Rw, o1, o2, rows, h1, h2, h3, h4⟩ := id tb
    have e : EvT (tNot (tB (tCall (spIsT C cT) [] E (tCons (tVar 0) (tCons (tVar 1) tNil))))) [some (.ref a), some v, some n] H (!(!decide (r = .non))) := et_not (et_B fun H1 e1 Q q => ⟨_, rfl, _, rfl, .ref a, v, rfl, .inr ⟨a, ns, nx, r, rfl, tb.mono e1, tk.mono e1, fun H2 e2 => q H2 e2⟩⟩)
    rcases h with ⟨hr, q⟩ | ⟨hr, k, p, hi, q⟩
    · rw [decide_eq_true hr] at e
      exact q_yes e fun H1 e1 => q H1 e1
    · rw [decide_eq_false hr] at e
      refine q_not e fun H1 e1 => ?_
      exact ⟨_, rfl, a, dx, _, rfl, e1 _ _ h1, by rfl, _, rfl, a, n, k, ns, nx, rfl, tb.mono e1, p.mono e1, hi, q.mono e1⟩
theorem scTruth : FnScope ["table", "condition", "number"] ["table", "condition", "number"] (defScope sTruth) := ⟨rfl, rfl, rfl, by decide +kernel, rfl, by decide +kernel, by decide +kernel⟩
theorem ok_truth {f : Addr} {fd : FuncData} (F : Fun K "truth" "truth" sTruth f fd) (CK : ClX P w K mg base 7 "check_condition" (spChkC C cT cC)) (MR : MtX P w K mg base 4 C "row" (spRow C cN)) (CT : Cl P w K mg base 0 "truth_in" spNone) : FnOk P w K mg base (L2.CX P w) 8 f fd ["table", "condition", "number"] (spTruth C cT cC cN) := by
  refine F.okX scTruth (fun vs H Q E h => ?_) (fun cdv A' outer s H vs Q E hr h => ?_)
  · obtain ⟨t, v, n, rfl, _⟩ := h
    rfl
  · obtain ⟨t, v, n, rfl, h⟩ := h
    refine ⟨_, (pss_cons (ps_expr (pe_clX CK (goes_of (W := fun cls d _ H => E cls d H) (takes_of rfl rfl rfl rfl) fun _ _ _ _ h => h) hr (by decide) (by rfl) (pa_cons (pv 0) (pa_cons (pv 1) pa_nil))))
      (pss_one (ps_ret (pe_cl CT hr (by decide) (by rfl) (pa_cons (pe_mtX MR (goes_of (W := fun cls d _ H => E cls d H) (takes_of rfl rfl rfl rfl) fun _ _ _ _ h => h) hr (by decide) (pv 0) (pa_cons (pv 2) pa_nil)) (pa_cons (pv 1) pa_nil)))))), ?_⟩
    rcases h with ⟨nt, q⟩ | ⟨a, ns, nx, rfl, tb, h⟩
    · exact ⟨_, rfl, _, rfl, t, v, rfl, .inl ⟨nt, q⟩⟩
    obtain ⟨dx, KD, Rw, o1, o2, rows, h1, h2, h3, h4⟩ := id tb
    rcases h with ⟨cb, q⟩ | ⟨cb, k, p, hi, q⟩
    · exact ⟨_, rfl, _, rfl, .ref a, v, rfl, .inr ⟨a, ns, nx, rfl, tb, .inr ⟨cb, q⟩⟩⟩
    · refine ⟨_, rfl, _, rfl, .ref a, v, rfl, .inr ⟨a, ns, nx, rfl, tb, .inl ⟨cb, fun H1 e1 => ?_⟩⟩⟩
      exact ⟨_, rfl, a, dx, _, rfl, e1 _ _ h1, by rfl, _, rfl, a, n, k, ns, nx, rfl, tb.mono e1, p.mono e1, hi, q.mono e1⟩
abbrev nmTruths : List Str := ["table", "condition", "number", "row"]
theorem scTruths : FnScope ["table", "condition", "number", "row"] ["table", "condition"] (defScope sTruths) := ⟨rfl, rfl, rfl, by decide +kernel, rfl, by decide +kernel, by decide +kernel⟩
theorem ok_truths {f : Addr} {fd : FuncData} (F : Fun K "truths" "truths" sTruths f fd) (CK : ClX P w K mg base 7 "check_condition" (spChkC C cT cC)) : FnOk P w K mg base (L2.CX P w) 8 f fd ["table", "condition"] (spRef2 C cT cC) := by
  refine F.okX scTruths (fun vs H Q E h => ?_) (fun cdv A' outer s H vs Q E hr h => ?_)
  · obtain ⟨t, v, rfl, _⟩ := h
    rfl
  · obtain ⟨t, v, rfl, h⟩ := h
    refine ⟨_, (pss_cons (ps_expr (pe_clX CK (goes_of (W := fun cls d _ H => E cls d H) (takes_of rfl rfl rfl rfl) fun _ _ _ _ h => h) hr (by decide) (by rfl) (pa_cons (pv 0) (pa_cons (pv 1) pa_nil)))) pss_never), ?_⟩
    rcases h with ⟨nt, q⟩ | ⟨a, ns, nx, rfl, tb, cb, q⟩
    · exact ⟨_, rfl, _, rfl, t, v, rfl, .inl ⟨nt, q⟩⟩
    · exact ⟨_, rfl, _, rfl, .ref a, v, rfl, .inr ⟨a, ns, nx, rfl, tb, .inr ⟨cb, q⟩⟩⟩
theorem scMoved : FnScope ["table", "condition", "moved"] ["table", "condition"] (defScope sMoved) := ⟨rfl, rfl, rfl, by decide +kernel, rfl, by decide +kernel, by decide +kernel⟩
theorem ok_moved {f : Addr} {fd : FuncData} (F : Fun K "moved_inwards" "moved_inwards" sMoved f fd) (CK : ClX P w K mg base 7 "check_condition" (spChkC C cT cC)) : FnOk P w K mg base (L2.CX P w) 8 f fd ["table", "condition"] (spRef2 C cT cC) := by
  refine F.okX scMoved (fun vs H Q E h => ?_) (fun cdv A' outer s H vs Q E hr h => ?_)
  · obtain ⟨t, v, rfl, _⟩ := h
    rfl
  · obtain ⟨t, v, rfl, h⟩ := h
    refine ⟨_, (pss_cons (ps_expr (pe_clX CK (goes_of (W := fun cls d _ H => E cls d H) (takes_of rfl rfl rfl rfl) fun _ _ _ _ h => h) hr (by decide) (by rfl) (pa_cons (pv 0) (pa_cons (pv 1) pa_nil)))) pss_never), ?_⟩
    rcases h with ⟨nt, q⟩ | ⟨a, ns, nx, rfl, tb, cb, q⟩
    · exact ⟨_, rfl, _, rfl, t, v, rfl, .inl ⟨nt, q⟩⟩
    · exact ⟨_, rfl, _, rfl, .ref a, v, rfl, .inr ⟨a, ns, nx, rfl, tb, .inr ⟨cb, q⟩⟩⟩
end
end Q
set_option Elab.async false
set_option linter.all false
set_option maxRecDepth 100000
set_option maxHeartbeats 4000000
/-! how a call is met -/
namespace Q
open PySem L2 PySem.Spec PyProof.Rows PySem.Calls PySem.OwnX LamX
open Evl
abbrev sMet : Stmt := top 157
/-- a value and its text -/
inductive Rep (K : PySem.W.Frag) (H : Hp) : V → Str → Prop where
  | int (i : Int) (h : i.natAbs.log2 < 1920) : Rep K H (.int i) (toString i)
  | dat {v : V} {d : PyData} (h : Dp K H v d) (n : d.hasDict = false) (sh : Sh d) : Rep K H v d.shown
def rRepA (K : PySem.W.Frag) : List V → Hp → VK → Prop := fun xs H Q => ∃ v z, xs = [v] ∧ Rep K H v z ∧ Q (.str z) H
theorem call_repA {X : Cx} (gd : X.A.guards = some []) (gu : X.A.units + 40 < cLine) : CallR X (.builtin "repr") (rRepA X.K) := by
  rintro pins s σ H xs us Q I r ⟨v, z, rfl, h, q⟩
  cases h with
  | int i h => exact SkE.call_repr_int pins s σ H _ us Q I r ⟨i, rfl, h, q⟩
  | dat h n sh => exact call_repr gd gu pins s σ H _ us Q I r ⟨v, _, rfl, .dp h n, sh, q⟩
/-- the five classes of errors that are met -/
structure Fv where
  t : Addr
  r : Addr
  c : Addr
  n : Addr
  m : Addr
/-- what is made of an error -/
inductive MetE (K : PySem.W.Frag) (A : Fv) (Q : VK) (H : Hp) : Value → Option Addr → Prop where
  | t {d : Option Addr} (q : Q (.str "table") H) : MetE K A Q H (.ref A.t) d
  | r {d : Option Addr} (q : Q (.str "row") H) : MetE K A Q H (.ref A.r) d
  | c {d : Option Addr} (q : Q (.str "condition") H) : MetE K A Q H (.ref A.c) d
  | n {d : Addr} {v : V} {z : Str} (h : H d = some (.xd [("value", v)])) (p : Rep K H v z) (l : z.length ≤ 1000) (q : Q (.str ("number " ++ z)) H) : MetE K A Q H (.ref A.n) (some d)
  | m {d : Addr} (h : H d = some (.xd [("limit", .int 60)])) (q : Q (.str "many 60") H) : MetE K A Q H (.ref A.m) (some d)
def metE (K : PySem.W.Frag) (A : Fv) (Q : VK) : XK := fun cls d H => MetE K A Q H cls d
def TMet (K : PySem.W.Frag) (A : Fv) : (XK → Hp → VK → Prop) → Hp → VK → Prop := fun tl H Q => tl (metE K A Q) H (fun _ H' => Q (.str "fine") H')
/-- which clause takes which error -/
structure Exm (K : PySem.W.Frag) (A : Fv) : Prop where
  tt : PySem.W.exmOne K (.ref A.t) (.ref A.t) = some true
  rt : PySem.W.exmOne K (.ref A.r) (.ref A.t) = some false
  rr : PySem.W.exmOne K (.ref A.r) (.ref A.r) = some true
  ct : PySem.W.exmOne K (.ref A.c) (.ref A.t) = some false
  cr : PySem.W.exmOne K (.ref A.c) (.ref A.r) = some false
  cc : PySem.W.exmOne K (.ref A.c) (.ref A.c) = some true
  nt : PySem.W.exmOne K (.ref A.n) (.ref A.t) = some false
  nr : PySem.W.exmOne K (.ref A.n) (.ref A.r) = some false
  nc : PySem.W.exmOne K (.ref A.n) (.ref A.c) = some false
  nn : PySem.W.exmOne K (.ref A.n) (.ref A.n) = some true
  mt : PySem.W.exmOne K (.ref A.m) (.ref A.t) = some false
  mr : PySem.W.exmOne K (.ref A.m) (.ref A.r) = some false
  mc : PySem.W.exmOne K (.ref A.m) (.ref A.c) = some false
  mn : PySem.W.exmOne K (.ref A.m) (.ref A.n) = some false
  mm : PySem.W.exmOne K (.ref A.m) (.ref A.m) = some true
theorem w_no {ex : Value → Bool → Prop} {ts : Addr → Value → Option Addr → TS} {D : Ends} {Wr : WX} {cls : Value} {d : Option Addr} {σ : L2.St} {H : Hp} (h : ex cls false) (r : Wr cls d σ H) : wTest ex ts D Wr cls d σ H := ⟨false, h, (fun q => nomatch q), fun _ => r⟩
theorem w_yes {ex : Value → Bool → Prop} {ts : Addr → Value → Option Addr → TS} {D : Ends} {Wr : WX} {cls : Value} {d : Option Addr} {σ : L2.St} {H : Hp} (h : ex cls true) (r : ∀ a, H a = none → ts a cls d D σ H) : wTest ex ts D Wr cls d σ H := ⟨true, h, (fun _ => r), fun q => nomatch q⟩
theorem wa_no {ex : Value → Bool → Prop} {i : Nat} {ts : Addr → Value → Option Addr → TS} {D : Ends} {Wr : WX} {cls : Value} {d : Option Addr} {σ : L2.St} {H : Hp} (h : ex cls false) (r : Wr cls d σ H) : wTestAs ex i ts D Wr cls d σ H := ⟨false, h, (fun q => nomatch q), fun _ => r⟩
theorem wa_yes {ex : Value → Bool → Prop} {i : Nat} {ts : Addr → Value → Option Addr → TS} {D : Ends} {Wr : WX} {cls : Value} {d : Option Addr} {σ : L2.St} {H : Hp} (h : ex cls true) (r : ∀ a, H a = none → ts a cls d (endsAs i D) (σ.set i (some (.ref a))) H) : wTestAs ex i ts D Wr cls d σ H := ⟨true, h, (fun _ => r), fun q => nomatch q⟩
abbrev nmMet : List Str := ["call", "error"]
theorem scMet : FnScope nmMet ["call"] (defScope sMet) := ⟨rfl, rfl, rfl, by decide +kernel, rfl, by decide +kernel, by decide +kernel⟩
/-- the reading of 'word ' + repr(error.f) -/
def tTold (K : PySem.W.Frag) (w : Str) (C : Addr) (f : Str) (a : Addr) (cls : Value) (d : Option Addr) : TS := tRet (tOp (fun x y H Q => ∃ i j, x = .str i ∧ y = .str j ∧ i.length + j.length ≤ sizeLine ∧ Q (.str (i ++ j)) H) (tC (.str w)) (tCB (rRepA K) (tCons (tByE C f a cls d (tVar 1)) tNil)))
section
variable {X : Cx} {A : Fv}
theorem takes_len {Y : Cx} {W : WX} (tk : Takes Y W) : Takes Y (fun cls d σ H => σ.length = Y.N.length → W cls d σ H) := fun u s' x => by
  obtain ⟨a, B, sI, pins, σ, H, cls, d, e, J, nb, up, sky, na, os, ag, w⟩ := x
  exact tk u s' ⟨a, B, sI, pins, σ, H, cls, d, e, J, nb, up, sky, na, os, ag, w J.len⟩
theorem met_gives {q : Str} {g : Addr} {cdg : Value} (gd : X.A.guards = some []) (hu : ∀ env : Env, (X.A.deeper env).units + 40 < cLine) (T : TN X.mg) (ET : ErrE "InvalidTable" X.K X.mg A.t) (EW : ErrE "InvalidRow" X.K X.mg A.r) (EC : ErrE "InvalidCondition" X.K X.mg A.c) (N : NumE "InvalidNumber" "value" X.prog X.w X.K X.mg A.n) (M : NumE "TooMany" "limit" X.prog X.w X.K X.mg A.m) (EX : Exm X.K A) :
    GivesTo X nmMet "_law_met" (defScope sMet) g cdg (defBody sMet) "call" q (TMet X.K A) := by
  obtain ⟨fN, nN, BN, lN, tN, _⟩ := N.t
  obtain ⟨fM, nM, BM, lM, tM, _⟩ := M.t
  intro f c' s H Q tl act hc h
  have gu := hu (envOfC (Str.ofString "_law_met") (defScope sMet) s.heap.objs.size g cdg)
  refine ⟨_, pss_cons (ps_try_any (X := (cxOf C8.CX0 X.prog X.w X.K X.mg X.base nmMet "_law_met" (defScope sMet) g cdg X.A X.stack s H C8.E0).nox) (Wout := fun _ _ _ _ => False)
      (tb := fun W D σ H' => (∀ cls d σ' H2, MetE X.K A Q H2 cls d → σ'.length = 2 → W cls d σ' H2) ∧ σ[0]? = some (some (.ref f)) ∧ H' c' = some (CodeO c' q) ∧ tl (metE X.K A Q) H' (fun _ H2 => D.nx σ H2)) rfl rfl takes_none5
      (fun W pn xe tk _ => ?hb)
      (.cons (hd_only (ts := fun _ _ _ => tRet (tC (.str "table"))) rfl (test_one (c := .ref A.t) ⟨rfl, by decide, .inl ET.g⟩) (fun a oe cls d pn hz hv => pss_one (ps_ret pe_str)))
      (.cons (hd_only (ts := fun _ _ _ => tRet (tC (.str "row"))) rfl (test_one (c := .ref A.r) ⟨rfl, by decide, .inl EW.g⟩) (fun a oe cls d pn hz hv => pss_one (ps_ret pe_str)))
      (.cons (hd_only (ts := fun _ _ _ => tRet (tC (.str "condition"))) rfl (test_one (c := .ref A.c) ⟨rfl, by decide, .inl EC.g⟩) (fun a oe cls d pn hz hv => pss_one (ps_ret pe_str)))
      (.cons (hd_as (i := 1) (ts := fun a cls d => tTold X.K "number " A.n "value" a cls d) rfl scMet.nd rfl rfl (test_one (c := .ref A.n) ⟨rfl, by decide, .inl N.g⟩) (fun a oe cls d pn hz hv => pss_one (ps_ret (pe_op op_add_str pe_str (pe_callB (call_repA gd gu) (by rfl) T.repr (by decide +kernel) (pa_cons (by exact (pe_byE tN N.fr hz hv (pv 1))) pa_nil))))))
      (.cons (hd_as (i := 1) (ts := fun a cls d => tTold X.K "many " A.m "limit" a cls d) rfl scMet.nd rfl rfl (test_one (c := .ref A.m) ⟨rfl, by decide, .inl M.g⟩) (fun a oe cls d pn hz hv => pss_one (ps_ret (pe_op op_add_str pe_str (pe_callB (call_repA gd gu) (by rfl) T.repr (by decide +kernel) (pa_cons (by exact (pe_byE tM M.fr hz hv (pv 1))) pa_nil))))))
      .nil))))))
      (pss_one (ps_ret pe_str)), ?_⟩
  case hb =>
    refine ⟨fun pins s' σ H' D I h' => ?_⟩
    obtain ⟨hW, h1, h2, h3⟩ := h'
    have hp := fun p1 p2 => act _ pn xe (metE X.K A Q) p1 p2 (takes_len tk) (fun cls d σ' H2 m l => hW cls d σ' H2 m l)
    exact (pss_one (ps_expr (hp _ _))).run pins s' σ H' D I ⟨h1, h2, h3⟩
  refine ⟨fun cls d σ' H2 m l => ?_, rfl, hc, h⟩
  have at1 : ∀ a : Addr, (σ'.set 1 (some (V.ref a)))[1]? = some (some (.ref a)) := fun a => by
    rw [List.getElem?_set_self (by omega)]
  cases m with
  | t qq => exact w_yes EX.tt fun a _ => qq
  | r qq => exact w_no EX.rt (w_yes EX.rr fun a _ => qq)
  | c qq => exact w_no EX.ct (w_no EX.cr (w_yes EX.cc fun a _ => qq))
  | n hd p lz qq =>
    refine w_no EX.nt (w_no EX.nr (w_no EX.nc (wa_yes EX.nn fun a _ => ?_)))
    have e7 : (Str.ofString "number ").length = 7 := by decide
    exact ⟨_, at1 a, rfl, rfl, _, _, _, rfl, hd, by simp [List.lookup], _, _, rfl, p, _, _, rfl, rfl, by
      rw [e7]
      exact Nat.le_trans (Nat.add_le_add_left lz 7) (by decide), qq⟩
  | m hd qq =>
    refine w_no EX.mt (w_no EX.mr (w_no EX.mc (wa_no EX.mn (wa_yes EX.mm fun a _ => ?_))))
    refine ⟨_, at1 a, rfl, rfl, _, _, _, rfl, hd, by simp [List.lookup], _, _, rfl, .int 60 (by decide), _, _, rfl, rfl, by decide +kernel, ?_⟩
    have e : (("many " : Str) ++ (toString (60 : Int) : Str)) = "many 60" := by decide +kernel
    show Q (.str (("many " : Str) ++ (toString (60 : Int) : Str))) _
    rw [e]
    exact qq
end
end Q
set_option Elab.async false
set_option linter.all false
set_option maxRecDepth 100000
set_option maxHeartbeats 4000000
/-! the menus -/
namespace Q
open PySem L2 PySem.Spec PyProof.Rows PySem.Calls PySem.OwnX LamX
open Evl
def aTimes (k : Nat) : Str := ⟨(List.replicate k (#[97] : Array Nat)).foldl (· ++ ·) #[]⟩
/-- 'a' * k -/
def rTimes : R2 := fun x y H Q => x = .str "a" ∧ ((y = .int 21 ∧ Q (.str (aTimes 21)) H) ∨ (y = .int 41 ∧ Q (.str (aTimes 41)) H))
theorem op_times {X : Cx} : OpR X (binaryOp .Mult) rTimes := by
  rintro pins s σ H x y v u Q I rx ry ⟨rfl, h⟩
  obtain ⟨t, rfl⟩ := rx
  rcases h with ⟨rfl, q⟩ | ⟨rfl, q⟩
  · obtain ⟨t', rfl⟩ := ry
    refine PySem.P.mul_str (by decide) (fun _ _ => by decide +kernel) (fun _ _ => by decide +kernel) ?_
    rw [if_neg (by decide), if_neg (by decide +kernel)]
    exact ⟨by decide +kernel, .str (aTimes 21), H, I.tok _, ⟨_, rfl⟩, q⟩
  · obtain ⟨t', rfl⟩ := ry
    refine PySem.P.mul_str (by decide) (fun _ _ => by decide +kernel) (fun _ _ => by decide +kernel) ?_
    rw [if_neg (by decide), if_neg (by decide +kernel)]
    exact ⟨by decide +kernel, .str (aTimes 41), H, I.tok _, ⟨_, rfl⟩, q⟩
/-! ### what stays while the bag is drawn from, and while code is made -/
def Kp (H H' : Hp) : Prop := ∀ a o, H a = some o → (∀ ps, o ≠ .tbl ps) → (∀ xs, o ≠ .lst xs) → H' a = some o
def Kv (v : V) (H H' : Hp) : Prop := Kp H H' ∧ ∀ a xs, v = .ref a → H a = some (.lst xs) → H' a = some (.lst xs)
theorem Kv.ofN {v : V} {H H' : Hp} (e : ExtN H H') : Kv v H H' := ⟨fun a o h n _ => e a o h n, fun a xs _ h => e a _ h fun _ z => nomatch z⟩
theorem Kv.ofE {v : V} {H H' : Hp} (e : Ex H H') : Kv v H H' := ⟨fun a o h _ _ => e a o h, fun a xs _ h => e a _ h⟩
def BagIn (p : Addr) (H : Hp) : Prop := ∃ a b c : Int, H p = some (.lst [.int a, .int b, .int c])
theorem Kp.ofB {p : Addr} {H H' : Hp} (hb : BagIn p H) (g : Bgd p H H') : Kp H H' := fun a o h _ n => g.keep a o (fun z => by
  obtain ⟨x, y, w, e⟩ := hb
  rw [z, e] at h
  cases h
  exact n _ rfl) h
theorem Kv.ofB {p : Addr} {v : V} {H H' : Hp} (hb : BagIn p H) (g : Bgd p H H') (n : v ≠ .ref p) : Kv v H H' := ⟨Kp.ofB hb g, fun a xs ev h => g.keep a _ (fun z => n (by rw [ev, z])) h⟩
theorem Pv.kv {H H' : Hp} {v : V} {k : Kd} (e : Kv v H H') (h : Pv H v k) : Pv H' v k := by
  cases h with
  | non => exact .non
  | bl b => exact .bl b
  | int i => exact .int i
  | str z => exact .str z
  | lst h => exact .lst (e.2 _ _ rfl h)
  | tup h => exact .tup (e.1 _ _ h (fun _ z => nomatch z) fun _ z => nomatch z)
  | dct h => exact .dct (e.1 _ _ h (fun _ z => nomatch z) fun _ z => nomatch z)
theorem Pv.kp {H H' : Hp} {v : V} {k : Kd} (e : Kp H H') (h : Pv H v k) (n : k ≠ .lst) : Pv H' v k := by
  cases h with
  | non => exact .non
  | bl b => exact .bl b
  | int i => exact .int i
  | str z => exact .str z
  | lst h => exact absurd rfl n
  | tup h => exact .tup (e _ _ h (fun _ z => nomatch z) fun _ z => nomatch z)
  | dct h => exact .dct (e _ _ h (fun _ z => nomatch z) fun _ z => nomatch z)
theorem TD1.kp {H H' : Hp} {v : V} {d : PyData} (e : Kp H H') (h : TD1 H v d) : TD1 H' v d := h.by fun a ys q => e _ _ q (fun _ z => nomatch z) fun _ z => nomatch z
theorem TbA.kp {C : Addr} {H H' : Hp} {a : Addr} {ns : List Int} {nx : Int} (e : Kp H H') (h : TbA C H a ns nx) : TbA C H' a ns nx := by
  obtain ⟨dx, KD, Rw, o1, o2, rows, h1, h2, h3, h4⟩ := h
  exact ⟨dx, KD, Rw, o1, o2, rows, e _ _ h1 (fun _ z => nomatch z) (fun _ z => nomatch z), e _ _ h2 (fun _ z => nomatch z) (fun _ z => nomatch z), e _ _ h3 (fun _ z => nomatch z) (fun _ z => nomatch z), h4⟩
theorem BadK.kv {H H' : Hp} {v : V} (e : Kv v H H') (h : BadK H v) : BadK H' v := by
  rcases h with ⟨k, p, hk⟩ | ⟨d, o, kvs, rfl, hd, h⟩
  · exact .inl ⟨k, p.kv e, hk⟩
  · exact .inr ⟨d, o, kvs, rfl, e.1 _ _ hd (fun _ z => nomatch z) (fun _ z => nomatch z), h⟩
theorem NoTb.kv {H H' : Hp} {v : V} (e : Kv v H H') (h : NoTb H v) : NoTb H' v := let ⟨k, p⟩ := h; ⟨k, p.kv e⟩
theorem TermK.kv {H H' : Hp} {v r : V} (e : Kv v H H') (h : TermK H v r) : TermK H' v r := by
  rcases h with ⟨k, p, h1, h2⟩ | ⟨d, x, h⟩
  · exact .inl ⟨k, p.kv e, h1, h2⟩
  · exact .inr ⟨d, x.kp e.1, h⟩
theorem CondB.kv {H H' : Hp} {v : V} {b : Bool} (e : Kv v H H') (h : CondB H v b) : CondB H' v b := by
  rcases h with ⟨k, p, h1, h2⟩ | ⟨d, x, h⟩
  · exact .inl ⟨k, p.kv e, h1, h2⟩
  · exact .inr ⟨d, x.kp e.1, h⟩
/-- a bad row; what stands in it is no list -/
def BadX (H : Hp) (v : V) : Prop := (∃ k, Pv H v k ∧ k ≠ .dct) ∨ ∃ d o k u, v = .ref d ∧ H d = some (.frz o (.dK [(k, u)])) ∧ (valV KS k = none ∨ ∃ (w : Str) (kd : Kd) (r : V), valV KS k = some (.str w) ∧ u ≠ .non ∧ Pv H u kd ∧ kd ≠ .lst ∧ Kov u kd r ∧ (r = .non ∨ ∃ x : Str, r = .str x ∧ x ≠ w))
theorem BadX.bad {H : Hp} {v : V} (h : BadX H v) : BadR H v := by
  rcases h with h | ⟨d, o, k, u, h1, h2, h3 | ⟨w, kd, r, g1, g2, g3, _, g4, g5⟩⟩
  · exact .inl h
  · exact .inr ⟨d, o, k, u, h1, h2, .inl h3⟩
  · exact .inr ⟨d, o, k, u, h1, h2, .inr ⟨w, kd, r, g1, g2, g3, g4, g5⟩⟩
theorem BadX.kv {H H' : Hp} {v : V} (e : Kv v H H') (h : BadX H v) : BadX H' v := by
  rcases h with ⟨k, p, hk⟩ | ⟨d, o, k, u, rfl, hd, h⟩
  · exact .inl ⟨k, p.kv e, hk⟩
  · refine .inr ⟨d, o, k, u, rfl, e.1 _ _ hd (fun _ z => nomatch z) (fun _ z => nomatch z), ?_⟩
    rcases h with h | ⟨w, kd, r, g1, g2, g3, gl, g4⟩
    · exact .inl h
    · exact .inr ⟨w, kd, r, g1, g2, g3.kp e.1 gl, gl, g4⟩
/-- a number that isn't there, and its text -/
inductive FarV (K : PySem.W.Frag) (H : Hp) : V → Str → Prop where
  | sc {v : V} {k : Kd} {z : Str} (p : ∀ H, Pv H v k) (n : isIn v [1, 2] = false) (r : ∀ H, Rep K H v z) (l : z.length ≤ 1000) : FarV K H v z
  | tup {a : Addr} (h : H a = some (.tup [.int 1])) : FarV K H (.ref a) "(1,)"
  | lst {a : Addr} (h : H a = some (.lst [.int 1])) : FarV K H (.ref a) "[1]"
theorem FarV.kv {K : PySem.W.Frag} {H H' : Hp} {v : V} {z : Str} (e : Kv v H H') (h : FarV K H v z) : FarV K H' v z := by
  cases h with
  | sc p n r l => exact .sc p n r l
  | tup h => exact .tup (e.1 _ _ h (fun _ z => nomatch z) fun _ z => nomatch z)
  | lst h => exact .lst (e.2 _ _ rfl h)
theorem sh_one : Sh (.tuple [.int 1]) := ⟨by decide +kernel, by decide +kernel, by decide +kernel, by decide +kernel⟩
theorem sh_oneL : Sh (.list [.int 1]) := ⟨by decide +kernel, by decide +kernel, by decide +kernel, by decide +kernel⟩
theorem FarV.rep {K : PySem.W.Frag} {H : Hp} {v : V} {z : Str} (h : FarV K H v z) : Rep K H v z := by
  cases h with
  | sc p n r l => exact r H
  | tup h =>
    have e : (PyData.tuple [.int 1]).shown = "(1,)" := by decide +kernel
    rw [← e]
    exact .dat (.tup (SqT.of h) (.cons (.int 1) .nil)) (by decide) sh_one
  | lst h =>
    have e : (PyData.list [.int 1]).shown = "[1]" := by decide +kernel
    rw [← e]
    exact .dat (.lst (SqL.of h) (.cons (.int 1) .nil)) (by decide) sh_oneL
theorem FarV.len {K : PySem.W.Frag} {H : Hp} {v : V} {z : Str} (h : FarV K H v z) : z.length ≤ 1000 := by
  cases h with
  | sc p n r l => exact l
  | tup h => decide
  | lst h => decide
theorem FarV.pv {K : PySem.W.Frag} {H : Hp} {v : V} {z : Str} (h : FarV K H v z) : (∃ k, Pv H v k) ∧ isIn v [1, 2] = false := by
  cases h with
  | sc p n r l => exact ⟨⟨_, p H⟩, n⟩
  | tup h => exact ⟨⟨_, .tup h⟩, rfl⟩
  | lst h => exact ⟨⟨_, .lst h⟩, rfl⟩
end Q
set_option Elab.async false
set_option linter.all false
set_option maxRecDepth 100000
set_option maxHeartbeats 4000000
/-! a value of a menu -/
namespace Q
open PySem L2 PySem.Spec PyProof.Rows PySem.Calls PySem.OwnX LamX
open Evl
def EvP (p : Addr) (P : Hp → V → Prop) (te : TE) (σ : L2.St) : Prop := ∀ H, BagIn p H → ∀ Q : VK, (∀ v H2, Ex H H2 → P H2 v → v ≠ .ref p → Q v H2) → te σ H Q
def EvPs (p : Addr) (P : Hp → V → Prop) (ta : TA) (σ : L2.St) (n : Nat) : Prop := ∀ H, BagIn p H → ∀ Q : List V → Hp → Prop, (∀ vs H2, Ex H H2 → vs.length = n → (∀ v ∈ vs, P H2 v ∧ v ≠ .ref p) → Q vs H2) → ta σ H Q
/-- it stays -/
def Sty (P : Hp → V → Prop) : Prop := ∀ H H' v, Kv v H H' → P H v → P H' v
theorem BagIn.mono {p : Addr} {H H' : Hp} (e : Ex H H') (h : BagIn p H) : BagIn p H' := (bag_ex e h).bag
theorem BagIn.ne {p l : Addr} {H : Hp} (h : BagIn p H) (n : H l = none) : l ≠ p := fun z => by
  obtain ⟨a, b, c, e⟩ := h
  rw [z, e] at n
  cases n
section
variable {p : Addr} {P : Hp → V → Prop} {σ : L2.St} {te ta' tk tv : TE} {ta : TA} {n : Nat} {v u : V} {ds : List PyData} {k : Key}
theorem eps_nil : EvPs p P tNil σ 0 := fun H _ Q q => q [] H (Ex.refl _) rfl fun v hv => nomatch hv
theorem eps_cons (s : Sty P) (h : EvP p P te σ) (t : EvPs p P ta σ n) : EvPs p P (tCons te ta) σ (n + 1) := fun H hb Q q =>
  h H hb _ fun v H2 e2 pv nv => t H2 (hb.mono e2) _ fun vs H3 e3 l a => q (v :: vs) H3 (e2.trans e3) (by rw [List.length_cons, l]) fun w hw => by
    rcases List.mem_cons.mp hw with rfl | hw
    · exact ⟨s _ _ _ (Kv.ofE e3) pv, nv⟩
    · exact a w hw
theorem ep_ev (h : ∀ H, Ev te σ H v) (hp : ∀ H, P H v) (nr : ∀ a, v ≠ .ref a) : EvP p P te σ := fun H _ Q q => h H H (Ex.refl _) _ fun H2 e2 => q v H2 e2 (hp H2) (nr p)
theorem ep_c (hp : ∀ H, P H v) (nr : ∀ a, v ≠ .ref a) : EvP p P (tC v) σ := ep_ev (fun H => ev_c) hp nr
theorem ep_tup (h : ∀ H, EvD te σ H (.tuple ds)) (hp : ∀ H v, TD1 H v (.tuple ds) → P H v) : EvP p P te σ := fun H hb Q q => h H H (Ex.refl _) _ fun v H2 e2 x => q v H2 e2 (hp H2 v x) fun z => by
  obtain ⟨a, xs, rfl, ha, _⟩ := x.tup
  cases z
  obtain ⟨_, _, _, e⟩ := hb.mono e2
  rw [e] at ha
  cases ha
theorem ep_lst (h : ∀ H, BagIn p H → ∀ Q : List V → Hp → Prop, (∀ vs H2, Ex H H2 → vs.length ≤ 10 → Q vs H2) → ta σ H Q) (hp : ∀ H a xs, H a = some (.lst xs) → P H (.ref a)) : EvP p P (tLst ta) σ := fun H hb Q q => h H hb _ fun vs H2 e2 l => ⟨Nat.le_trans l (by decide), fun a ha => q _ _ (e2.trans (Ex.new ha)) (hp _ a vs upd_same) fun z => by
  cases z
  exact (hb.mono e2).ne ha rfl⟩
theorem ep_lst1 (hp : ∀ H a, H a = some (.lst [u]) → P H (.ref a)) : EvP p P (tLst (tCons (tC u) tNil)) σ := fun H hb Q q => ⟨by show 1 ≤ sizeLine; decide, fun a ha => q _ _ (Ex.new ha) (hp _ a upd_same) fun z => by
  cases z
  exact hb.ne ha rfl⟩
theorem ep_d0 (hp : ∀ H a o, H a = some (.frz o (.dK [])) → P H (.ref a)) : EvP p P (tFast tDNewK) σ := fun H hb Q q a ha => ⟨a, _, rfl, upd_same, True.intro, fun o => q _ _ (Ex.mut (Ex.new ha) ha) (hp _ a o upd_same) fun z => by
  cases z
  exact hb.ne ha rfl⟩
theorem ep_d1 (hk : ∀ H, Ev tk σ H (kV k)) (hv : ∀ H, Ev tv σ H u) (hp : ∀ H a o, H a = some (.frz o (.dK [(k, u)])) → P H (.ref a)) : EvP p P (tFast (tDisp [(tk, tv)])) σ := fun H hb Q q a ha =>
  hk _ _ (Ex.refl _) _ fun H2 e2 => hv _ _ (Ex.refl _) _ fun H3 e3 => ⟨(e2.trans e3) _ _ upd_same, [(k, u)], rfl, by show 1 ≤ 15; decide, a, _, rfl, upd_same, True.intro, fun o => q _ _ (Ex.mut (Ex.mut ((Ex.new ha).trans (e2.trans e3)) ha) ha) (hp _ a o upd_same) fun z => by
    cases z
    exact hb.ne ha rfl⟩
theorem ep_d1t (hk : ∀ H, Ev tk σ H (kV k)) (hv : ∀ H, EvD tv σ H (.tuple ds)) (hp : ∀ H a o u, H a = some (.frz o (.dK [(k, u)])) → TD1 H u (.tuple ds) → P H (.ref a)) : EvP p P (tFast (tDisp [(tk, tv)])) σ := fun H hb Q q a ha =>
  hk _ _ (Ex.refl _) _ fun H2 e2 => hv _ _ (Ex.refl _) _ fun u H3 e3 x => ⟨(e2.trans e3) _ _ upd_same, [(k, u)], rfl, by show 1 ≤ 15; decide, a, _, rfl, upd_same, True.intro, fun o => q _ _ (Ex.mut (Ex.mut ((Ex.new ha).trans (e2.trans e3)) ha) ha) (hp _ a o u upd_same (x.by fun b ys hb => by
    have nb : b ≠ a := fun z => by
      rw [z, (e2.trans e3) _ _ upd_same] at hb
      cases hb
    rw [upd_ne nb, upd_ne nb]
    exact hb)) fun z => by
    cases z
    exact hb.ne ha rfl⟩
/-- one of them, by the bag -/
theorem one_menu {H : Hp} {Q : VK} {i : Nat} {E : XK} (si : σ[i]? = some (some (.ref p))) (s : Sty P) (h : EvPs p P ta σ n) (h0 : 0 < n) (h1 : n ≤ 20) (hb : BagIn p H) (q : ∀ v H', Bgd p H H' → P H' v → v ≠ .ref p → Q v H') : tCall spOne [] E (tCons (tVar i) (tCons (tLst ta) tNil)) σ H Q := by
  refine ⟨_, si, h H hb _ fun vs H2 e2 l a => ⟨Nat.le_trans (show vs.length ≤ 20 by omega) (by decide), fun L hL => ?_⟩⟩
  have hb2 := hb.mono e2
  have e3 := Ex.new (o := .lst vs) hL
  have hb3 := hb2.mono e3
  obtain ⟨x, y, w, e⟩ := id hb3
  refine ⟨p, L, x, y, w, vs, rfl, e, hb2.ne hL, upd_same, by omega, by omega, fun j v H' hv g => ?_⟩
  obtain ⟨pv, nv⟩ := a v (List.mem_of_getElem? hv)
  exact q v H' ((bag_ex (e2.trans e3) hb).trans g) (s _ _ _ (Kv.ofB hb3 g nv) (s _ _ _ (Kv.ofE e3) pv)) nv
end
end Q
set_option Elab.async false
set_option linter.all false
set_option maxRecDepth 100000
set_option maxHeartbeats 8000000
/-! a lambda that is met -/
namespace Q
open PySem L2 PySem.Spec PyProof.Rows PySem.Calls PySem.OwnX LamX LamY
open Evl
structure MF (P : Program) (w : World) (K : PySem.W.Frag) (mg : Str → Option Value) (A : Fv) : Prop where
  T : TN mg
  ET : ErrE "InvalidTable" K mg A.t
  EW : ErrE "InvalidRow" K mg A.r
  EC : ErrE "InvalidCondition" K mg A.c
  N : NumE "InvalidNumber" "value" P w K mg A.n
  M : NumE "TooMany" "limit" P w K mg A.m
  EX : Exm K A
  met : ∃ (g : Addr) (oc : Value) (od : Option Addr) (kV doc pm : Value) (an : Option Addr) (cdv ct : Value) (osl : Array (Option Value)), mg "_law_met" = some (.ref g) ∧ PySem.W.keepIn K (.ref g) = true ∧
    K.lookup g = some ⟨oc, od, .func (PySem.W.fnOf "_law_met" "_law_met" (defArgs sMet) (defBody sMet) (defScope sMet) .none kV doc pm an cdv ct), osl⟩ ∧ PySem.W.codeIn K cdv "_law_met" = true ∧ L2.Binds K (PySem.W.fnOf "_law_met" "_law_met" (defArgs sMet) (defBody sMet) (defScope sMet) .none kV doc pm an cdv ct) ["call"] []
/-- the def's code object at c and its table at P -/
structure LamT (X : Cx) (T : List (Addr × Str)) (c P : Addr) : Prop where
  tb : TabB X.base X.mg c P
  code : X.env.code = .ref c
  mem : (P, X.env.qual ++ "<lambda>") ∈ T
  uni : ∀ p ∈ T, p.1 = P → p.2 = X.env.qual ++ "<lambda>"
section
variable {X : Cx} {A : Fv} {T : List (Addr × Str)} {c P : Addr} {k kk : Nat} {n : Int} {params : Arguments} {body : Expr} {scope : Scope} {t : XK → TE} {p lpos pos dp : Pos} {y : Str}
theorem pe_met (F : MF X.prog X.w X.K X.mg A) (gd : X.A.guards = some []) (hg : Gl X "_law_met") (LT : LamT X T c P) (hr : Room (k + 2) X.A) (L : LamS X.env.scope scope) (hdef : defaultsOf params X.env = ([], []))
    (hbind : ∀ (q : Str) (cl : List (Str × Addr)) (pm cv ctv : Value), bindArgs (PySem.W.kla_fn "<lambda>" q params body scope cl pm cv ctv) ⟨[], []⟩ = pure [])
    (hbody : ∀ (B : Around) (outer : List Env) (s : Shared) (H : Hp) (E : XK) (f c' : Addr), Room k (B.deeper (lamEnv X scope s.heap.objs.size f c')) → PE (lamCx X B outer s H E scope f c') body (t E)) :
    PE X (.Call (.Name "_law_met" p) [.Lambda params body scope lpos] [] pos) (tLam T (TMet X.K A) t) := by
  obtain ⟨g, oc, od, kV, doc, pm, an, cdv, ct, osl, m1, m2, m3, m4, m5⟩ := F.met
  exact pe_lamcall hg m1 m2 m3 m4 m5 scMet rfl (.inl rfl) (met_gives gd (fun env => by have := ((hr.mono (show 1 ≤ k + 2 by omega)).deeper env).units; omega) F.T F.ET F.EW F.EC F.N F.M F.EX) LT.tb LT.code LT.mem LT.uni hr L hdef hbind hbody
theorem pe_metD (F : MF X.prog X.w X.K X.mg A) (gd : X.A.guards = some []) (hg : Gl X "_law_met") (LT : LamT X T c P) (hr : Room (k + 2) X.A) (L : LamP X.env.scope scope y) (nx : y ∉ X.N) (hds : params.defaults = [.Constant (.int n) kk dp]) (hk0 : params.kw_defaults = []) (hbind : BindsY params body scope y)
    (hbody : ∀ (B : Around) (outer : List Env) (s : Shared) (H : Hp) (E : XK) (f c' : Addr), Room k (B.deeper (lamEnv X scope s.heap.objs.size f c')) → PE (lamCx X B outer s H E scope f c') body (t E)) :
    PE X (.Call (.Name "_law_met" p) [.Lambda params body scope lpos] [] pos) (tLam T (TMet X.K A) t) := by
  obtain ⟨g, oc, od, kV, doc, pm, an, cdv, ct, osl, m1, m2, m3, m4, m5⟩ := F.met
  exact pe_lamD hg m1 m2 m3 m4 m5 scMet rfl (.inl rfl) (met_gives gd (fun env => by have := ((hr.mono (show 1 ≤ k + 2 by omega)).deeper env).units; omega) F.T F.ET F.EW F.EC F.N F.M F.EX) LT.tb LT.code LT.mem LT.uni hr L nx hds hk0 hbind hbody
end
end Q
set_option Elab.async false
set_option linter.all false
set_option maxRecDepth 100000
set_option maxHeartbeats 4000000
/-! pairs of what is met and what is due -/
namespace Q
open PySem L2 PySem.Spec PyProof.Rows PySem.Calls PySem.OwnX LamX LamY
open Evl
abbrev qE : Str := (((Str.ofString "_law_errors") ++ ".<locals>." : Str) ++ "<lambda>" : Str)
abbrev qL : Str := (((Str.ofString "law") ++ ".<locals>." : Str) ++ "<lambda>" : Str)
abbrev lamT (pE pL : Addr) : List (Addr × Str) := [(pE, qE), (pL, qL)]
theorem lam_uE {pE pL : Addr} (ne : pE ≠ pL) : ∀ p ∈ lamT pE pL, p.1 = pE → p.2 = qE := fun p hp e => by
  rcases List.mem_cons.mp hp with rfl | hp
  · rfl
  · rw [List.mem_singleton.mp hp] at e
    exact absurd e.symm ne
theorem lam_uL {pE pL : Addr} (ne : pE ≠ pL) : ∀ p ∈ lamT pE pL, p.1 = pL → p.2 = qL := fun p hp e => by
  rcases List.mem_cons.mp hp with rfl | hp
  · exact absurd e ne
  · rw [List.mem_singleton.mp hp]
/-- pairs of equal texts stand in the list at F -/
def Fnd (F : Addr) (n : Nat) (H : Hp) : Prop := ∃ ls : List Addr, H F = some (.lst (ls.map V.ref)) ∧ ls.length = n ∧ ∀ l ∈ ls, l ≠ F ∧ ∃ x : Str, H l = some (.lst [.str x, .str x])
def spErr (C pE pL : Addr) : Sp := fun vs H Q _ => ∃ p a, vs = [.ref p, .ref a] ∧ BagIn p H ∧ TbA C H a [1, 2] 3 ∧ Tabs (lamT pE pL) H ∧
  ∀ F H', (∀ l o, l ≠ p → H l = some o → (∀ ps, o ≠ .tbl ps) → H' l = some o) → Tabs (lamT pE pL) H' → Fnd F 20 H' → Q (.ref F) H'
theorem tabs_upd {T : List (Addr × Str)} {H : Hp} {F : Addr} {xs ys : List V} (t : Tabs T H) (h : H F = some (.lst xs)) : Tabs T (upd H F (.lst ys)) := fun p hp => by
  obtain ⟨ps, h1, h2, h3⟩ := t p hp
  have nF : ∀ {l : Addr} {o : HO}, H l = some o → (∀ zs, o ≠ .lst zs) → l ≠ F := fun {l o} e n z => by
    rw [z, h] at e
    cases e
    exact n _ rfl
  refine ⟨ps, by rw [upd_ne (nF h1 fun _ z => nomatch z)]; exact h1, h2, fun pos cv hc => ?_⟩
  obtain ⟨c, e1, e2⟩ := h3 pos cv hc
  exact ⟨c, e1, by rw [upd_ne (nF e2 fun zs z => by unfold CodeO at z; cases z)]; exact e2⟩
theorem ext_ex {H H1 H2 : Hp} (a : ExtN H H1) (b : Ex H1 H2) : ExtN H H2 := fun l o h n => b l o (a l o h n)
theorem ex_extN {H H1 : Hp} (a : Ex H H1) : ExtN H H1 := fun l o h _ => a l o h
/-- without the tables -/
def cutT (H : Hp) : Hp := fun l => match H l with
  | some (.tbl _) => none
  | o => o
theorem cutT_of {H : Hp} {l : Addr} {o : HO} (h : H l = some o) (n : ∀ ps, o ≠ .tbl ps) : cutT H l = some o := by
  unfold cutT
  rw [h]
  cases o <;> first | rfl | exact absurd rfl (n _)
theorem of_cutT {H : Hp} {l : Addr} {o : HO} (h : cutT H l = some o) : H l = some o ∧ ∀ ps, o ≠ .tbl ps := by
  unfold cutT at h
  split at h
  · cases h
  · rename_i n
    exact ⟨h, fun ps z => by
      rw [z] at h
      exact n ps h⟩
theorem cut_ext {H H1 : Hp} (e : ExtN H H1) : ExtN (cutT H) H1 := fun l o h n => e l o (of_cutT h).1 n
theorem Kv.cut {v : V} {H : Hp} : Kv v H (cutT H) := ⟨fun a o h n _ => cutT_of h n, fun a xs _ h => cutT_of h fun _ z => nomatch z⟩
/-- the pairs so far; S what stood when the first was made -/
structure Er (S : Hp) (T : List (Addr × Str)) (F : Addr) (n : Nat) (H : Hp) : Prop where
  nF : S F = none
  ext : ExtN S H
  tabs : Tabs T H
  fnd : Fnd F n H
section
variable {K : PySem.W.Frag} {A : Fv} {T : List (Addr × Str)} {σ : L2.St} {H S : Hp} {t : XK → TE} {te : TE} {x : Str} {D : Ends} {tz : TS} {F : Addr} {n : Nat}
/-- [_law_met(..), text] -/
theorem go_pair {Q : VK} (tabs : Tabs T H) (hm : ∀ H1, ExtN H H1 → ∀ Q1 : VK, (∀ H2, Ex H1 H2 → Q1 (.str x) H2) → t (metE K A Q1) σ H1 fun _ H2 => Q1 (.str "fine") H2) (h2 : ∀ H1, ExtN H H1 → ∀ Q1 : VK, (∀ H2, Ex H1 H2 → Q1 (.str x) H2) → te σ H1 Q1)
    (k : ∀ L H1, ExtN H H1 → Tabs T H1 → H1 L = none → Q (.ref L) (upd H1 L (.lst [.str x, .str x]))) : tLst (tCons (tLam T (TMet K A) t) (tCons te tNil)) σ H Q := by
  refine ⟨tabs, fun H1 e1 t1 => ?_⟩
  refine hm H1 e1 _ fun H2 e2 => h2 H2 (ext_ex e1 e2) _ fun H3 e3 => ⟨by show 2 ≤ sizeLine; decide, fun L hL => ?_⟩
  exact k L H3 (ext_ex (ext_ex e1 e2) e3) ((t1.ext e2).ext e3) hL
/-- found.append([..]) -/
theorem q_err (er : Er S T F n H) (si : σ[2]? = some (some (.ref F))) (hn : n < 40) (hm : ∀ H1, ExtN S H1 → ∀ Q1 : VK, (∀ H2, Ex H1 H2 → Q1 (.str x) H2) → t (metE K A Q1) σ H1 fun _ H2 => Q1 (.str "fine") H2)
    (h2 : ∀ H1, ExtN S H1 → ∀ Q1 : VK, (∀ H2, Ex H1 H2 → Q1 (.str x) H2) → te σ H1 Q1) (k : ∀ H', Er S T F (n + 1) H' → tz D σ H') :
    tSeq (tDrop (tBM K "list" rAppend (tVar 2) (tCons (tLst (tCons (tLam T (TMet K A) t) (tCons te tNil))) tNil))) tz D σ H := by
  obtain ⟨nF, ext, tabs, ls, hF, hl, ha⟩ := er
  refine ⟨_, si, .inl ⟨rfl, _, SqL.of hF⟩, ?_⟩
  refine go_pair tabs (fun H1 e1 => hm H1 (ext.trans e1)) (fun H1 e1 => h2 H1 (ext.trans e1)) fun L H1 e1 t1 hL => ?_
  have hF1 := e1 _ _ hF fun _ z => nomatch z
  have nL : L ≠ F := fun z => by rw [z, hF1] at hL; cases hL
  have eL := Ex.new (o := .lst [.str x, .str x]) hL
  have hF2 := eL _ _ hF1
  refine ⟨F, _, .ref L, rfl, rfl, hF2, Nat.lt_of_lt_of_le (show (ls.map V.ref).length < 40 by rw [List.length_map]; omega) (by decide), k _ ⟨nF, fun l o h n => ?_, tabs_upd (t1.ext eL) hF2, ls ++ [L], by rw [upd_same, List.map_append]; rfl, by rw [List.length_append, hl]; rfl, fun l hm2 => ?_⟩⟩
  · have nl : l ≠ F := fun z => by rw [z, nF] at h; cases h
    rw [upd_ne nl]
    exact eL _ _ (e1 _ _ (ext _ _ h n) n)
  · rcases List.mem_append.mp hm2 with hm2 | hm2
    · obtain ⟨n1, y, hy⟩ := ha l hm2
      exact ⟨n1, y, by rw [upd_ne n1]; exact eL _ _ (e1 _ _ hy fun _ z => nomatch z)⟩
    · rw [List.mem_singleton.mp hm2]
      exact ⟨nL, x, by rw [upd_ne nL, upd_same]⟩
theorem go_lst2 {t1 t2 : TE} {Q : VK} (h : t1 σ H fun v H1 => t2 σ H1 fun u H2 => 2 ≤ sizeLine ∧ ∀ p, H2 p = none → Q (.ref p) (upd H2 p (.lst [v, u]))) : tLst (tCons t1 (tCons t2 tNil)) σ H Q := h
/-- found = [[..], [..]] -/
theorem q_err2 {t2 : XK → TE} {te2 : TE} {y : Str} (tabs : Tabs T H) (hm : ∀ H1, ExtN (cutT H) H1 → ∀ Q1 : VK, (∀ H2, Ex H1 H2 → Q1 (.str x) H2) → t (metE K A Q1) σ H1 fun _ H2 => Q1 (.str "fine") H2)
    (h2 : ∀ H1, ExtN (cutT H) H1 → ∀ Q1 : VK, (∀ H2, Ex H1 H2 → Q1 (.str x) H2) → te σ H1 Q1) (hm' : ∀ H1, ExtN (cutT H) H1 → ∀ Q1 : VK, (∀ H2, Ex H1 H2 → Q1 (.str y) H2) → t2 (metE K A Q1) σ H1 fun _ H2 => Q1 (.str "fine") H2)
    (h2' : ∀ H1, ExtN (cutT H) H1 → ∀ Q1 : VK, (∀ H2, Ex H1 H2 → Q1 (.str y) H2) → te2 σ H1 Q1) (k : ∀ F H', Er (cutT H) T F 2 H' → tz D (σ.set 2 (some (.ref F))) H') :
    tSeq (tAsg (tLst (tCons (tLst (tCons (tLam T (TMet K A) t) (tCons te tNil))) (tCons (tLst (tCons (tLam T (TMet K A) t2) (tCons te2 tNil))) tNil))) (gName 2)) tz D σ H := by
  refine q_asgQ (go_lst2 ?_)
  refine go_pair tabs (fun H1 e1 => hm H1 (cut_ext e1)) (fun H1 e1 => h2 H1 (cut_ext e1)) fun L1 H1 e1 t1 hL1 => ?_
  have eL1 := Ex.new (o := .lst [.str x, .str x]) hL1
  refine go_pair (t1.ext eL1) (fun H2 e2 => hm' H2 (cut_ext ((ext_ex e1 eL1).trans e2))) (fun H2 e2 => h2' H2 (cut_ext ((ext_ex e1 eL1).trans e2))) fun L2 H2 e2 t2 hL2 => ?_
  refine ⟨by decide, fun F hF => ?_⟩
  have eL2 := Ex.new (o := .lst [.str y, .str y]) hL2
  have eF := Ex.new (o := .lst [.ref L1, .ref L2]) hF
  have h1 : H2 L1 = some (.lst [.str x, .str x]) := e2 _ _ upd_same fun _ z => nomatch z
  have n12 : L1 ≠ L2 := fun z => by rw [z, hL2] at h1; cases h1
  have n1F : L1 ≠ F := fun z => by rw [← z, eL2 _ _ h1] at hF; cases hF
  have n2F : L2 ≠ F := fun z => by rw [← z, upd_same] at hF; cases hF
  have e02 := ext_ex ((ext_ex e1 eL1).trans e2) eL2
  refine k F _ ⟨?_, cut_ext (ext_ex e02 eF), (t2.ext eL2).ext eF, [L1, L2], upd_same, rfl, fun l hm2 => ?_⟩
  · cases hS : cutT H F with
    | none => rfl
    | some o =>
      have z := cut_ext e02 F o hS (of_cutT hS).2
      rw [hF] at z
      cases z
  · rcases List.mem_cons.mp hm2 with rfl | hm2
    · exact ⟨n1F, x, by rw [upd_ne n1F]; exact eL2 _ _ h1⟩
    · rw [List.mem_singleton.mp hm2]
      exact ⟨n2F, y, by rw [upd_ne n2F, upd_same]⟩
end
end Q
set_option Elab.async false
set_option linter.all false
set_option maxRecDepth 100000
set_option maxHeartbeats 8000000
/-! the six menus -/
namespace Q
open PySem L2 PySem.Spec PyProof.Rows PySem.Calls PySem.OwnX LamX LamY
open Evl
theorem sK : Sty BadK := fun _ _ _ => BadK.kv
theorem sN : Sty NoTb := fun _ _ _ => NoTb.kv
theorem sX : Sty BadX := fun _ _ _ => BadX.kv
theorem sC0 : Sty (fun H v => CondB H v false) := fun _ _ _ => CondB.kv
theorem sT0 : Sty (fun H v => TermK H v .non) := fun _ _ _ => TermK.kv
theorem sF {K : PySem.W.Frag} : Sty (fun H v => ∃ z, FarV K H v z) := fun _ _ _ e h => let ⟨z, h⟩ := h; ⟨z, h.kv e⟩
theorem rv_times {b : Nat} {H : Hp} (h : b = 21 ∨ b = 41) : RV rTimes (.str "a") (.int (b : Int)) H (.str (aTimes b)) := fun H1 e Q q => by
  rcases h with rfl | rfl
  · exact ⟨rfl, .inl ⟨rfl, q H1 (Ex.refl _)⟩⟩
  · exact ⟨rfl, .inr ⟨rfl, q H1 (Ex.refl _)⟩⟩
/-- a dict of one kind that is none -/
theorem bad1 {H : Hp} {a : Addr} {o : Obj} {k : Key} {u : V} {d : PyData} (h : H a = some (.frz o (.dK [(k, u)]))) (s : smallK k) (kw : Kw u d) (hb : (nameK k && kindsD.any fun z => PyData.eqv z d) = false) : BadK H (.ref a) := .inr ⟨a, o, _, rfl, h, .inr ⟨_, rfl, s, d, kw, hb.symm⟩⟩
/-- a row of one column that is none -/
theorem badN {H : Hp} {a : Addr} {o : Obj} {k : Key} {u : V} (h : H a = some (.frz o (.dK [(k, u)]))) (n : valV KS k = none) : BadX H (.ref a) := .inr ⟨a, o, k, u, rfl, h, .inl n⟩
theorem badV {H : Hp} {a : Addr} {o : Obj} {k : Key} {u r : V} {w : Str} {kd : Kd} (h : H a = some (.frz o (.dK [(k, u)]))) (n : valV KS k = some (.str w)) (nu : u ≠ .non) (p : Pv H u kd) (nl : kd ≠ .lst) (ko : Kov u kd r) (hr : r = .non ∨ ∃ x : Str, r = .str x ∧ x ≠ w) : BadX H (.ref a) := .inr ⟨a, o, k, u, rfl, h, .inr ⟨w, kd, r, n, nu, p, nl, ko, hr⟩⟩
section
variable {K : PySem.W.Frag} {p : Addr} {σ : L2.St}
theorem m_kinds : EvPs p BadK (tCons (tC .non) (tCons (tFast tDNewK) (tCons (tC (.str "number")) (tCons (tFast (tDisp [(tC (.str "a"), tC (.str "numbers"))])) (tCons (tFast (tDisp [(tC (.str "A"), tC (.str "text"))])) (tCons (tFast (tDisp [(tC (.str ""), tC (.str "text"))])) (tCons (tFast (tDisp [(tC (.int 1), tC (.str "text"))]))
    (tCons (tFast (tDisp [(tC (.str "a"), tC .non)])) (tCons (tLst (tCons (tTup (tCons (tC (.str "a")) (tCons (tC (.str "text")) tNil))) tNil)) (tCons (tFast (tDisp [(tOp rTimes (tC (.str "a")) (tC (.int 21)), tC (.str "text"))])) tNil)))))))))) σ 10 :=
  eps_cons sK (ep_c (fun H => .inl ⟨_, .non, fun z => nomatch z⟩) fun a z => nomatch z) (eps_cons sK (ep_d0 fun H a o h => .inr ⟨a, o, [], rfl, h, .inl (.inl rfl)⟩) (eps_cons sK (ep_c (fun H => .inl ⟨_, .str _, fun z => nomatch z⟩) fun a z => nomatch z)
  (eps_cons sK (ep_d1 (k := .inr "a") (fun H => ev_c) (fun H => ev_c) fun H a o h => bad1 h (by show 1 ≤ 1000; decide) (.str _ (by decide +kernel)) (by decide +kernel)) (eps_cons sK (ep_d1 (k := .inr "A") (fun H => ev_c) (fun H => ev_c) fun H a o h => bad1 h (by show 1 ≤ 1000; decide) (.str _ (by decide +kernel)) (by decide +kernel))
  (eps_cons sK (ep_d1 (k := .inr "") (fun H => ev_c) (fun H => ev_c) fun H a o h => bad1 h (by show 0 ≤ 1000; decide) (.str _ (by decide +kernel)) (by decide +kernel)) (eps_cons sK (ep_d1 (k := .inl 1) (fun H => ev_c) (fun H => ev_c) fun H a o h => bad1 h True.intro (.str _ (by decide +kernel)) (by decide +kernel))
  (eps_cons sK (ep_d1 (k := .inr "a") (fun H => ev_c) (fun H => ev_c) fun H a o h => bad1 h (by show 1 ≤ 1000; decide) .non (by decide +kernel))
  (eps_cons sK (ep_lst (fun H hb Q q => ⟨by show 2 ≤ sizeLine; decide, fun t ht => q _ _ (Ex.new ht) (by show 1 ≤ 10; decide)⟩) fun H a xs h => .inl ⟨_, .lst h, fun z => nomatch z⟩)
  (eps_cons sK (ep_d1 (k := .inr (aTimes 21)) (fun H => ev_op ev_c ev_c (rv_times (.inl rfl))) (fun H => ev_c) fun H a o h => bad1 h (by show (aTimes 21).cps.size ≤ 1000; decide +kernel) (.str _ (by decide +kernel)) (by decide +kernel)) eps_nil)))))))))
theorem m_none {i : Nat} {a : Addr} (h : σ[i]? = some (some (.ref a))) : EvPs p NoTb (tCons (tC .non) (tCons (tC (.int 0)) (tCons (tC (.str "table")) (tCons (tFast tDNewK) (tCons (tTup tNil) (tCons (tC (.bl true)) (tCons (tLst (tCons (tVar i) tNil)) (tCons (tFast (tDisp [(tC (.str "a"), tC (.str "number"))])) tNil)))))))) σ 8 :=
  eps_cons sN (ep_c (fun H => ⟨_, .non⟩) fun a z => nomatch z) (eps_cons sN (ep_c (fun H => ⟨_, .int _⟩) fun a z => nomatch z) (eps_cons sN (ep_c (fun H => ⟨_, .str _⟩) fun a z => nomatch z) (eps_cons sN (ep_d0 fun H a o h => ⟨_, .dct h⟩)
  (eps_cons sN (ep_tup (fun H => ed_tup da_nil (by decide)) fun H v x => ⟨_, pv_tup x⟩) (eps_cons sN (ep_c (fun H => ⟨_, .bl _⟩) fun a z => nomatch z) (eps_cons sN (ep_lst (fun H hb Q q => ⟨_, h, q _ _ (Ex.refl _) (by show 1 ≤ 10; decide)⟩) fun H a xs h => ⟨_, .lst h⟩)
  (eps_cons sN (ep_d1 (k := .inr "a") (fun H => ev_c) (fun H => ev_c) fun H a o h => ⟨_, .dct h⟩) eps_nil)))))))
theorem m_row : EvPs p BadX (tCons (tC .non) (tCons (tC (.int 5)) (tCons (tC (.str "a")) (tCons (tLst tNil) (tCons (tFast (tDisp [(tC (.str "c"), tC (.int 1))])) (tCons (tFast (tDisp [(tC (.str "a"), tC (.str "1"))])) (tCons (tFast (tDisp [(tC (.str "a"), tC (.bl true))])) (tCons (tFast (tDisp [(tC (.str "a"), tTup (tCons (tC (.int 1)) (tCons (tC (.int 2)) tNil)))]))
    (tCons (tFast (tDisp [(tC (.str "b"), tC (.int 1))])) (tCons (tFast (tDisp [(tC (.str "b"), tOp rTimes (tC (.str "a")) (tC (.int 41)))])) (tCons (tFast (tDisp [(tC (.int 0), tC (.int 0))])) tNil))))))))))) σ 11 :=
  eps_cons sX (ep_c (fun H => .inl ⟨_, .non, fun z => nomatch z⟩) fun a z => nomatch z) (eps_cons sX (ep_c (fun H => .inl ⟨_, .int _, fun z => nomatch z⟩) fun a z => nomatch z) (eps_cons sX (ep_c (fun H => .inl ⟨_, .str _, fun z => nomatch z⟩) fun a z => nomatch z)
  (eps_cons sX (ep_lst (fun H hb Q q => q _ _ (Ex.refl _) (by show 0 ≤ 10; decide)) fun H a xs h => .inl ⟨_, .lst h, fun z => nomatch z⟩)
  (eps_cons sX (ep_d1 (k := .inr "c") (fun H => ev_c) (fun H => ev_c) fun H a o h => badN h (by decide +kernel))
  (eps_cons sX (ep_d1 (k := .inr "a") (fun H => ev_c) (fun H => ev_c) fun H a o h => badV h (w := "number") (by decide +kernel) (fun z => nomatch z) (.str _) (fun z => nomatch z) (.str _ (by decide)) (.inr ⟨"text", by decide +kernel, by decide +kernel⟩))
  (eps_cons sX (ep_d1 (k := .inr "a") (fun H => ev_c) (fun H => ev_c) fun H a o h => badV h (w := "number") (by decide +kernel) (fun z => nomatch z) (.bl _) (fun z => nomatch z) (.no (fun z => nomatch z) fun z => nomatch z) (.inl rfl))
  (eps_cons sX (ep_d1t (k := .inr "a") (fun H => ev_c) (fun H => ed_tup (da_cons (ed_int ev_c) (da_cons (ed_int ev_c) da_nil)) (by show 2 ≤ 100000; decide)) fun H a o u h x => badV h (w := "number") (by decide +kernel) (fun z => by
      obtain ⟨a, xs, e, _⟩ := x.tup
      rw [e] at z
      cases z) (pv_tup x) (fun z => nomatch z) (.no (fun z => nomatch z) fun z => nomatch z) (.inl rfl))
  (eps_cons sX (ep_d1 (k := .inr "b") (fun H => ev_c) (fun H => ev_c) fun H a o h => badV h (w := "text") (by decide +kernel) (fun z => nomatch z) (.int _) (fun z => nomatch z) (.int 1) (.inr ⟨"number", rfl, by decide +kernel⟩))
  (eps_cons sX (ep_d1 (k := .inr "b") (fun H => ev_c) (fun H => ev_op ev_c ev_c (rv_times (.inr rfl))) fun H a o h => badV h (w := "text") (by decide +kernel) (fun z => nomatch z) (.str _) (fun z => nomatch z) (.str _ (by decide +kernel)) (.inl (by decide +kernel)))
  (eps_cons sX (ep_d1 (k := .inl 0) (fun H => ev_c) (fun H => ev_c) fun H a o h => badN h (by decide +kernel)) eps_nil))))))))))
theorem m_odd : EvPs p (fun H v => CondB H v false) (tCons (tC .non) (tCons (tC (.int 0)) (tCons (tC (.str "missing")) (tCons (tTup tNil) (tCons (tTup (tCons (tC (.str "missing")) tNil)) (tCons (tLst (tCons (tC (.str "missing")) (tCons (tTup (tCons (tC (.str "column")) (tCons (tC (.str "a")) tNil))) tNil)))
    (tCons (tTup (tCons (tC (.str "missing")) (tCons (tTup (tCons (tC (.str "column")) (tCons (tC (.str "c")) tNil))) tNil))) (tCons (tTup (tCons (tC (.str "not")) tNil)) (tCons (tTup (tCons (tTup (tCons (tC (.str "and")) tNil)) tNil)) tNil))))))))) σ 9 :=
  eps_cons sC0 (ep_c (fun H => .inl ⟨_, .non, (fun z => nomatch z), rfl⟩) fun a z => nomatch z) (eps_cons sC0 (ep_c (fun H => .inl ⟨_, .int _, (fun z => nomatch z), rfl⟩) fun a z => nomatch z) (eps_cons sC0 (ep_c (fun H => .inl ⟨_, .str _, (fun z => nomatch z), rfl⟩) fun a z => nomatch z)
  (eps_cons sC0 (ep_tup (fun H => ed_tup da_nil (by decide)) fun H v x => .inr ⟨_, x, .emp⟩) (eps_cons sC0 (ep_tup (fun H => ed_tup (da_cons (ed_str ev_c) da_nil) (by show 1 ≤ 100000; decide)) fun H v x => .inr ⟨_, x, .miss1⟩)
  (eps_cons sC0 (ep_lst (fun H hb Q q => ⟨by show 2 ≤ sizeLine; decide, fun t ht => q _ _ (Ex.new ht) (by show 2 ≤ 10; decide)⟩) fun H a xs h => .inl ⟨_, .lst h, (fun z => nomatch z), rfl⟩)
  (eps_cons sC0 (ep_tup (fun H => ed_tup (da_cons (ed_str ev_c) (da_cons (ed_tup (da_cons (ed_str ev_c) (da_cons (ed_str ev_c) da_nil)) (by show 2 ≤ 100000; decide)) da_nil)) (by show 2 ≤ 100000; decide)) fun H v x => .inr ⟨_, x, .missc⟩)
  (eps_cons sC0 (ep_tup (fun H => ed_tup (da_cons (ed_str ev_c) da_nil) (by show 1 ≤ 100000; decide)) fun H v x => .inr ⟨_, x, .not1⟩)
  (eps_cons sC0 (ep_tup (fun H => ed_tup (da_cons (ed_tup (da_cons (ed_str ev_c) da_nil) (by show 1 ≤ 100000; decide)) da_nil) (by show 1 ≤ 100000; decide)) fun H v x => .inr ⟨_, x, .tupw⟩) eps_nil))))))))
theorem m_term : EvPs p (fun H v => TermK H v .non) (tCons (tC .non) (tCons (tC (.int 0)) (tCons (tC (.str "column")) (tCons (tTup tNil) (tCons (tTup (tCons (tC (.str "column")) tNil)) (tCons (tLst (tCons (tC (.str "column")) (tCons (tC (.str "a")) tNil)))
    (tCons (tTup (tCons (tC (.str "column")) (tCons (tC (.str "c")) tNil))) (tCons (tTup (tCons (tC (.str "value")) (tCons (tC .non) tNil))) (tCons (tTup (tCons (tC (.str "area")) (tCons (tTup (tCons (tC (.str "column")) (tCons (tC (.str "a")) tNil))) tNil))) tNil))))))))) σ 9 :=
  eps_cons sT0 (ep_c (fun H => .inl ⟨_, .non, (fun z => nomatch z), rfl⟩) fun a z => nomatch z) (eps_cons sT0 (ep_c (fun H => .inl ⟨_, .int _, (fun z => nomatch z), rfl⟩) fun a z => nomatch z) (eps_cons sT0 (ep_c (fun H => .inl ⟨_, .str _, (fun z => nomatch z), rfl⟩) fun a z => nomatch z)
  (eps_cons sT0 (ep_tup (fun H => ed_tup da_nil (by decide)) fun H v x => .inr ⟨_, x, .emp⟩) (eps_cons sT0 (ep_tup (fun H => ed_tup (da_cons (ed_str ev_c) da_nil) (by show 1 ≤ 100000; decide)) fun H v x => .inr ⟨_, x, .pl .one⟩)
  (eps_cons sT0 (ep_lst (fun H hb Q q => q _ _ (Ex.refl _) (by show 2 ≤ 10; decide)) fun H a xs h => .inl ⟨_, .lst h, (fun z => nomatch z), rfl⟩)
  (eps_cons sT0 (ep_tup (fun H => ed_tup (da_cons (ed_str ev_c) (da_cons (ed_str ev_c) da_nil)) (by show 2 ≤ 100000; decide)) fun H v x => .inr ⟨_, x, .pl .colc⟩)
  (eps_cons sT0 (ep_tup (fun H => ed_tup (da_cons (ed_str ev_c) (da_cons (ed_of ev_c (TDs.non .nil)) da_nil)) (by show 2 ≤ 100000; decide)) fun H v x => .inr ⟨_, x, .pl .valN⟩)
  (eps_cons sT0 (ep_tup (fun H => ed_tup (da_cons (ed_str ev_c) (da_cons (ed_tup (da_cons (ed_str ev_c) (da_cons (ed_str ev_c) da_nil)) (by show 2 ≤ 100000; decide)) da_nil)) (by show 2 ≤ 100000; decide)) fun H v x => .inr ⟨_, x, .area⟩) eps_nil))))))))
theorem shF {d : PyData} (h1 : d.showable = true) (h2 : d.leavesShort 13 = true) (h3 : d.bulk ≤ 2 ^ 20) (h4 : d.depth ≤ 20) : Sh d := ⟨h1, h2, h3, h4⟩
theorem m_far : EvPs p (fun H v => ∃ z, FarV K H v z) (tCons (tC .non) (tCons (tC (.int 0)) (tCons (tC (.int 3)) (tCons (tUn (rU fun i => .int (-i)) (tC (.int 1))) (tCons (tC (.bl true)) (tCons (tC (.str "1")) (tCons (tTup (tCons (tC (.int 1)) tNil)) (tCons (tLst (tCons (tC (.int 1)) tNil))
    (tCons (tOp (rI CPowW fun i j => .int (i ^ j.toNat)) (tC (.int 10)) (tC (.int 60))) tNil))))))))) σ 9 :=
  eps_cons sF (ep_c (fun H => ⟨_, .sc (fun H => .non) rfl (fun H => .dat .non (by decide) (shF (by decide +kernel) (by decide +kernel) (by decide +kernel) (by decide +kernel))) (by decide +kernel)⟩) fun a z => nomatch z)
  (eps_cons sF (ep_c (fun H => ⟨_, .sc (fun H => .int _) (by decide) (fun H => .int _ (by decide +kernel)) (by decide +kernel)⟩) fun a z => nomatch z)
  (eps_cons sF (ep_c (fun H => ⟨_, .sc (fun H => .int _) (by decide) (fun H => .int _ (by decide +kernel)) (by decide +kernel)⟩) fun a z => nomatch z)
  (eps_cons sF (ep_ev (v := .int (-1)) (fun H H1 e Q q => ⟨1, rfl, q H1 (Ex.refl _)⟩) (fun H => ⟨_, .sc (fun H => .int _) (by decide) (fun H => .int _ (by decide +kernel)) (by decide +kernel)⟩) fun a z => nomatch z)
  (eps_cons sF (ep_c (fun H => ⟨_, .sc (fun H => .bl _) rfl (fun H => .dat (.bl _) (by decide) (shF (by decide +kernel) (by decide +kernel) (by decide +kernel) (by decide +kernel))) (by decide +kernel)⟩) fun a z => nomatch z)
  (eps_cons sF (ep_c (fun H => ⟨_, .sc (fun H => .str _) rfl (fun H => .dat (.str _) (by decide) (shF (by decide +kernel) (by decide +kernel) (by decide +kernel) (by decide +kernel))) (by decide +kernel)⟩) fun a z => nomatch z)
  (eps_cons sF (ep_tup (fun H => ed_tup (da_cons (ed_int ev_c) da_nil) (by show 1 ≤ 100000; decide)) fun H v x => by
    obtain ⟨a, xs, rfl, ha, y⟩ := x.tup
    rw [TDs.ints_inv (ns := [1]) y] at ha
    exact ⟨_, .tup ha⟩)
  (eps_cons sF (ep_lst1 fun H a h => ⟨_, .lst h⟩)
  (eps_cons sF (ep_ev (v := .int (10 ^ (Int.toNat 60))) (fun H H1 e Q q => ⟨_, _, rfl, rfl, ⟨by decide, by decide +kernel⟩, q H1 (Ex.refl _)⟩) (fun H => ⟨_, .sc (fun H => .int _) (by decide +kernel) (fun H => .int _ (by decide +kernel)) (by decide +kernel)⟩) fun a z => nomatch z) eps_nil))))))))
end
end Q
set_option Elab.async false
set_option linter.all false
set_option maxRecDepth 100000
set_option maxHeartbeats 16000000
/-! the law's errors: their reading's term -/
namespace Q
open PySem L2 PySem.Spec PyProof.Rows PySem.Calls PySem.OwnX LamX LamY
open Evl
abbrev sErr : Stmt := top 158
abbrev nmErr : List Str := ["bag", "table", "found", "far", "kinds", "none", "odd", "row", "term", "true"]
theorem scErr : FnScope nmErr ["bag", "table"] (defScope sErr) := ⟨rfl, rfl, rfl, by decide +kernel, rfl, by decide +kernel, by decide +kernel⟩
theorem tabs_bgd {T : List (Addr × Str)} {H H' : Hp} {p : Addr} (hb : BagIn p H) (g : Bgd p H H') (t : Tabs T H) : Tabs T H' := fun y hy => by
  obtain ⟨ps, h1, h2, h3⟩ := t y hy
  obtain ⟨a, b, c, hp⟩ := hb
  have ne : ∀ {l : Addr} {o : HO}, H l = some o → (∀ zs, o ≠ .lst zs) → l ≠ p := fun {l o} e n z => by
    rw [z, hp] at e
    cases e
    exact n _ rfl
  refine ⟨ps, g.keep _ _ (ne h1 fun _ z => nomatch z) h1, h2, fun pos cv hc => ?_⟩
  obtain ⟨c', e1, e2⟩ := h3 pos cv hc
  exact ⟨c', e1, g.keep _ _ (ne e2 fun zs z => by unfold CodeO at z; cases z) e2⟩
section
variable {P : Program} {w : World} {K : PySem.W.Frag} {mg : Str → Option Value} {base : Heap} {C pE pL cE : Addr} {A : Fv}
theorem ok_err {f : Addr} {oc kV doc pm ct : Value} {od an : Option Addr} {osl : Array (Option Value)} (lk : K.lookup f = some ⟨oc, od, .func (PySem.W.fnOf "_law_errors" "_law_errors" (defArgs sErr) (defBody sErr) (defScope sErr) .none kV doc pm an (.ref cE) ct), osl⟩) (hcd : PySem.W.codeIn K (.ref cE) "_law_errors" = true)
    (F : MF P w K mg A) (TC : TbC K mg C) (ne : pE ≠ pL) (TBe : TabB base mg cE pE) (CO : Cl P w K mg base 2 "_law_one_of" spOne)
    (MQ : MqX P w K mg base 2 C (spInit C A.t)) (MP : MtX P w K mg base 5 C "put" (spPut C A.r A.m)) (MR : MtX P w K mg base 4 C "row" (spRow C A.n)) (MC : MtX P w K mg base 4 C "change" (spChange C A.n A.r)) (MW : MtR P w K mg base 6 C "without" (spWout C A.n))
    (CT : ClX P w K mg base 5 "is_term" (spIsT C A.t)) (CI : ClX P w K mg base 6 "is_condition" (spIsC C A.t)) (CV : ClX P w K mg base 6 "term_value" (spTVal C A.t A.c A.n)) (CU : ClX P w K mg base 8 "truth" (spTruth C A.t A.c A.n)) (CS : ClX P w K mg base 8 "truths" (spRef2 C A.t A.c)) (CM : ClX P w K mg base 8 "moved_inwards" (spRef2 C A.t A.c)) :
    FnG P w K mg base CX0 11 f (PySem.W.fnOf "_law_errors" "_law_errors" (defArgs sErr) (defBody sErr) (defScope sErr) .none kV doc pm an (.ref cE) ct) ["bag", "table"] (spErr C pE pL) := by
  have T := F.T
  refine fnG_of (N := nmErr) lk hcd scErr (fun vs H Q E h => ?_) (fun A' l s H vs Q E gd0 hr h => ?_)
  · obtain ⟨p, a, rfl, _⟩ := h
    rfl
  · obtain ⟨p, a, rfl, hb, tb, tabs, q⟩ := h
    have gd : (cxOf CX0 P w K mg base nmErr "_law_errors" (defScope sErr) f (.ref cE) A' l s H E).nox.A.guards = some [] := gd0
    have gu : (cxOf CX0 P w K mg base nmErr "_law_errors" (defScope sErr) f (.ref cE) A' l s H E).nox.A.units + 40 < cLine := by
      have := hr.units
      show (A'.deeper (envOfC (Str.ofString "_law_errors") (defScope sErr) s.heap.objs.size f (.ref cE))).units + 40 < cLine
      omega
    have LT : LamT (cxOf CX0 P w K mg base nmErr "_law_errors" (defScope sErr) f (.ref cE) A' l s H E).nox (lamT pE pL) cE pE := ⟨TBe, rfl, List.mem_cons_self, lam_uE ne⟩
    refine ⟨_, PSs.nox (pss_cons (ps_set (i := 4) scErr.nd rfl (Or.inr rfl) (pe_cl CO hr (by decide) (by rfl) (pa_cons (pv 0) (pa_cons (pe_lst (pa_cons (pe_non) (pa_cons (pe_fast pe_dnewK) (pa_cons (pe_str) (pa_cons (pe_fast (pe_disp (pps_cons pe_str pe_str pps_nil) (by rfl) (by rfl) (fun z => nomatch z) (Nat.le_of_ble_eq_true rfl))) (pa_cons (pe_fast (pe_disp (pps_cons pe_str pe_str pps_nil) (by rfl) (by rfl) (fun z => nomatch z) (Nat.le_of_ble_eq_true rfl))) (pa_cons (pe_fast (pe_disp (pps_cons pe_str pe_str pps_nil) (by rfl) (by rfl) (fun z => nomatch z) (Nat.le_of_ble_eq_true rfl))) (pa_cons (pe_fast (pe_disp (pps_cons pe_int pe_str pps_nil) (by rfl) (by rfl) (fun z => nomatch z) (Nat.le_of_ble_eq_true rfl))) (pa_cons (pe_fast (pe_disp (pps_cons pe_str pe_non pps_nil) (by rfl) (by rfl) (fun z => nomatch z) (Nat.le_of_ble_eq_true rfl))) (pa_cons (pe_lst (pa_cons (pe_tup (pa_cons (pe_str) (pa_cons (pe_str) pa_nil))) pa_nil)) (pa_cons (pe_fast (pe_disp (pps_cons (pe_op op_times pe_str pe_int) pe_str pps_nil) (by rfl) (by rfl) (fun z => nomatch z) (Nat.le_of_ble_eq_true rfl))) pa_nil))))))))))) pa_nil))))
      (pss_cons (ps_set (i := 5) scErr.nd rfl (Or.inr rfl) (pe_cl CO hr (by decide) (by rfl) (pa_cons (pv 0) (pa_cons (pe_lst (pa_cons (pe_non) (pa_cons (pe_int) (pa_cons (pe_str) (pa_cons (pe_fast pe_dnewK) (pa_cons (pe_tup pa_nil) (pa_cons (pe_bl) (pa_cons (pe_lst (pa_cons (pv 1) pa_nil)) (pa_cons (pe_fast (pe_disp (pps_cons pe_str pe_str pps_nil) (by rfl) (by rfl) (fun z => nomatch z) (Nat.le_of_ble_eq_true rfl))) pa_nil))))))))) pa_nil))))
      (pss_cons (ps_set (i := 3) scErr.nd rfl (Or.inr rfl) (pe_cl CO hr (by decide) (by rfl) (pa_cons (pv 0) (pa_cons (pe_lst (pa_cons (pe_non) (pa_cons (pe_int) (pa_cons (pe_int) (pa_cons (pe_un un_neg pe_int) (pa_cons (pe_bl) (pa_cons (pe_str) (pa_cons (pe_tup (pa_cons (pe_int) pa_nil)) (pa_cons (pe_lst (pa_cons (pe_int) pa_nil)) (pa_cons (pe_op op_powW pe_int pe_int) pa_nil)))))))))) pa_nil))))
      (pss_cons (ps_set (i := 7) scErr.nd rfl (Or.inr rfl) (pe_cl CO hr (by decide) (by rfl) (pa_cons (pv 0) (pa_cons (pe_lst (pa_cons (pe_non) (pa_cons (pe_int) (pa_cons (pe_str) (pa_cons (pe_lst pa_nil) (pa_cons (pe_fast (pe_disp (pps_cons pe_str pe_int pps_nil) (by rfl) (by rfl) (fun z => nomatch z) (Nat.le_of_ble_eq_true rfl))) (pa_cons (pe_fast (pe_disp (pps_cons pe_str pe_str pps_nil) (by rfl) (by rfl) (fun z => nomatch z) (Nat.le_of_ble_eq_true rfl))) (pa_cons (pe_fast (pe_disp (pps_cons pe_str pe_bl pps_nil) (by rfl) (by rfl) (fun z => nomatch z) (Nat.le_of_ble_eq_true rfl))) (pa_cons (pe_fast (pe_disp (pps_cons pe_str (pe_tup (pa_cons (pe_int) (pa_cons (pe_int) pa_nil))) pps_nil) (by rfl) (by rfl) (fun z => nomatch z) (Nat.le_of_ble_eq_true rfl))) (pa_cons (pe_fast (pe_disp (pps_cons pe_str pe_int pps_nil) (by rfl) (by rfl) (fun z => nomatch z) (Nat.le_of_ble_eq_true rfl))) (pa_cons (pe_fast (pe_disp (pps_cons pe_str (pe_op op_times pe_str pe_int) pps_nil) (by rfl) (by rfl) (fun z => nomatch z) (Nat.le_of_ble_eq_true rfl))) (pa_cons (pe_fast (pe_disp (pps_cons pe_int pe_int pps_nil) (by rfl) (by rfl) (fun z => nomatch z) (Nat.le_of_ble_eq_true rfl))) pa_nil)))))))))))) pa_nil))))
      (pss_cons (ps_set (i := 6) scErr.nd rfl (Or.inr rfl) (pe_cl CO hr (by decide) (by rfl) (pa_cons (pv 0) (pa_cons (pe_lst (pa_cons (pe_non) (pa_cons (pe_int) (pa_cons (pe_str) (pa_cons (pe_tup pa_nil) (pa_cons (pe_tup (pa_cons (pe_str) pa_nil)) (pa_cons (pe_lst (pa_cons (pe_str) (pa_cons (pe_tup (pa_cons (pe_str) (pa_cons (pe_str) pa_nil))) pa_nil))) (pa_cons (pe_tup (pa_cons (pe_str) (pa_cons (pe_tup (pa_cons (pe_str) (pa_cons (pe_str) pa_nil))) pa_nil))) (pa_cons (pe_tup (pa_cons (pe_str) pa_nil)) (pa_cons (pe_tup (pa_cons (pe_tup (pa_cons (pe_str) pa_nil)) pa_nil)) pa_nil)))))))))) pa_nil))))
      (pss_cons (ps_set (i := 8) scErr.nd rfl (Or.inr rfl) (pe_cl CO hr (by decide) (by rfl) (pa_cons (pv 0) (pa_cons (pe_lst (pa_cons (pe_non) (pa_cons (pe_int) (pa_cons (pe_str) (pa_cons (pe_tup pa_nil) (pa_cons (pe_tup (pa_cons (pe_str) pa_nil)) (pa_cons (pe_lst (pa_cons (pe_str) (pa_cons (pe_str) pa_nil))) (pa_cons (pe_tup (pa_cons (pe_str) (pa_cons (pe_str) pa_nil))) (pa_cons (pe_tup (pa_cons (pe_str) (pa_cons (pe_non) pa_nil))) (pa_cons (pe_tup (pa_cons (pe_str) (pa_cons (pe_tup (pa_cons (pe_str) (pa_cons (pe_str) pa_nil))) pa_nil))) pa_nil)))))))))) pa_nil))))
      (pss_cons (ps_set (i := 9) scErr.nd rfl (Or.inr rfl) (pe_tup (pa_cons (pe_str) (pa_cons (pe_tup (pa_cons (pe_str) (pa_cons (pe_str) pa_nil))) pa_nil))))
      (pss_cons (ps_set (i := 2) scErr.nd rfl (Or.inl rfl) (pe_lst (pa_cons (pe_lst (pa_cons (pe_met F gd (by rfl) LT hr (lamS_by (sc := defScope sErr) (by decide +kernel)) rfl (fun _ _ _ _ _ => rfl) (fun B outer s H E f c2 hr2 => by exact (pe_mqX MQ (goes_of (W := fun cls d _ H => E cls d H) (takes_of rfl rfl rfl rfl) fun _ _ _ _ h => h) hr2 (by decide) (by rfl) TC.g (pa_cons (pv 4) pa_nil)))) (pa_cons (pe_str) pa_nil))) (pa_cons (pe_lst (pa_cons (pe_metD F gd (by rfl) LT hr (lamP_by (sc := defScope sErr) (by decide +kernel)) (fun z => absurd (show ("one" : Str) ∈ nmErr from z) (by decide)) rfl rfl (fun _ _ _ _ _ _ _ => ⟨_, rfl, fun _ => rfl⟩) (fun B outer s H E f c2 hr2 => by exact (pe_mtX MP (goes_of (W := fun cls d _ H => E cls d H) (takes_of rfl rfl rfl rfl) fun _ _ _ _ h => h) hr2 (by decide) (pv 1) (pa_cons (pv 7) pa_nil)))) (pa_cons (pe_str) pa_nil))) pa_nil))))
      (pss_cons (ps_expr (pe_bm PySem.F.plainAttrs_list PySem.F.slot_list_append PySem.F.type_list_append mt_append (pv 2) (pa_cons (pe_lst (pa_cons (pe_met F gd (by rfl) LT hr (lamS_by (sc := defScope sErr) (by decide +kernel)) rfl (fun _ _ _ _ _ => rfl) (fun B outer s H E f c2 hr2 => by exact (pe_mtX MR (goes_of (W := fun cls d _ H => E cls d H) (takes_of rfl rfl rfl rfl) fun _ _ _ _ h => h) hr2 (by decide) (pv 1) (pa_cons (pv 3) pa_nil)))) (pa_cons (pe_op op_add_str pe_str (pe_callB (call_repA gd gu) (by rfl) T.repr (by decide +kernel) (pa_cons (pv 3) pa_nil))) pa_nil))) pa_nil)))
      (pss_cons (ps_expr (pe_bm PySem.F.plainAttrs_list PySem.F.slot_list_append PySem.F.type_list_append mt_append (pv 2) (pa_cons (pe_lst (pa_cons (pe_met F gd (by rfl) LT hr (lamS_by (sc := defScope sErr) (by decide +kernel)) rfl (fun _ _ _ _ _ => rfl) (fun B outer s H E f c2 hr2 => by exact (pe_mtX MC (goes_of (W := fun cls d _ H => E cls d H) (takes_of rfl rfl rfl rfl) fun _ _ _ _ h => h) hr2 (by decide) (pv 1) (pa_cons (pv 3) (pa_cons (pv 7) pa_nil))))) (pa_cons (pe_op op_add_str pe_str (pe_callB (call_repA gd gu) (by rfl) T.repr (by decide +kernel) (pa_cons (pv 3) pa_nil))) pa_nil))) pa_nil)))
      (pss_cons (ps_expr (pe_bm PySem.F.plainAttrs_list PySem.F.slot_list_append PySem.F.type_list_append mt_append (pv 2) (pa_cons (pe_lst (pa_cons (pe_met F gd (by rfl) LT hr (lamS_by (sc := defScope sErr) (by decide +kernel)) rfl (fun _ _ _ _ _ => rfl) (fun B outer s H E f c2 hr2 => by exact (pe_mtX MC (goes_of (W := fun cls d _ H => E cls d H) (takes_of rfl rfl rfl rfl) fun _ _ _ _ h => h) hr2 (by decide) (pv 1) (pa_cons (pe_int) (pa_cons (pv 7) pa_nil))))) (pa_cons (pe_str) pa_nil))) pa_nil)))
      (pss_cons (ps_expr (pe_bm PySem.F.plainAttrs_list PySem.F.slot_list_append PySem.F.type_list_append mt_append (pv 2) (pa_cons (pe_lst (pa_cons (pe_met F gd (by rfl) LT hr (lamS_by (sc := defScope sErr) (by decide +kernel)) rfl (fun _ _ _ _ _ => rfl) (fun B outer s H E f c2 hr2 => by exact (pe_mtR MW (goes_of (W := fun cls d _ H => E cls d H) (takes_of rfl rfl rfl rfl) fun _ _ _ _ h => h) hr2 (by decide) (pv 1) (pa_cons (pe_int) (pa_cons (pv 3) (pa_cons (pe_int) pa_nil)))))) (pa_cons (pe_op op_add_str pe_str (pe_callB (call_repA gd gu) (by rfl) T.repr (by decide +kernel) (pa_cons (pv 3) pa_nil))) pa_nil))) pa_nil)))
      (pss_cons (ps_expr (pe_bm PySem.F.plainAttrs_list PySem.F.slot_list_append PySem.F.type_list_append mt_append (pv 2) (pa_cons (pe_lst (pa_cons (pe_met F gd (by rfl) LT hr (lamS_by (sc := defScope sErr) (by decide +kernel)) rfl (fun _ _ _ _ _ => rfl) (fun B outer s H E f c2 hr2 => by exact (pe_clX CT (goes_of (W := fun cls d _ H => E cls d H) (takes_of rfl rfl rfl rfl) fun _ _ _ _ h => h) hr2 (by decide) (by rfl) (pa_cons (pv 5) (pa_cons (pv 6) pa_nil))))) (pa_cons (pe_str) pa_nil))) pa_nil)))
      (pss_cons (ps_expr (pe_bm PySem.F.plainAttrs_list PySem.F.slot_list_append PySem.F.type_list_append mt_append (pv 2) (pa_cons (pe_lst (pa_cons (pe_met F gd (by rfl) LT hr (lamS_by (sc := defScope sErr) (by decide +kernel)) rfl (fun _ _ _ _ _ => rfl) (fun B outer s H E f c2 hr2 => by exact (pe_clX CI (goes_of (W := fun cls d _ H => E cls d H) (takes_of rfl rfl rfl rfl) fun _ _ _ _ h => h) hr2 (by decide) (by rfl) (pa_cons (pv 5) (pa_cons (pv 6) pa_nil))))) (pa_cons (pe_str) pa_nil))) pa_nil)))
      (pss_cons (ps_expr (pe_bm PySem.F.plainAttrs_list PySem.F.slot_list_append PySem.F.type_list_append mt_append (pv 2) (pa_cons (pe_lst (pa_cons (pe_met F gd (by rfl) LT hr (lamS_by (sc := defScope sErr) (by decide +kernel)) rfl (fun _ _ _ _ _ => rfl) (fun B outer s H E f c2 hr2 => by exact (pe_clX CV (goes_of (W := fun cls d _ H => E cls d H) (takes_of rfl rfl rfl rfl) fun _ _ _ _ h => h) hr2 (by decide) (by rfl) (pa_cons (pv 5) (pa_cons (pv 8) (pa_cons (pv 3) pa_nil)))))) (pa_cons (pe_str) pa_nil))) pa_nil)))
      (pss_cons (ps_expr (pe_bm PySem.F.plainAttrs_list PySem.F.slot_list_append PySem.F.type_list_append mt_append (pv 2) (pa_cons (pe_lst (pa_cons (pe_met F gd (by rfl) LT hr (lamS_by (sc := defScope sErr) (by decide +kernel)) rfl (fun _ _ _ _ _ => rfl) (fun B outer s H E f c2 hr2 => by exact (pe_clX CV (goes_of (W := fun cls d _ H => E cls d H) (takes_of rfl rfl rfl rfl) fun _ _ _ _ h => h) hr2 (by decide) (by rfl) (pa_cons (pv 1) (pa_cons (pv 8) (pa_cons (pv 3) pa_nil)))))) (pa_cons (pe_str) pa_nil))) pa_nil)))
      (pss_cons (ps_expr (pe_bm PySem.F.plainAttrs_list PySem.F.slot_list_append PySem.F.type_list_append mt_append (pv 2) (pa_cons (pe_lst (pa_cons (pe_met F gd (by rfl) LT hr (lamS_by (sc := defScope sErr) (by decide +kernel)) rfl (fun _ _ _ _ _ => rfl) (fun B outer s H E f c2 hr2 => by exact (pe_clX CV (goes_of (W := fun cls d _ H => E cls d H) (takes_of rfl rfl rfl rfl) fun _ _ _ _ h => h) hr2 (by decide) (by rfl) (pa_cons (pv 1) (pa_cons (pe_tup (pa_cons (pe_str) (pa_cons (pe_str) pa_nil))) (pa_cons (pv 3) pa_nil)))))) (pa_cons (pe_op op_add_str pe_str (pe_callB (call_repA gd gu) (by rfl) T.repr (by decide +kernel) (pa_cons (pv 3) pa_nil))) pa_nil))) pa_nil)))
      (pss_cons (ps_expr (pe_bm PySem.F.plainAttrs_list PySem.F.slot_list_append PySem.F.type_list_append mt_append (pv 2) (pa_cons (pe_lst (pa_cons (pe_met F gd (by rfl) LT hr (lamS_by (sc := defScope sErr) (by decide +kernel)) rfl (fun _ _ _ _ _ => rfl) (fun B outer s H E f c2 hr2 => by exact (pe_clX CU (goes_of (W := fun cls d _ H => E cls d H) (takes_of rfl rfl rfl rfl) fun _ _ _ _ h => h) hr2 (by decide) (by rfl) (pa_cons (pv 5) (pa_cons (pv 6) (pa_cons (pv 3) pa_nil)))))) (pa_cons (pe_str) pa_nil))) pa_nil)))
      (pss_cons (ps_expr (pe_bm PySem.F.plainAttrs_list PySem.F.slot_list_append PySem.F.type_list_append mt_append (pv 2) (pa_cons (pe_lst (pa_cons (pe_met F gd (by rfl) LT hr (lamS_by (sc := defScope sErr) (by decide +kernel)) rfl (fun _ _ _ _ _ => rfl) (fun B outer s H E f c2 hr2 => by exact (pe_clX CU (goes_of (W := fun cls d _ H => E cls d H) (takes_of rfl rfl rfl rfl) fun _ _ _ _ h => h) hr2 (by decide) (by rfl) (pa_cons (pv 1) (pa_cons (pv 6) (pa_cons (pv 3) pa_nil)))))) (pa_cons (pe_str) pa_nil))) pa_nil)))
      (pss_cons (ps_expr (pe_bm PySem.F.plainAttrs_list PySem.F.slot_list_append PySem.F.type_list_append mt_append (pv 2) (pa_cons (pe_lst (pa_cons (pe_met F gd (by rfl) LT hr (lamS_by (sc := defScope sErr) (by decide +kernel)) rfl (fun _ _ _ _ _ => rfl) (fun B outer s H E f c2 hr2 => by exact (pe_clX CU (goes_of (W := fun cls d _ H => E cls d H) (takes_of rfl rfl rfl rfl) fun _ _ _ _ h => h) hr2 (by decide) (by rfl) (pa_cons (pv 1) (pa_cons (pv 9) (pa_cons (pv 3) pa_nil)))))) (pa_cons (pe_op op_add_str pe_str (pe_callB (call_repA gd gu) (by rfl) T.repr (by decide +kernel) (pa_cons (pv 3) pa_nil))) pa_nil))) pa_nil)))
      (pss_cons (ps_expr (pe_bm PySem.F.plainAttrs_list PySem.F.slot_list_append PySem.F.type_list_append mt_append (pv 2) (pa_cons (pe_lst (pa_cons (pe_met F gd (by rfl) LT hr (lamS_by (sc := defScope sErr) (by decide +kernel)) rfl (fun _ _ _ _ _ => rfl) (fun B outer s H E f c2 hr2 => by exact (pe_clX CS (goes_of (W := fun cls d _ H => E cls d H) (takes_of rfl rfl rfl rfl) fun _ _ _ _ h => h) hr2 (by decide) (by rfl) (pa_cons (pv 5) (pa_cons (pv 6) pa_nil))))) (pa_cons (pe_str) pa_nil))) pa_nil)))
      (pss_cons (ps_expr (pe_bm PySem.F.plainAttrs_list PySem.F.slot_list_append PySem.F.type_list_append mt_append (pv 2) (pa_cons (pe_lst (pa_cons (pe_met F gd (by rfl) LT hr (lamS_by (sc := defScope sErr) (by decide +kernel)) rfl (fun _ _ _ _ _ => rfl) (fun B outer s H E f c2 hr2 => by exact (pe_clX CS (goes_of (W := fun cls d _ H => E cls d H) (takes_of rfl rfl rfl rfl) fun _ _ _ _ h => h) hr2 (by decide) (by rfl) (pa_cons (pv 1) (pa_cons (pv 6) pa_nil))))) (pa_cons (pe_str) pa_nil))) pa_nil)))
      (pss_cons (ps_expr (pe_bm PySem.F.plainAttrs_list PySem.F.slot_list_append PySem.F.type_list_append mt_append (pv 2) (pa_cons (pe_lst (pa_cons (pe_met F gd (by rfl) LT hr (lamS_by (sc := defScope sErr) (by decide +kernel)) rfl (fun _ _ _ _ _ => rfl) (fun B outer s H E f c2 hr2 => by exact (pe_clX CM (goes_of (W := fun cls d _ H => E cls d H) (takes_of rfl rfl rfl rfl) fun _ _ _ _ h => h) hr2 (by decide) (by rfl) (pa_cons (pv 5) (pa_cons (pv 6) pa_nil))))) (pa_cons (pe_str) pa_nil))) pa_nil)))
      (pss_cons (ps_expr (pe_bm PySem.F.plainAttrs_list PySem.F.slot_list_append PySem.F.type_list_append mt_append (pv 2) (pa_cons (pe_lst (pa_cons (pe_met F gd (by rfl) LT hr (lamS_by (sc := defScope sErr) (by decide +kernel)) rfl (fun _ _ _ _ _ => rfl) (fun B outer s H E f c2 hr2 => by exact (pe_clX CM (goes_of (W := fun cls d _ H => E cls d H) (takes_of rfl rfl rfl rfl) fun _ _ _ _ h => h) hr2 (by decide) (by rfl) (pa_cons (pv 1) (pa_cons (pv 6) pa_nil))))) (pa_cons (pe_str) pa_nil))) pa_nil)))
      (pss_cons (ps_expr (pe_bm PySem.F.plainAttrs_list PySem.F.slot_list_append PySem.F.type_list_append mt_append (pv 2) (pa_cons (pe_lst (pa_cons (pe_met F gd (by rfl) LT hr (lamS_by (sc := defScope sErr) (by decide +kernel)) rfl (fun _ _ _ _ _ => rfl) (fun B outer s H E f c2 hr2 => by exact (pe_clX CI (goes_of (W := fun cls d _ H => E cls d H) (takes_of rfl rfl rfl rfl) fun _ _ _ _ h => h) hr2 (by decide) (by rfl) (pa_cons (pv 1) (pa_cons (pv 6) pa_nil))))) (pa_cons (pe_str) pa_nil))) pa_nil)))
      (pss_cons (ps_expr (pe_bm PySem.F.plainAttrs_list PySem.F.slot_list_append PySem.F.type_list_append mt_append (pv 2) (pa_cons (pe_lst (pa_cons (pe_met F gd (by rfl) LT hr (lamS_by (sc := defScope sErr) (by decide +kernel)) rfl (fun _ _ _ _ _ => rfl) (fun B outer s H E f c2 hr2 => by exact (pe_clX CT (goes_of (W := fun cls d _ H => E cls d H) (takes_of rfl rfl rfl rfl) fun _ _ _ _ h => h) hr2 (by decide) (by rfl) (pa_cons (pv 1) (pa_cons (pv 8) pa_nil))))) (pa_cons (pe_str) pa_nil))) pa_nil)))
      (pss_one (ps_ret (pv 2))))))))))))))))))))))))))))), ?_⟩
    refine q_asgQ (one_menu (i := 0) rfl sK m_kinds (by decide) (by decide) hb fun v4 H1 g1 k4 n4 => ?_)
    have hb1 : BagIn p H1 := g1.bag
    refine q_asgQ (one_menu (i := 0) rfl sN (m_none (i := 1) (a := a) rfl) (by decide) (by decide) hb1 fun v5 H2 g2 k5 n5 => ?_)
    have hb2 : BagIn p H2 := g2.bag
    refine q_asgQ (one_menu (i := 0) rfl (sF (K := K)) m_far (by decide) (by decide) hb2 fun v3 H3 g3 k3 n3 => ?_)
    have hb3 : BagIn p H3 := g3.bag
    refine q_asgQ (one_menu (i := 0) rfl sX m_row (by decide) (by decide) hb3 fun v7 H4 g4 k7 n7 => ?_)
    have hb4 : BagIn p H4 := g4.bag
    refine q_asgQ (one_menu (i := 0) rfl sC0 m_odd (by decide) (by decide) hb4 fun v6 H5 g5 k6 n6 => ?_)
    have hb5 : BagIn p H5 := g5.bag
    refine q_asgQ (one_menu (i := 0) rfl sT0 m_term (by decide) (by decide) hb5 fun v8 H6 g6 k8 n8 => ?_)
    have hb6 : BagIn p H6 := g6.bag
    refine q_asgD (d := okC) (ed_tup (da_cons (ed_str ev_c) (da_cons (ed_tup (da_cons (ed_str ev_c) (da_cons (ed_str ev_c) da_nil)) (by show 2 ≤ 100000; decide)) da_nil)) (by show 2 ≤ 100000; decide)) fun v9 H7 e7 x9 => ?_
    have g06 := ((((g1.trans g2).trans g3).trans g4).trans g5).trans g6
    have tabs7 := (tabs_bgd hb g06 tabs).ext e7
    have tbS := ((tb.kp (Kp.ofB hb g06)).mono e7).kp (Kv.cut (v := .non)).1
    have k4S := ((sK _ _ _ (Kv.ofB hb1 ((((g2.trans g3).trans g4).trans g5).trans g6) n4) k4).kv (Kv.ofE e7)).kv Kv.cut
    have k5S := ((sN _ _ _ (Kv.ofB hb2 (((g3.trans g4).trans g5).trans g6) n5) k5).kv (Kv.ofE e7)).kv Kv.cut
    obtain ⟨z, k3⟩ := k3
    have k3S := ((k3.kv (Kv.ofB hb3 ((g4.trans g5).trans g6) n3)).kv (Kv.ofE e7)).kv Kv.cut
    have k7S := ((sX _ _ _ (Kv.ofB hb4 (g5.trans g6) n7) k7).kv (Kv.ofE e7)).kv Kv.cut
    have k6S : CondB (cutT H7) v6 false := ((sC0 _ _ _ (Kv.ofB hb5 g6 n6) k6).kv (Kv.ofE e7)).kv Kv.cut
    have k8S : TermK (cutT H7) v8 .non := (TermK.kv (Kv.ofE e7) k8).kv Kv.cut
    have x9S := x9.kp (Kv.cut (v := .non)).1
    have is3 : isIn v3 [1, 2] = false := k3S.pv.2
    have pv3' : ∀ H1, ExtN (cutT H7) H1 → ∃ k, Pv H1 v3 k := fun H1 e => (k3S.kv (Kv.ofN e)).pv.1
    let kd3 : ∀ H1, ExtN (cutT H7) H1 → Kd := fun H1 e => Classical.choose (pv3' H1 e)
    have pv3 : ∀ H1 (e : ExtN (cutT H7) H1), Pv H1 v3 (kd3 H1 e) := fun H1 e => Classical.choose_spec (pv3' H1 e)
    have rz : ∀ H1, ExtN (cutT H7) H1 → ∀ Q1 : VK, (∀ H2, Ex H1 H2 → Q1 (.str ("number " ++ z)) H2) → Rz A.n "value" (metE K A Q1) H1 v3 := fun H1 e Q1 q1 d H2 hd e2 => .n hd ((k3S.kv (Kv.ofN e)).kv (Kv.ofE e2)).rep k3S.len (q1 H2 e2)
    have mkE : ∀ {H1 : Hp} {x dx : Addr}, H1 x = none → H1 dx = none → Ex H1 (upd (upd H1 dx (.own x)) x (.ins C dx [])) := fun {H1 x dx} hx hd l o h => by
      rw [upd_ne (fun z => by rw [z, hx] at h; cases h), upd_ne (fun z => by rw [z, hd] at h; cases h)]
      exact h
    have hT : ∀ {y : Str} {σ : L2.St} (H1 : Hp), ExtN (cutT H7) H1 → ∀ Q1 : VK, (∀ H2, Ex H1 H2 → Q1 (.str y) H2) → tC (.str y) σ H1 Q1 := fun {y σ} H1 _ Q1 q1 => q1 H1 (Ex.refl _)
    have l7 : (Str.ofString "number ").length = 7 := by decide
    have hN : ∀ {σ : L2.St}, σ[3]? = some (some v3) → ∀ (H1 : Hp), ExtN (cutT H7) H1 → ∀ Q1 : VK, (∀ H2, Ex H1 H2 → Q1 (.str ("number " ++ z)) H2) → tOp (fun x y H Q => ∃ i j, x = .str i ∧ y = .str j ∧ i.length + j.length ≤ sizeLine ∧ Q (.str (i ++ j)) H) (tC (.str "number ")) (tCB (rRepA K) (tCons (tVar 3) tNil)) σ H1 Q1 := fun {σ} hs H1 e Q1 q1 =>
      ⟨_, hs, v3, z, rfl, (k3S.kv (Kv.ofN e)).rep, _, _, rfl, rfl, by
        rw [l7]
        exact Nat.le_trans (Nat.add_le_add_left k3S.len 7) (by decide), q1 H1 (Ex.refl _)⟩
    dsimp only [L2.start, List.set]
    refine q_err2 (K := K) (A := A) (T := lamT pE pL) (x := "table") (y := "row") tabs7 (fun H1 e Q1 q1 => ⟨_, rfl, fun x dx hx hd ne => ⟨x, dx, v4, rfl, upd_same, .inl ⟨((k4S.kv (Kv.ofN e))).kv (Kv.ofE (mkE hx hd)), fun H2 e2 => .t (q1 H2 ((mkE hx hd).trans e2))⟩⟩⟩) hT (fun H1 e Q1 q1 => by
      obtain ⟨dx, KD, Rw, o1, o2, rows, h1, _⟩ := id (tbS.kp (Kv.ofN (v := .non) e).1)
      exact ⟨_, rfl, a, dx, _, rfl, h1, by rfl, _, rfl, a, v7, [1, 2], 3, rfl, (tbS.kp (Kv.ofN (v := .non) e).1), .inl ⟨(k7S.kv (Kv.ofN e)).bad, fun H2 e2 => .r (q1 H2 e2)⟩⟩) hT fun L H8 er => ?_
    refine q_err (K := K) (A := A) (x := ("number " ++ z)) er rfl (by decide) (fun H1 e Q1 q1 => by
      obtain ⟨dx, KD, Rw, o1, o2, rows, h1, _⟩ := id (tbS.kp (Kv.ofN (v := .non) e).1)
      exact ⟨_, rfl, a, dx, _, rfl, h1, by rfl, _, rfl, a, v3, kd3 H1 e, [1, 2], 3, rfl, (tbS.kp (Kv.ofN (v := .non) e).1), pv3 H1 e, is3, rz H1 e Q1 q1⟩) (hN rfl) fun H8 er => ?_
    refine q_err (K := K) (A := A) (x := ("number " ++ z)) er rfl (by decide) (fun H1 e Q1 q1 => by
      obtain ⟨dx, KD, Rw, o1, o2, rows, h1, _⟩ := id (tbS.kp (Kv.ofN (v := .non) e).1)
      exact ⟨_, rfl, a, dx, _, rfl, h1, by rfl, _, rfl, _, rfl, a, v3, kd3 H1 e, v7, [1, 2], 3, rfl, (tbS.kp (Kv.ofN (v := .non) e).1), pv3 H1 e, .inl ⟨is3, rz H1 e Q1 q1⟩⟩) (hN rfl) fun H8 er => ?_
    refine q_err (K := K) (A := A) (x := "row") er rfl (by decide) (fun H1 e Q1 q1 => by
      obtain ⟨dx, KD, Rw, o1, o2, rows, h1, _⟩ := id (tbS.kp (Kv.ofN (v := .non) e).1)
      exact ⟨_, rfl, a, dx, _, rfl, h1, by rfl, _, rfl, a, .int 2, .int, v7, [1, 2], 3, rfl, (tbS.kp (Kv.ofN (v := .non) e).1), .int 2, .inr ⟨by decide, (k7S.kv (Kv.ofN e)).bad, fun H2 e2 => .r (q1 H2 e2)⟩⟩) (hT) fun H8 er => ?_
    refine q_err (K := K) (A := A) (x := ("number " ++ z)) er rfl (by decide) (fun H1 e Q1 q1 => by
      obtain ⟨dx, KD, Rw, o1, o2, rows, h1, _⟩ := id (tbS.kp (Kv.ofN (v := .non) e).1)
      exact ⟨_, rfl, a, dx, _, rfl, h1, by rfl, _, rfl, a, [.int 1, v3, .int 2], [1, 2], 3, rfl, (tbS.kp (Kv.ofN (v := .non) e).1), .inl ⟨1, v3, kd3 H1 e, [.int 2], rfl, by decide, by decide, pv3 H1 e, is3, rz H1 e Q1 q1⟩⟩) (hN rfl) fun H8 er => ?_
    refine q_err (K := K) (A := A) (x := "table") er rfl (by decide) (fun H1 e Q1 q1 => ⟨_, rfl, _, rfl, v5, v6, rfl, .inl ⟨(k5S.kv (Kv.ofN e)), fun H2 e2 => .t (q1 H2 e2)⟩⟩) (hT) fun H8 er => ?_
    refine q_err (K := K) (A := A) (x := "table") er rfl (by decide) (fun H1 e Q1 q1 => ⟨_, rfl, _, rfl, v5, v6, rfl, .inl ⟨(k5S.kv (Kv.ofN e)), fun H2 e2 => .t (q1 H2 e2)⟩⟩) (hT) fun H8 er => ?_
    refine q_err (K := K) (A := A) (x := "table") er rfl (by decide) (fun H1 e Q1 q1 => ⟨_, rfl, _, rfl, _, rfl, v5, v8, v3, rfl, .inl ⟨(k5S.kv (Kv.ofN e)), fun H2 e2 => .t (q1 H2 e2)⟩⟩) (hT) fun H8 er => ?_
    refine q_err (K := K) (A := A) (x := "condition") er rfl (by decide) (fun H1 e Q1 q1 => ⟨_, rfl, _, rfl, _, rfl, .ref a, v8, v3, rfl, .inr ⟨a, [1, 2], 3, .non, rfl, (tbS.kp (Kv.ofN (v := .non) e).1), (k8S.kv (Kv.ofN e)), .inl ⟨rfl, fun H2 e2 => .c (q1 H2 e2)⟩⟩⟩) (hT) fun H8 er => ?_
    refine q_err (K := K) (A := A) (x := ("number " ++ z)) er rfl (by decide) (fun H1 e Q1 q1 => ⟨_, rfl, by show 2 ≤ sizeLine; decide, fun t ht => ⟨_, rfl, .ref a, .ref t, v3, rfl, .inr ⟨a, [1, 2], 3, .str "number", rfl, ((tbS.kp (Kv.ofN (v := .non) e).1)).mono (Ex.new ht), .inr ⟨colA, TD1.mk upd_same (TDs.str _ (TDs.str _ .nil)), .pl .cola⟩, .inr ⟨(fun z => nomatch z), kd3 H1 e, (pv3 H1 e).mono (Ex.new ht), is3, (rz H1 e Q1 q1).mono (Ex.new ht)⟩⟩⟩⟩) (hN rfl) fun H8 er => ?_
    refine q_err (K := K) (A := A) (x := "table") er rfl (by decide) (fun H1 e Q1 q1 => ⟨_, rfl, _, rfl, _, rfl, v5, v6, v3, rfl, .inl ⟨(k5S.kv (Kv.ofN e)), fun H2 e2 => .t (q1 H2 e2)⟩⟩) (hT) fun H8 er => ?_
    refine q_err (K := K) (A := A) (x := "condition") er rfl (by decide) (fun H1 e Q1 q1 => ⟨_, rfl, _, rfl, _, rfl, .ref a, v6, v3, rfl, .inr ⟨a, [1, 2], 3, rfl, (tbS.kp (Kv.ofN (v := .non) e).1), .inl ⟨(k6S.kv (Kv.ofN e)), fun H2 e2 => .c (q1 H2 e2)⟩⟩⟩) (hT) fun H8 er => ?_
    refine q_err (K := K) (A := A) (x := ("number " ++ z)) er rfl (by decide) (fun H1 e Q1 q1 => ⟨_, rfl, _, rfl, _, rfl, .ref a, v9, v3, rfl, .inr ⟨a, [1, 2], 3, rfl, (tbS.kp (Kv.ofN (v := .non) e).1), .inr ⟨.inr ⟨okC, x9S.kp (Kv.ofN (v := .non) e).1, .good⟩, kd3 H1 e, pv3 H1 e, is3, rz H1 e Q1 q1⟩⟩⟩) (hN rfl) fun H8 er => ?_
    refine q_err (K := K) (A := A) (x := "table") er rfl (by decide) (fun H1 e Q1 q1 => ⟨_, rfl, _, rfl, v5, v6, rfl, .inl ⟨(k5S.kv (Kv.ofN e)), fun H2 e2 => .t (q1 H2 e2)⟩⟩) (hT) fun H8 er => ?_
    refine q_err (K := K) (A := A) (x := "condition") er rfl (by decide) (fun H1 e Q1 q1 => ⟨_, rfl, _, rfl, .ref a, v6, rfl, .inr ⟨a, [1, 2], 3, rfl, (tbS.kp (Kv.ofN (v := .non) e).1), (k6S.kv (Kv.ofN e)), fun H2 e2 => .c (q1 H2 e2)⟩⟩) (hT) fun H8 er => ?_
    refine q_err (K := K) (A := A) (x := "table") er rfl (by decide) (fun H1 e Q1 q1 => ⟨_, rfl, _, rfl, v5, v6, rfl, .inl ⟨(k5S.kv (Kv.ofN e)), fun H2 e2 => .t (q1 H2 e2)⟩⟩) (hT) fun H8 er => ?_
    refine q_err (K := K) (A := A) (x := "condition") er rfl (by decide) (fun H1 e Q1 q1 => ⟨_, rfl, _, rfl, .ref a, v6, rfl, .inr ⟨a, [1, 2], 3, rfl, (tbS.kp (Kv.ofN (v := .non) e).1), (k6S.kv (Kv.ofN e)), fun H2 e2 => .c (q1 H2 e2)⟩⟩) (hT) fun H8 er => ?_
    refine q_err (K := K) (A := A) (x := "fine") er rfl (by decide) (fun H1 e Q1 q1 => ⟨_, rfl, _, rfl, .ref a, v6, rfl, .inr ⟨a, [1, 2], 3, false, rfl, (tbS.kp (Kv.ofN (v := .non) e).1), (k6S.kv (Kv.ofN e)), fun H2 e2 => q1 H2 e2⟩⟩) (hT) fun H8 er => ?_
    refine q_err (K := K) (A := A) (x := "fine") er rfl (by decide) (fun H1 e Q1 q1 => ⟨_, rfl, _, rfl, .ref a, v8, rfl, .inr ⟨a, [1, 2], 3, .non, rfl, (tbS.kp (Kv.ofN (v := .non) e).1), (k8S.kv (Kv.ofN e)), fun H2 e2 => q1 H2 e2⟩⟩) (hT) fun H8 er => ?_
    exact s_retQ ⟨_, rfl, q L H8 (fun l o nl h no => er.ext l o (cutT_of ((e7 l o (g06.keep l o nl h))) no) no) er.tabs er.fnd⟩
end
end Q
set_option Elab.async false
set_option linter.all false
set_option maxRecDepth 100000
set_option maxHeartbeats 8000000
/-! tables as the law makes them -/
namespace Q
open PySem L2 PySem.Spec PyProof.Rows PySem.Calls PySem.OwnX LamX LamY
open Evl
/-- a new dict that stands fast -/
def EvF (te : TE) (σ : L2.St) (H : Hp) (kvs : List (Key × V)) : Prop := ∀ H1, Ex H H1 → ∀ Q : VK, (∀ d o H2, Ex H1 H2 → H2 d = some (.frz o (.dK kvs)) → Q (.ref d) H2) → te σ H1 Q
section
variable {K : PySem.W.Frag} {A : Fv} {σ : L2.St} {H : Hp} {te ta tb : TE} {C : Addr} {a : Addr} {ns : List Int} {nx : Int} {kvs : List (Key × V)} {E : XK}
theorem EvF.mono {H' : Hp} (e : Ex H H') (h : EvF te σ H kvs) : EvF te σ H' kvs := fun H1 e1 Q q => h H1 (e.trans e1) Q q
theorem evf_0 : EvF (tFast tDNewK) σ H [] := fun H1 e Q q a ha => ⟨a, _, rfl, upd_same, True.intro, fun o => q a o _ (Ex.mut (Ex.new ha) ha) upd_same⟩
theorem evf_1 {k : Key} {u : V} : EvF (tFast (tDisp [(tC (kV k), tC u)])) σ H [(k, u)] := fun H1 e Q q a ha => ⟨upd_same, [(k, u)], rfl, by show 1 ≤ 15; decide, a, _, rfl, upd_same, True.intro, fun o => q a o _ (Ex.mut (Ex.mut (Ex.new ha) ha) ha) upd_same⟩
theorem evf_K : EvF (tFast (tDisp [(tC (.str "a"), tC (.str "number")), (tC (.str "b"), tC (.str "text"))])) σ H KS := fun H1 e Q q a ha => ⟨upd_same, KS, rfl, by decide, a, _, rfl, upd_same, True.intro, fun o => by
  have z : mergeK [] KS = KS := by decide +kernel
  rw [z]
  exact q a o _ (Ex.mut (Ex.mut (Ex.new ha) ha) ha) upd_same⟩
theorem go_mk {cT : Addr} (h : EvF te σ H KS) {Q : VK} (q : ∀ b H1, Ex H H1 → TbA C H1 b [] 1 → Q (.ref b) H1) : tMake C (spInit C cT) [] E0 (tCons te tNil) σ H Q := h H (Ex.refl _) _ fun d o H1 e1 hd x dx hx hdx ne => by
  refine ⟨x, dx, .ref d, rfl, upd_same, .inr ⟨d, o, rfl, ?_, fun KD Rw o1 o2 H2 mx hx2 hK hR => ⟨rfl, q x H2 (e1.trans (mx_ex0 hx hdx mx)) ⟨dx, KD, Rw, o1, o2, [], hx2, hK, hR, rfl⟩⟩⟩⟩
  rw [upd_ne (fun z => by rw [z, hx] at hd; cases hd), upd_ne (fun z => by rw [z, hdx] at hd; cases hd)]
  exact hd
/-- b.put(row), where there is room -/
theorem put_in {cW cM : Addr} (t : TbA C H a ns nx) (h : EvF te σ H kvs) (hk : kvs = [] ∨ kvs = [(.inr "a", .int 1)] ∨ kvs = [(.inr "b", .str "x")]) (hl : ns.length < 60) (hn : nx ∉ ns) {Q : VK} (q : ∀ b H1, Ex H H1 → TbA C H1 b (ns ++ [nx]) (nx + 1) → Q (.ref b) H1) :
    ∃ (a' dx : Addr) (fs : List (Str × V)), (V.ref a) = .ref a' ∧ H a' = some (.ins C dx fs) ∧ fs.lookup ("put" : Str) = none ∧ tCons te tNil σ H fun vs H2 => spPut C cW cM (.ref a :: (vs ++ [])) H2 Q E0 := by
  obtain ⟨dx, KD, Rw, o1, o2, rows, h1, _⟩ := id t
  exact ⟨a, dx, _, rfl, h1, by rfl, h H (Ex.refl _) _ fun d o H1 e1 hd => ⟨a, .ref d, ns, nx, rfl, t.mono e1, .inr ⟨⟨d, o, kvs, rfl, hd, hk⟩, .inr ⟨hl, hn, fun b H2 e2 tb => q b H2 (e1.trans e2) tb⟩⟩⟩⟩
theorem go_putV {cW cM : Addr} {i : Nat} (hi : σ[i]? = some (some (.ref a))) (t : TbA C H a ns nx) (h : EvF te σ H kvs) (hk : kvs = [] ∨ kvs = [(.inr "a", .int 1)] ∨ kvs = [(.inr "b", .str "x")]) (hl : ns.length < 60) (hn : nx ∉ ns) {Q : VK} (q : ∀ b H1, Ex H H1 → TbA C H1 b (ns ++ [nx]) (nx + 1) → Q (.ref b) H1) :
    tMeth C "put" (spPut C cW cM) [] E0 (tVar i) (tCons te tNil) σ H Q := ⟨_, hi, put_in t h hk hl hn q⟩
/-- len(b) -/
theorem go_len {n : Nat} (t : TbA C H a ns nx) (hn : ns.length = n) (hz : n < 1000) {Q : VK} (q : ∀ H1, Ex H H1 → Q (.int (n : Int)) H1) : rLenOwn C (spLen C) [.ref a] H Q := by
  obtain ⟨dx, KD, Rw, o1, o2, rows, h1, _⟩ := id t
  subst hn
  exact ⟨a, rfl, ⟨dx, _, h1⟩, a, ns, nx, rfl, t, fun H1 e1 => ⟨ns.length, rfl, by omega, q H1 e1⟩⟩
theorem sql_ext {H H' : Hp} {xs : List V} (e : ExtN H H') (h : SqL K H a xs) : SqL K H' a xs := by
  rcases h with (h | ⟨o, h⟩) | h
  · exact .inl (.inl (e _ _ h fun _ z => nomatch z))
  · exact .inl (.inr ⟨o, e _ _ h fun _ z => nomatch z⟩)
  · exact .inr h
/-- the numbers up to n -/
def upTo (n : Nat) : List Int := (List.range n).map fun (i : Nat) => (i : Int) + 1
theorem upTo_len (n : Nat) : (upTo n).length = n := by
  unfold upTo
  rw [List.length_map, List.length_range]
theorem upTo_not (n : Nat) : ((n : Int) + 1) ∉ upTo n := fun h => by
  obtain ⟨i, hi, e⟩ := List.mem_map.mp h
  have := List.mem_range.mp hi
  omega
theorem upTo_snoc (n : Nat) : upTo n ++ [(n : Int) + 1] = upTo (n + 1) := by
  unfold upTo
  rw [List.range_succ, List.map_append]
  rfl
/-- the nine names -/
def nineK : List (Key × V) := (List.range 9).map fun i => (.inr ⟨#[97 + i]⟩, .str "text")
def nineD (i : Nat) : PyData := .tuple [.str ⟨#[97 + i]⟩, .str "text"]
theorem nine_paired {H : Hp} : ∀ (is : List Nat) (xs : List V), TDs H xs (is.map nineD) → ∃ ps : List Addr, xs = ps.map V.ref ∧ Paired (fun p (kv : Key × V) => SqT K H p [kV kv.1, kv.2]) ps (is.map fun i => ((.inr ⟨#[97 + i]⟩ : Key), V.str "text"))
  | [], xs, h => ⟨[], h.inv0, .nil⟩
  | i :: is, xs, h => by
    obtain ⟨v, ys, rfl, hv, ht⟩ := h.inv
    obtain ⟨ps, rfl, hp⟩ := nine_paired is ys ht
    obtain ⟨a, zs, rfl, ha, t⟩ := TD1.tup hv
    obtain ⟨v1, ws, rfl, h1, t⟩ := t.inv
    obtain ⟨v2, us, rfl, h2, t⟩ := t.inv
    cases t.inv0
    cases h1.str
    cases h2.str
    exact ⟨a :: ps, rfl, .cons (SqT.of ha) hp⟩
theorem go_cb1 {r : List V → Hp → VK → Prop} {Q : VK} (h : te σ H fun v H1 => r [v] H1 Q) : tCB r (tCons te tNil) σ H Q := h
theorem evf_nine (hw : ∀ x, wipe ((wipe σ [2]).set 2 (some x)) [2] = wipe σ [2]) (h2 : ∀ x, ((wipe σ [2]).set 2 (some x))[2]? = some (some x)) : EvF (tFast (tCB (fun xs H Q => ∃ (a : Addr) (ps : List Addr) (kvs : List (Key × V)), xs = [.ref a] ∧ SqL K H a (ps.map V.ref) ∧ Paired (fun p kv => SqT K H p [kV kv.1, kv.2]) ps kvs ∧ ∀ p, H p = none → Q (.ref p) (upd H p (.dK (mergeK [] kvs))))
    (tCons (tLc (iRng1 (tCons (tC (.int 9)) tNil)) (gName 2) tYes (tTup (tCons (tOp rIxS (tC (.str "abcdefghi")) (tVar 2)) (tCons (tC (.str "text")) tNil))) [2]) tNil))) σ H nineK := fun H1 e Q q => by
  have z := eds_lcR (te := tTup (tCons (tOp rIxS (tC (.str "abcdefghi")) (tVar 2)) (tCons (tC (.str "text")) tNil))) (g := gName 2) (tt := tYes) (vs := [2]) (σ := σ) (H := H1) (ta := tCons (tC (.int 9)) tNil) (m := 9) (fun _ => true) nineD (ea_cons ev_c ea_nil) (by decide) (fun i hi => turn_nm hw (fun _ _ _ _ => et_yes) fun v H2 e2 x _ => by
    have x := x.int
    subst x
    have at_ : atI ("abcdefghi" : Str).cps.toList (i : Int) = some (97 + i) := by
      match i, hi with
      | 0, _ => decide +kernel
      | 1, _ => decide +kernel
      | 2, _ => decide +kernel
      | 3, _ => decide +kernel
      | 4, _ => decide +kernel
      | 5, _ => decide +kernel
      | 6, _ => decide +kernel
      | 7, _ => decide +kernel
      | 8, _ => decide +kernel
    exact ed_tup (da_cons (ed_str (ev_op ev_c (ev_var (h2 _)) (rv_ixS (by decide) at_))) (da_cons (ed_str ev_c) da_nil)) (by show 2 ≤ 100000; decide))
  rw [filt_all] at z
  refine go_fast (go_cb1 (z H1 (Ex.refl _) _ fun l xs H2 _ e2 hl t => ?_))
  obtain ⟨ps, rfl, hp⟩ := nine_paired (K := K) _ _ t
  refine ⟨l, ps, nineK, rfl, SqL.of hl, hp, fun d hd => ⟨d, _, rfl, upd_same, True.intro, fun o => ?_⟩⟩
  have m : mergeK [] nineK = nineK := by decide +kernel
  rw [m]
  exact q d o _ (Ex.mut (e2.trans (Ex.new hd)) (fresh_back e2 hd)) upd_same
end
end Q
set_option Elab.async false
set_option linter.all false
set_option maxRecDepth 100000
set_option maxHeartbeats 16000000
/-! the law -/
namespace Q
open PySem L2 PySem.Spec PyProof.Rows PySem.Calls PySem.OwnX LamX LamY
open Evl
abbrev sLaw : Stmt := top 159
abbrev sL : Stmt := sLaw
abbrev nmL : List Str := ["script", "table", "at", "turn_v", "told", "long", "names", "pair"]
theorem scL : FnScope nmL ["script"] (defScope sLaw) := ⟨rfl, rfl, rfl, by decide +kernel, rfl, by decide +kernel, by decide +kernel⟩
/-- a def that is called where nothing is being shown -/
structure ClG (P : Program) (w : World) (K : PySem.W.Frag) (mg : Str → Option Value) (base : Heap) (k : Nat) (x : Str) (sp : Sp) : Prop where
  ex : ∃ (f : Addr) (fd : FuncData) (ps : List Str), FnG P w K mg base CX0 k f fd ps sp ∧ mg x = some (.ref f) ∧ PySem.W.keepIn K (.ref f) = true ∧ Binds K fd ps []
section
variable {X : Cx} {k j : Nat} {x : Str} {sp : Sp} {p pos : Pos} {e : Expr} {es : List Expr} {t : TA}
theorem pe_clG (c : ClG X.prog X.w X.K X.mg X.base k x sp) (gd : X.A.guards = some []) (hr : Room j X.A) (hk : k ≤ j) (hg : Gl X x) (ha : PA X (e :: es) t)
    (hdb : (x == ("__debug__" : Str)) = false := by decide) (he : starEach (e :: es) X.env = (false, eval e X.env) :: starEach es X.env := by rfl) (hpl : (backTo pos (starEach es X.env)).any (·.1) = false := by rfl) :
    PE X (.Call (.Name x p) (e :: es) [] pos) (tCall sp [] E0 t) := by
  obtain ⟨f, fd, ps, F, hm, kp, b⟩ := c.ex
  exact pe_callG F gd (hr.mono hk) hg hm kp b pass0 ha hdb he hpl
end
section
variable {K : PySem.W.Frag} {σ : L2.St} {H : Hp} {te : TE} {C cT : Addr}
theorem s_asgQ {i : Nat} {D : Ends} (h : te σ H fun v H1 => D.nx (σ.set i (some v)) H1) : tAsg te (gName i) D σ H := h
theorem go_m1 {m : Str} {sp : Sp} {t : TA} {ta : TE} {Q : VK} (h : ta σ H fun x H1 => ∃ a dx fs, x = .ref a ∧ H1 a = some (.ins C dx fs) ∧ fs.lookup m = none ∧ t σ H1 fun vs H2 => sp (x :: (vs ++ [])) H2 Q E0) : tMeth C m sp [] E0 ta t σ H Q := h
theorem go_lst4 {t1 t2 t3 t4 : TE} {Q : VK} (h : t1 σ H fun v1 H1 => t2 σ H1 fun v2 H2 => t3 σ H2 fun v3 H3 => t4 σ H3 fun v4 H4 => 4 ≤ sizeLine ∧ ∀ p, H4 p = none → Q (.ref p) (upd H4 p (.lst [v1, v2, v3, v4]))) : tLst (tCons t1 (tCons t2 (tCons t3 (tCons t4 tNil)))) σ H Q := h
theorem go_lam {A : Fv} {T : List (Addr × Str)} {t : XK → TE} {x : Str} {Q : VK} (tabs : Tabs T H) (hm : ∀ H1, ExtN H H1 → ∀ Q1 : VK, (∀ H2, Ex H1 H2 → Q1 (.str x) H2) → t (metE K A Q1) σ H1 fun _ H2 => Q1 (.str "fine") H2) (k : ∀ H1, ExtN H H1 → Tabs T H1 → Q (.str x) H1) : tLam T (TMet K A) t σ H Q :=
  ⟨tabs, fun H1 e1 t1 => hm H1 e1 _ fun H2 e2 => k H2 (ext_ex e1 e2) (t1.ext e2)⟩
/-- a test that comes out so, whatever it does to the heap -/
theorem s_ifG {t : TT} {ta tb : TS} {b : Bool} {D : Ends} {PV : Hp → Prop} (h : ∀ R : Bool → Hp → Prop, (∀ H', PV H' → R b H') → t σ H R) (k : ∀ H', PV H' → (if b = true then ta D σ H' else tb D σ H')) : tIfS t ta tb D σ H := h _ k
end
def spLaw (K : PySem.W.Frag) (pE pL : Addr) : Sp := fun vs H Q _ => ∃ (a : Addr) (ns : List Int), vs = [.ref a] ∧ SqL K H a (ns.map V.int) ∧ ns.length ≤ 63 ∧ Tabs (lamT pE pL) H ∧ ∀ H', Q (.bl true) H'
section
variable {P : Program} {w : World} {K : PySem.W.Frag} {mg : Str → Option Value} {base : Heap} {C pE pL cL : Addr} {A : Fv}
theorem ok_law {f : Addr} {oc kV doc pm ct : Value} {od an : Option Addr} {osl : Array (Option Value)} (lk : K.lookup f = some ⟨oc, od, .func (PySem.W.fnOf "law" "law" (defArgs sLaw) (defBody sLaw) (defScope sLaw) .none kV doc pm an (.ref cL) ct), osl⟩) (hcd : PySem.W.codeIn K (.ref cL) "law" = true)
    (F : MF P w K mg A) (TC : TbC K mg C) (ne : pE ≠ pL) (TBl : TabB base mg cL pL) (CB : Cl P w K mg base 1 "_law_bag" (spBag K)) (CE : ClG P w K mg base 11 "_law_errors" (spErr C pE pL))
    (MQ : MqX P w K mg base 2 C (spInit C A.t)) (MP : MtX P w K mg base 5 C "put" (spPut C A.r A.m)) (MW : MtR P w K mg base 6 C "without" (spWout C A.n)) (ML : Mt P w K mg base 1 C "__len__" (spLen C)) :
    FnG P w K mg base CX0 12 f (PySem.W.fnOf "law" "law" (defArgs sLaw) (defBody sLaw) (defScope sLaw) .none kV doc pm an (.ref cL) ct) ["script"] (spLaw K pE pL) := by
  have T := F.T
  refine fnG_of (N := nmL) lk hcd scL (fun vs H Q E h => ?_) (fun A' l s H vs Q E gd0 hr h => ?_)
  · obtain ⟨a, ns, rfl, _⟩ := h
    rfl
  · obtain ⟨sa, ns, rfl, hS, hlen, tabs, q⟩ := h
    have gd : (cxOf CX0 P w K mg base nmL "law" (defScope sLaw) f (.ref cL) A' l s H E).nox.A.guards = some [] := gd0
    have hu4 : (cxOf CX0 P w K mg base nmL "law" (defScope sLaw) f (.ref cL) A' l s H E).nox.A.units + 64 < cLine := hr.units
    have LT : LamT (cxOf CX0 P w K mg base nmL "law" (defScope sLaw) f (.ref cL) A' l s H E).nox (lamT pE pL) cL pL := ⟨TBl, rfl, List.mem_cons_of_mem _ List.mem_cons_self, lam_uL ne⟩
    have u2 : upTo 2 = [1, 2] := by decide +kernel
    refine ⟨_, PSs.nox (pss_cons (ps_set (i := 1) scL.nd rfl (Or.inl rfl) (pe_mtX MP passL hr (by decide) (pe_mtX MP passL hr (by decide) (pe_mqX MQ passL hr (by decide) (by rfl) TC.g (pa_cons (pe_fast (pe_disp (pps_cons pe_str pe_str (pps_cons pe_str pe_str pps_nil)) (by rfl) (by rfl) (fun z => nomatch z) (Nat.le_of_ble_eq_true rfl))) pa_nil)) (pa_cons (pe_fast (pe_disp (pps_cons pe_str pe_int pps_nil) (by rfl) (by rfl) (fun z => nomatch z) (Nat.le_of_ble_eq_true rfl))) pa_nil)) (pa_cons (pe_fast (pe_disp (pps_cons pe_str pe_str pps_nil) (by rfl) (by rfl) (fun z => nomatch z) (Nat.le_of_ble_eq_true rfl))) pa_nil)))
      (pss_cons (ps_for PassesOwn.never rfl (pi_range1 rfl T.range (pa_cons (pe_callB (call_max2 rfl) (by rfl) T.max (by decide +kernel) (pa_cons (pe_int) (pa_cons (pe_callB (call_min2 rfl) (by rfl) T.min (by decide +kernel) (pa_cons (pe_int) (pa_cons (pe_callB call_len_seq (by rfl) T.len PySem.boot_len (pa_cons (pv 0) pa_nil)) pa_nil))) pa_nil))) pa_nil)) (pg_name (i := 2) scL.nd rfl (Or.inl rfl))
        (pss_one (ps_if (pt_cmpR (op_neD hu4) (pe_lc (own := [("pair", 7)]) (g := gName 7) (by rfl) scL.nd (pi_list (pe_clG CE gd hr (by decide) (by rfl) (pa_cons (pe_cl CB hr (by decide) (by rfl) (pa_cons (pv 0) (pa_cons (pv 2) pa_nil))) (pa_cons (pv 1) pa_nil))))
        (blkOk_by (own := [("pair", 7)]) (N := nmL) (sc := defScope sL) (by decide +kernel))
        (fun _ _ _ _ _ => by exact (pg_name (i := 7) scL.nd rfl (Or.inl rfl))) (tt := (tTest (tOp rNe (tOp (rIxL K) (tVar 7) (tC (.int 0))) (tOp (rIxL K) (tVar 7) (tC (.int 1)))))) (fun _ _ _ _ _ => by exact (pts_one (pt_cmpR op_ne (pe_ix ix_list (pv 7) pe_int (fun _ _ => rfl)) (pe_ix ix_list (pv 7) pe_int (fun _ _ => rfl)) (nomark _))))
        (te := (tVar 7)) (fun _ _ _ _ _ => by exact (pv 7))) (pe_lst pa_nil) (nomark _)) (pss_one (ps_ret pe_bl)) pss_nil)))
      (pss_cons (ps_set (i := 5) scL.nd rfl (Or.inr rfl) (pv 1))
      (pss_cons (ps_for PassesOwn.never rfl (pi_range1 (by rfl) T.range (pa_cons (pe_int) pa_nil)) (pg_name (i := 3) scL.nd rfl (Or.inl rfl))
        (pss_one (ps_set (i := 5) scL.nd rfl (Or.inr rfl) (pe_mtX MP passL hr (by decide) (pv 5) (pa_cons (pe_fast pe_dnewK) pa_nil)))))
      (pss_cons (ps_set (i := 6) scL.nd rfl (Or.inr rfl) (pe_fast (pe_callTy (call_dictP rfl) (by rfl) T.dict (by decide +kernel) (pa_cons (pe_lc (own := [("at", 2)]) (g := gName 2) (by rfl) scL.nd (pi_range1 (by rfl) T.range (pa_cons (pe_int) pa_nil)) (blkOk_by (own := [("at", 2)]) (N := nmL) (sc := defScope sLaw) (by decide +kernel)) (fun _ _ _ _ _ => by exact pg_name (i := 2) scL.nd rfl (Or.inl rfl)) (fun _ _ _ _ _ => pts_nil) (te := tTup (tCons (tOp rIxS (tC (.str "abcdefghi")) (tVar 2)) (tCons (tC (.str "text")) tNil))) (fun _ _ _ _ _ => by exact (pe_tup (pa_cons (pe_ix ix_str pe_str (pv 2) (fun _ _ => rfl)) (pa_cons (pe_str) pa_nil))))) pa_nil))))
      (pss_cons (ps_set (i := 4) scL.nd rfl (Or.inl rfl) (pe_lst (pa_cons (pe_callB (cr_lenOwn ML hr (by decide)) (by rfl) T.len (by decide +kernel) (pa_cons (pv 5) pa_nil)) (pa_cons (pe_met F gd (by rfl) LT hr (lamS_by (sc := defScope sLaw) (by decide +kernel)) rfl (fun _ _ _ _ _ => rfl) (fun B outer s H E f c2 hr2 => by exact (pe_mtX MP (goes_of (W := fun cls d _ H => E cls d H) (takes_of rfl rfl rfl rfl) fun _ _ _ _ h => h) hr2 (by decide) (pv 5) (pa_cons (pe_fast pe_dnewK) pa_nil)))) (pa_cons (pe_metD F gd (by rfl) LT hr (lamP_by (sc := defScope sLaw) (by decide +kernel)) (fun z => absurd (show ("one" : Str) ∈ nmL from z) (by decide)) rfl rfl (fun _ _ _ _ _ _ _ => ⟨_, rfl, fun _ => rfl⟩) (fun B outer s H E f c2 hr2 => by exact (pe_mtX MP (goes_of (W := fun cls d _ H => E cls d H) (takes_of rfl rfl rfl rfl) fun _ _ _ _ h => h) hr2 (by decide) (pv 5) (pa_cons (pe_fast (pe_disp (pps_cons pe_str pe_str pps_nil) (by rfl) (by rfl) (fun z => nomatch z) (Nat.le_of_ble_eq_true rfl))) pa_nil)))) (pa_cons (pe_metD F gd (by rfl) LT hr (lamP_by (sc := defScope sLaw) (by decide +kernel)) (fun z => absurd (show ("two" : Str) ∈ nmL from z) (by decide)) rfl rfl (fun _ _ _ _ _ _ _ => ⟨_, rfl, fun _ => rfl⟩) (fun B outer s H E f c2 hr2 => by exact (pe_mqX MQ (goes_of (W := fun cls d _ H => E cls d H) (takes_of rfl rfl rfl rfl) fun _ _ _ _ h => h) hr2 (by decide) (by rfl) TC.g (pa_cons (pv 6) pa_nil)))) pa_nil))))))
      (pss_one (ps_ret (pe_cmpR (op_eqD hu4) (pe_op op_cat (pv 4) (pe_lst (pa_cons (pe_callB (cr_lenOwn ML hr (by decide)) (by rfl) T.len (by decide +kernel) (pa_cons (pe_mtX MP passL hr (by decide) (pe_mtX MP passL hr (by decide) (pe_mtR MW passL hr (by decide) (pv 5) (pa_cons (pe_int) (pa_cons (pe_int) (pa_cons (pe_int) pa_nil)))) (pa_cons (pe_fast pe_dnewK) pa_nil)) (pa_cons (pe_fast pe_dnewK) pa_nil)) pa_nil)) (pa_cons (pe_met F gd (by rfl) LT hr (lamS_by (sc := defScope sLaw) (by decide +kernel)) rfl (fun _ _ _ _ _ => rfl) (fun B outer s H E f c2 hr2 => by exact (pe_mtR0 MW (goes_of (W := fun cls d _ H => E cls d H) (takes_of rfl rfl rfl rfl) fun _ _ _ _ h => h) hr2 (by decide) (pv 5)))) pa_nil)))) (pe_lst (pa_cons (pe_int) (pa_cons (pe_str) (pa_cons (pe_str) (pa_cons (pe_str) (pa_cons (pe_int) (pa_cons (pe_str) pa_nil))))))) (nomark _)))))))))), ?_⟩
    -- the table
    refine q_asgQ (go_m1 (go_m1 (go_mk evf_K fun a1 H1 e1 t1 => put_in t1 (evf_1 (k := .inr "a")) (.inr (.inl rfl)) (by decide) (by decide) fun a2 H2 e2 t2 => put_in t2 (evf_1 (k := .inr "b")) (.inr (.inr rfl)) (by decide) (by decide) fun a3 H3 e3 t3 => ?_)))
    have t3 : TbA C H3 a3 [1, 2] 3 := t3
    have e03 := (e1.trans e2).trans e3
    have tabs3 := tabs.ext e03
    have hS3 := sql_ext (ex_extN e03) hS
    dsimp only [L2.start, List.set]
    -- the errors
    refine q_forR1 (n := max 1 (min 4 (ns.length : Int))) (ea_cons (ev_max2' ev_c (ev_min2 ev_c (ev_is (ev_len (ev_var (i := 0) rfl) hS3) (by rw [List.length_map])))) ea_nil) ⟨by omega, by omega⟩ (fun i σ' H' => ExtN H3 H' ∧ Tabs (lamT pE pL) H' ∧ ∃ r2 r3 r4 r5 r6 r7 : Option V, σ' = [some (.ref sa), some (.ref a3), r2, r3, r4, r5, r6, r7])
      (fun H' e => ⟨ex_extN e, tabs3.ext e, none, none, none, none, none, none, rfl⟩) (fun i σ' H4 hi hP => ?_) (fun σ' H4 hP => ?_)
    · obtain ⟨x4, tabs4, r2, r3, r4, r5, r6, r7, rfl⟩ := hP
      have t4 := t3.kp (Kv.ofN (v := .non) x4).1
      have hS4 := sql_ext x4 hS3
      dsimp only [List.set]
      refine s_ifG (PV := fun H' => ExtN H4 H' ∧ Tabs (lamT pE pL) H') (b := false) (fun R hR => ?_) fun H' hP => ?_
      · refine ⟨_, rfl, _, rfl, sa, ns, i, rfl, hS4, by omega, fun p H5 np sm hbag => ⟨_, rfl, p, a3, rfl, hbag, t4.mono sm, tabs4.ext sm, fun L H6 keep tabs6 fnd => ?_⟩⟩
        obtain ⟨ls, hF, hl, ha⟩ := fnd
        refine ⟨L, rfl, ⟨_, SqL.of hF⟩, fun D hD => lc_it (walk_list (K := K) (a := L) (xs := ls.map V.ref)) (fun i H' => Ex H6 H' ∧ H' D = some (.lst [])) ⟨Ex.new hD, upd_same⟩ (fun i H' _ z => SqL.of (z.1 _ _ hF)) (fun i x H7 H8 hlt z y => ?_) fun H7 z => ?_⟩
        · obtain ⟨rfl, hx⟩ := y
          rw [List.getElem?_map] at hx
          obtain ⟨l, hm, rfl⟩ := Option.map_eq_some_iff.mp hx
          obtain ⟨_, x, hx⟩ := ha l (List.mem_of_getElem? hm)
          have hx8 := z.1 _ _ hx
          refine ⟨rfl, ?_⟩
          refine (et_is (et_test (ev_neS (x := x) (y := x) (ev_op (x := .ref l) (y := .int 0) (ev_var rfl) ev_c (rv_ixL (SqL.of hx8) rfl)) (ev_op (x := .ref l) (y := .int 1) (ev_var rfl) ev_c (rv_ixL (SqL.of hx8) rfl)))) (show (!decide (x = x)) = false by simp) : EvT _ _ _ false) H8 (Ex.refl _) _ fun H9 e9 => ?_
          rw [if_neg (by decide)]
          exact ⟨z.1.trans e9, e9 _ _ z.2⟩
        · refine ⟨by show 0 ≤ sizeLine; decide, fun r hr => ?_⟩
          have er := Ex.new (o := .lst []) hr
          refine ⟨.list [], .list [], .lst (SqL.of (er _ _ z.2)) .nil, .lst (SqL.of upd_same) .nil, by decide, by decide, false, by decide, hR _ ⟨fun l o h n => er _ _ (z.1 _ _ (keep l o (fun e => by rw [e, np] at h; cases h) (sm _ _ h) n)), (tabs6.ext z.1).ext er⟩⟩
      · rw [if_neg (by decide)]
        exact ⟨x4.trans hP.1, hP.2, _, _, _, _, _, _, rfl⟩
    · obtain ⟨x4, tabs4, r2, r3, r4, r5, r6, r7, rfl⟩ := hP
      have t4 := t3.kp (Kv.ofN (v := .non) x4).1
      refine q_asg (v := .ref a3) (ev_var rfl) fun H5 e5 => ?_
      dsimp only [List.set]
      -- the long table
      refine q_forR1 (n := 58) (ea_cons ev_c ea_nil) ⟨by decide, by decide⟩ (fun i σ' H' => Ex H4 H' ∧ i ≤ 58 ∧ ∃ (b : Addr) (r2 r3 : Option V), σ' = [some (.ref sa), some (.ref a3), r2, r3, r4, some (.ref b), r6, r7] ∧ TbA C H' b (upTo (2 + i)) ((2 + i : Nat) + 1))
        (fun H' e => ⟨e5.trans e, Nat.zero_le _, a3, r2, r3, rfl, by
          have z := t4.mono (e5.trans e)
          rw [← u2] at z
          exact z⟩) (fun i σ' H6 hi hP => ?_) (fun σ' H6 hP => ?_)
      · obtain ⟨e6, _, b, r2, r3, rfl, tb⟩ := hP
        dsimp only [List.set]
        refine s_asgQ (go_putV rfl tb evf_0 (.inl rfl) (by rw [upTo_len]; omega) (by exact upTo_not (2 + i)) fun c H7 e7 tc => ?_)
        refine ⟨e6.trans e7, by omega, c, r2, _, rfl, ?_⟩
        rw [upTo_snoc] at tc
        exact tc
      · obtain ⟨e6, _, b, r2, r3, rfl, tb⟩ := hP
        have tb : TbA C H6 b (upTo 60) 61 := tb
        have tabs6 := tabs4.ext e6
        refine q_asgQ (evf_nine (fun _ => rfl) (fun _ => rfl) H6 (Ex.refl _) _ fun dn on H7 e7 hn => ?_)
        dsimp only [List.set]
        have tb7 := tb.mono e7
        have tabs7 := tabs6.ext e7
        refine q_asgQ (go_lst4 (go_cb1 ⟨_, rfl, go_len (n := 60) tb7 (upTo_len 60) (by decide) fun H8 e8 => ?_⟩))
        have tb8 := tb7.mono e8
        have hn8 := e8 _ _ hn
        refine go_lam (K := K) (A := A) (x := "many 60") (tabs7.ext e8) (fun H1 e Q1 q1 => ?m1) fun H9 x9 tabs9 => ?_
        case m1 =>
          have t1 := tb8.kp (Kv.ofN (v := .non) e).1
          obtain ⟨dx, KD, Rw, o1, o2, rows, h1, _⟩ := id t1
          exact ⟨_, rfl, b, dx, _, rfl, h1, by rfl, evf_0 H1 (Ex.refl _) _ fun d o H2 e2 hd => ⟨b, .ref d, upTo 60, 61, rfl, t1.mono e2, .inr ⟨⟨d, o, [], rfl, hd, .inl rfl⟩, .inl ⟨by rw [upTo_len]; exact Nat.le_refl _, fun dd H3 hdd e3 => .m hdd (q1 H3 (e2.trans e3))⟩⟩⟩⟩
        have tb9 := tb8.kp (Kv.ofN (v := .non) x9).1
        have hn9 := x9 _ _ hn8 fun _ z => nomatch z
        refine go_lam (K := K) (A := A) (x := "row") tabs9 (fun H1 e Q1 q1 => ?m2) fun HA xA tabsA => ?_
        case m2 =>
          have t1 := tb9.kp (Kv.ofN (v := .non) e).1
          obtain ⟨dx, KD, Rw, o1, o2, rows, h1, _⟩ := id t1
          exact ⟨_, rfl, b, dx, _, rfl, h1, by rfl, evf_1 (k := .inr "a") H1 (Ex.refl _) _ fun d o H2 e2 hd => ⟨b, .ref d, upTo 60, 61, rfl, t1.mono e2, .inl ⟨(badV hd (w := "number") (by decide +kernel) (fun z => nomatch z) (.str _) (fun z => nomatch z) (.str "1" (by decide)) (.inr ⟨"text", by decide +kernel, by decide +kernel⟩)).bad, fun H3 e3 => .r (q1 H3 (e2.trans e3))⟩⟩⟩
        have hnA := xA _ _ hn9 fun _ z => nomatch z
        refine go_lam (K := K) (A := A) (x := "table") tabsA (fun H1 e Q1 q1 => ?m3) fun HB xB tabsB => ?_
        case m3 =>
          have hn1 := e _ _ hnA fun _ z => nomatch z
          exact ⟨_, rfl, fun x dx hx hd ne => ⟨x, dx, .ref dn, rfl, upd_same, .inl ⟨.inr ⟨dn, on, nineK, rfl, (by rw [upd_ne (fun z => by rw [z, hx] at hn1; cases hn1), upd_ne (fun z => by rw [z, hd] at hn1; cases hn1)]; exact hn1), .inl (.inr ⟨by decide, by decide⟩)⟩, fun H2 e2 => .t (q1 H2 (Ex.trans (fun l o h => by
            rw [upd_ne (fun z => by rw [z, hx] at h; cases h), upd_ne (fun z => by rw [z, hd] at h; cases h)]
            exact h) e2))⟩⟩⟩
        refine ⟨by decide, fun tl htl => ?_⟩
        have eT := Ex.new (o := .lst [.int ((60 : Nat) : Int), .str "many 60", .str "row", .str "table"]) htl
        have tbC := ((tb9.kp (Kv.ofN (v := .non) xA).1).kp (Kv.ofN (v := .non) xB).1).mono eT
        have tabsC := tabsB.ext eT
        have hT := (show upd HB tl (.lst [.int ((60 : Nat) : Int), .str "many 60", .str "row", .str "table"]) tl = _ from upd_same)
        generalize upd HB tl (.lst [.int ((60 : Nat) : Int), .str "many 60", .str "row", .str "table"]) = HC at tbC tabsC hT
        dsimp only [List.set]
        obtain ⟨dx, KD, Rw, o1, o2, rows, h1, _⟩ := id tbC
        have nd : (upTo 60).Nodup := by decide +kernel
        refine s_retQ ⟨_, rfl, go_lst2 (go_cb1 (go_m1 (go_m1 ⟨_, rfl, b, dx, _, rfl, h1, by rfl, b, _, upTo 60, 61, rfl, tbC, .inr ⟨[7, 7, 9], .inr rfl, rfl, by decide +kernel, nd, by rw [upTo_len]; decide, fun c1 HD eD tD =>
          put_in tD evf_0 (.inl rfl) (by decide +kernel) (by decide +kernel) fun c2 HE eE tE => put_in tE evf_0 (.inl rfl) (by decide +kernel) (by decide +kernel) fun c3 HF eF tF => go_len (n := 60) tF (by decide +kernel) (by decide) fun HG eG => ?_⟩⟩)))⟩
        have eCG := ((eD.trans eE).trans eF).trans eG
        refine go_lam (K := K) (A := A) (x := "fine") (tabsC.ext eCG) (fun H1 e Q1 q1 => ?m4) fun HI xI tabsI => ?_
        case m4 =>
          have t1 := (tbC.mono eCG).kp (Kv.ofN (v := .non) e).1
          obtain ⟨dx, KD, Rw, o1, o2, rows, h1, _⟩ := id t1
          exact ⟨_, rfl, b, dx, _, rfl, h1, by rfl, b, [], upTo 60, 61, rfl, t1, .inr ⟨[], .inl rfl, rfl, (fun i hi => nomatch hi), nd, by rw [upTo_len]; decide, fun c H2 e2 _ => q1 H2 e2⟩⟩
        refine ⟨by decide, fun r hr => ?_⟩
        have hT2 := xI _ _ (eCG _ _ hT) fun _ z => nomatch z
        have eR := Ex.new (o := .lst [.int ((60 : Nat) : Int), .str "fine"]) hr
        refine ⟨tl, r, _, _, rfl, rfl, eR _ _ hT2, upd_same, by decide, fun u hu => ?_⟩
        refine ⟨by decide, fun v hv => ?_⟩
        refine ⟨.list [.int 60, .str "many 60", .str "row", .str "table", .int 60, .str "fine"], .list [.int 60, .str "many 60", .str "row", .str "table", .int 60, .str "fine"], .lst (SqL.of (Ex.new hv _ _ upd_same)) ?_, .lst (SqL.of upd_same) ?_, by decide +kernel, by decide +kernel, ?_⟩
        · exact .cons (.int _) (.cons (.str _) (.cons (.str _) (.cons (.str _) (.cons (.int _) (.cons (.str _) .nil)))))
        · exact .cons (.int _) (.cons (.str _) (.cons (.str _) (.cons (.str _) (.cons (.int _) (.cons (.str _) .nil)))))
        · have e : PyData.eqv (.list [.int 60, .str "many 60", .str "row", .str "table", .int 60, .str "fine"]) (.list [.int 60, .str "many 60", .str "row", .str "table", .int 60, .str "fine"]) = true := by decide +kernel
          rw [e]
          exact q _
end
end Q
set_option Elab.async false
set_option linter.all false
set_option maxRecDepth 100000
set_option maxHeartbeats 2000000
/-! a law's end by a promise that asks that nothing is being shown, code tables held -/
namespace L2
open PySem PySem.Spec PyProof.Rows LamX
/-- the ground with the script (or nothing) at a and the tables ts -/
structure FewAt (K : PySem.W.Frag) (h : Heap) (H : Hp) (a : Addr) (ts : List Addr) : Prop where
  only : ∀ b, H b ≠ none → b = a ∨ b ∈ ts
  own : H a ≠ none → K.lookup a = none
  tab : ∀ b ∈ ts, h.get? b = some { cls := .none, data := .fields #[] } ∧ K.lookup b = none
  has : ∀ b ∈ ts, H b = some (.tbl #[])
section
variable {P : Program} {w : World} {K : PySem.W.Frag} {mg mb : Str → Option Value} {h : Heap} {H : Hp} {a : Addr} {ts : List Addr} {vs : List Value}
theorem FewAt.free (o : FewAt K h H a ts) (ha : h.get? a = some { cls := .type "list", data := .seq vs.toArray }) {b : Addr} {u : Obj} (e : h.get? b = some u) (n1 : u.cls ≠ .type "list") (n2 : u.cls ≠ .none) : H b = none := by
  by_cases z : H b = none
  · exact z
  · rcases o.only b z with q | q
    · rw [q, ha] at e
      cases e
      exact absurd rfl n1
    · rw [(o.tab b q).1] at e
      cases e
      exact absurd rfl n2
theorem FewAt.freeD (o : FewAt K h H a ts) (ha : h.get? a = some { cls := .type "list", data := .seq vs.toArray }) {b : Addr} {u : Obj} {es : Array DictEntry} {n : Nat} (e : h.get? b = some u) (d : u.data = .dict es n) : H b = none := by
  by_cases z : H b = none
  · exact z
  · rcases o.only b z with q | q
    · rw [q, ha] at e
      cases e
      cases d
    · rw [(o.tab b q).1] at e
      cases e
      cases d
theorem FewAt.ns (o : FewAt K h H a ts) (ha : h.get? a = some { cls := .type "list", data := .seq vs.toArray }) {b : Addr} {m : Str → Option Value} : h.Ns b m → (hidT h H).Ns b m := by
  rintro ⟨u, es, n, e, d, r⟩
  exact ⟨u, es, n, hidT_get e (o.freeD ha e d), d, r⟩
theorem FewAt.kin (o : FewAt K h H a ts) (kin : K.In h) : K.In (hidT h H) := by
  intro b u e
  refine hidT_get (kin b u e) ?_
  by_cases z : H b = none
  · exact z
  · rcases o.only b z with q | q
    · subst q
      rw [o.own z] at e
      cases e
    · rw [(o.tab b q).2] at e
      cases e
theorem FewAt.mod (o : FewAt K h H a ts) (kin : K.In h) (ha : h.get? a = some { cls := .type "list", data := .seq vs.toArray }) (ng : h.Ns mainGlobals mg) (nb : h.Ns builtinsNs mb) (bb : ∀ x : Str, x ≠ "__name__" → mb x = bootBuiltins x) (lim : h.NoLimit) : Mod K mg (hidT h H) := by
  obtain ⟨mc, l1, l2⟩ := lim
  exact ⟨o.kin kin, o.ns ha ng, ⟨mb, o.ns ha nb, bb⟩, ⟨mc, o.ns ha l1, l2⟩⟩
theorem FewAt.tabB (o : FewAt K h H a ts) (ha : h.get? a = some { cls := .type "list", data := .seq vs.toArray }) (ng : h.Ns mainGlobals mg)
    (bm : ∃ (m : Addr) (u : Obj), mg "__builtins__" = some (.ref m) ∧ m ≠ builtinsNs ∧ h.get? m = some u ∧ u.cls = .type "module" ∧ u.dict = some builtinsNs ∧ u.data = .plain) {c p : Addr} (hp : p ∈ ts) (C : PySem.W.CodeHd h c p) : TabB (hidT h H) mg c p := by
  have ep := (o.tab p hp).1
  obtain ⟨og, eg, ng2, eG, dG, _⟩ := ng
  obtain ⟨u, fs, x1, x2, x3, x4, x5, x6, x7, g, y1, y2, ys⟩ := C
  have fu : H c = none := by
    by_cases z : H c = none
    · exact z
    · rcases o.only c z with q | q
      · rw [q, ha] at g
        cases g
        cases y2
      · rw [(o.tab c q).1] at g
        cases g
        cases y1
  refine ⟨⟨u, fs, x1, x2, x3, x4, x5, x6, x7, hidT_get g fu, y1, y2, ys⟩, ?_, ?_⟩
  · obtain ⟨m, v, b1, b2, b3, b4, b5, b6⟩ := bm
    have cl : v.cls ≠ .type "list" ∧ v.cls ≠ .none := by
      rw [b4]
      decide
    refine ⟨m, v, b1, b2, ?_, ?_, hidT_get b3 (o.free ha b3 cl.1 cl.2), b4, b5, b6⟩
    · rintro rfl
      rw [b3] at eG
      cases eG
      rw [dG] at b6
      cases b6
    · rintro rfl
      rw [b3] at ep
      cases ep
      cases b5
  · rintro rfl
    rw [ep] at eG
    cases eG
    cases dG
end
theorem law_atT {P : Program} {w : World} {K : PySem.W.Frag} {mg mb : Str → Option Value} {k : Nat} {fa a : Addr} {cs : List (Addr × Addr)} {fd : FuncData} {x : Str} {sp : Sp} {s : Shared} {vs : List Value} {H : Hp}
    (kin : K.In s.heap) (ng : s.heap.Ns mainGlobals mg) (nb : s.heap.Ns builtinsNs mb) (bb : ∀ x : Str, x ≠ "__name__" → mb x = bootBuiltins x) (lim : s.heap.NoLimit) (hgen : s.gens = #[])
    (bm : ∃ (m : Addr) (u : Obj), mg "__builtins__" = some (.ref m) ∧ m ≠ builtinsNs ∧ s.heap.get? m = some u ∧ u.cls = .type "module" ∧ u.dict = some builtinsNs ∧ u.data = .plain) (C : ∀ q ∈ cs, PySem.W.CodeHd s.heap q.1 q.2)
    (ha : s.heap.get? a = some { cls := .type "list", data := .seq vs.toArray }) (hr : Room k callerA) (F : ∀ base : Heap, K.In base → base.Ns mainGlobals mg → (∀ q ∈ cs, TabB base mg q.1 q.2) → FnG P w K mg base CX0 k fa fd [x] sp) (bd : ∀ (t : Shared) (u : Value), BindsTo t fd ⟨[u], []⟩ [(x, u)])
    (o : FewAt K s.heap H a (cs.map (·.2))) (hO : ∀ b, H b = none ∨ b ∈ cs.map (·.2) ∨ ∃ of xs, H b = some (.frz of (.lst xs))) (ok : HOk P w H s.heap) (hsp : sp [.ref a] H (fun v _ => v = .bl true) fun _ _ _ => False) :
    codeAny (model P w) callerA (.call (.ref fa) ⟨[.ref a], []⟩) (fun r t => r = .ok (.ret (.bool true)) ∧ OldK s.heap t.heap ∧ t.os = s.os ∧ AllBare t.gens) s := by
  have inT : ∀ q ∈ cs, q.2 ∈ cs.map (·.2) := fun q hq => List.mem_map_of_mem hq
  have e0 : Env0 P w K mg (hidT s.heap H) callerA [] s H :=
    ⟨rfl, o.mod kin ha ng nb bb lim, fun _ _ z => of_hidT z, Nat.le_of_eq (hidT_size _ _), trivial, fun b z => (nomatch (show b ∈ ([] : List Addr) from z)), ok, .of_eq hgen⟩
  refine codeAny_mono ((F _ (o.kin kin) (o.ns ha ng) fun q hq => o.tabB ha ng bm (inT q hq) (C q hq)).go callerA [] s H ⟨[.ref a], []⟩ [.ref a] [.ref a] _ _ rfl hr e0 (bd s (.ref a)) (.cons rfl .nil) hsp) ?_
  rintro (er | fl) t z
  · exact (show False from z).elim
  · cases fl with
    | next => exact z.elim
    | brk => exact z.elim
    | cont => exact z.elim
    | ret u =>
      obtain ⟨v, H', e1, e2, un, ok', r, q⟩ := z
      have q : v = .bl true := q
      rw [q] at r
      have r : u = Value.bool true := r
      have grown : ∀ b ∈ cs.map (·.2), ∃ more : Array Value, t.heap.get? b = some { cls := .none, data := .fields more } := fun b hb => by
        obtain ⟨more, z⟩ := un.tbls b #[] (o.has b hb)
        exact ⟨_, ok' b _ z⟩
      have same : ∀ b ob, b ∉ cs.map (·.2) → s.heap.get? b = some ob → t.heap.get? b = some ob := fun b ob nb e => by
        by_cases hn : H b = none
        · exact un.keep b ob e hn (fun z => (nomatch (show b ∈ ([] : List Addr) from z))) (by simp)
        · rcases hO b with n | n | ⟨of, xs, n⟩
          · exact absurd n hn
          · exact absurd n nb
          · have g1 := (ok b _ n).1
            have g2 := (ok' b _ (un.frzs b of _ n)).1
            rw [e] at g1
            cases g1
            exact g2
      rw [r]
      refine ⟨rfl, ⟨fun b ob e => ?_, fun b ob e => ?_⟩, e1, e2⟩
      · by_cases hb : b ∈ cs.map (·.2)
        · obtain ⟨more, hm⟩ := grown b hb
          obtain ⟨q, hq, rfl⟩ := List.mem_map.mp hb
          have tq := (o.tab q.2 hb).1
          rw [tq] at e
          cases e
          exact .inr (.inl ⟨((C q hq).tab tq).isCodeTable, rfl, #[], more, rfl, by rw [Array.empty_append]; exact hm⟩)
        · exact .inl (same b ob hb e)
      · by_cases hb : b ∈ cs.map (·.2)
        · obtain ⟨more, hm⟩ := grown b hb
          exact ⟨_, hm⟩
        · exact ⟨_, same b ob hb e⟩
/-- what the law's end asks, at its world: the tables, the binding, the promise -/
structure EndT (l : PySem.W.OpenLaw) (w : World) (K : PySem.W.Frag) (mg : Str → Option Value) (k n : Nat) (x : Str) (fa : Addr) (h : Heap) (fd : FuncData) (cs : List (Addr × Addr)) (sp : Sp) : Prop where
  tabs : ∀ q ∈ cs, h.get? q.2 = some { cls := .none, data := .fields #[] } ∧ K.lookup q.2 = none ∧ PySem.W.CodeHd h q.1 q.2
  binds : ∀ (s : Shared) (u : Value), BindsTo s fd ⟨[u], []⟩ [(x, u)]
  ok : ∀ base : Heap, K.In base → base.Ns mainGlobals mg → (∀ q ∈ cs, TabB base mg q.1 q.2) → FnG l.prog w K mg base CX0 k fa fd [x] sp
  says : ∀ (H : Hp) (a : Addr) (ns : List Int), ns.length ≤ n → (∀ q ∈ cs, H q.2 = some (.tbl #[])) → SqL K H a (ns.map V.int) → sp [.ref a] H (fun v _ => v = .bl true) fun _ _ _ => False
/-- the law's end -/
theorem walk_GT {l : PySem.W.OpenLaw} {n k : Nat} {q : Program} {loose : List Str} {XP : (Str → Option Value) → Heap → Prop} {YP : World → Heap → Prop} {d : DefRec} {K : Params → PySem.W.Frag} {x : Str}
    (hn : l.most = some n) (hn2 : n ≤ sizeLine) (hdf : d.params.defaults = []) (hr : Room k callerA) (hY : ∀ (w : World) (h : Heap), YP w h → (K w.params).In h)
    (F : ∀ (w : World) (mg : Str → Option Value) (fa : Addr) (h : Heap), YP w h → (K w.params).In h → h.Ns mainGlobals mg → mg d.name = some (.ref fa) → ∃ fd cs sp, EndT l w (K w.params) mg k n x fa h fd cs sp) :
    PySem.W.WalkO q loose XP YP l.row.toRowW d [] (fun f vs => PySem.call f vs) := by
  refine Att.attach_callB hn hdf ?_
  intro w s0 s mg mb fa ob pm cd doc a vs ns G Y ho hd hcd hmg hobj hi hlen hbits hgen
  have kin := hY w _ Y
  obtain ⟨fd, cs, sp, ⟨hT, bd, hF, hsp⟩⟩ := F w mg fa _ Y kin G.T.g hmg
  have hz : ns.length ≤ sizeLine := Nat.le_trans hlen hn2
  have rv := vals_ints hi
  have tb : ∀ b ∈ cs.map (·.2), s.heap.get? b = some { cls := .none, data := .fields #[] } ∧ (K w.params).lookup b = none := fun b hb => by
    obtain ⟨q, hq, rfl⟩ := List.mem_map.mp hb
    exact ⟨(hT q hq).1, (hT q hq).2.1⟩
  have aT : a ∉ cs.map (·.2) := fun z => by
    have g := (tb a z).1
    rw [hobj] at g
    cases g
  have inT : ∀ q ∈ cs, q.2 ∈ cs.map (·.2) := fun q hq => List.mem_map_of_mem hq
  cases hk : (K w.params).lookup a with
  | some u =>
    have e := kin a u hk
    rw [hobj] at e
    cases e
    have on : ∀ b, b ∈ cs.map (·.2) → (fun b => if b ∈ cs.map (·.2) then some (.tbl #[]) else none : Hp) b = some (.tbl #[]) := fun b z => if_pos z
    have off : ∀ b, b ∉ cs.map (·.2) → (fun b => if b ∈ cs.map (·.2) then some (.tbl #[]) else none : Hp) b = none := fun b z => if_neg z
    generalize (fun b => if b ∈ cs.map (·.2) then some (.tbl #[]) else none : Hp) = H at on off
    refine law_atT (cs := cs) kin G.T.g G.T.b G.T.builtins G.T.nolimit hgen G.T.bmain (fun q hq => (hT q hq).2.2) hobj hr hF bd ⟨fun b z => .inr ?_, fun z => absurd (off a aT) z, tb, on⟩ (fun b => ?_) (fun b v z => ?_) (hsp H a ns hlen (fun q hq => on _ (inT q hq)) ?_)
    · by_cases hb : b ∈ cs.map (·.2)
      · exact hb
      · exact absurd (off b hb) z
    · by_cases hb : b ∈ cs.map (·.2)
      · exact .inr (.inl hb)
      · exact .inl (off b hb)
    · by_cases hb : b ∈ cs.map (·.2)
      · rw [on b hb] at z
        cases z
        exact (tb b hb).1
      · rw [off b hb] at z
        cases z
    · exact .inr ⟨_, vs.toArray, _, hk, rfl, rfl, rfl, by rw [List.size_toArray, hi.length]; exact hz, by simpa using rv⟩
  | none =>
    have at_ : (fun b => if b = a then some (.frz { cls := .type "list", data := .seq vs.toArray } (.lst (ns.map V.int))) else if b ∈ cs.map (·.2) then some (.tbl #[]) else none : Hp) a = some (.frz { cls := .type "list", data := .seq vs.toArray } (.lst (ns.map V.int))) := if_pos rfl
    have on : ∀ b, b ∈ cs.map (·.2) → (fun b => if b = a then some (.frz { cls := .type "list", data := .seq vs.toArray } (.lst (ns.map V.int))) else if b ∈ cs.map (·.2) then some (.tbl #[]) else none : Hp) b = some (.tbl #[]) := fun b z => by
      have ne : b ≠ a := fun q => aT (q ▸ z)
      show (if b = a then _ else _) = _
      rw [if_neg ne, if_pos z]
    have off : ∀ b, b ≠ a → b ∉ cs.map (·.2) → (fun b => if b = a then some (.frz { cls := .type "list", data := .seq vs.toArray } (.lst (ns.map V.int))) else if b ∈ cs.map (·.2) then some (.tbl #[]) else none : Hp) b = none := fun b n z => by
      show (if b = a then _ else _) = _
      rw [if_neg n, if_neg z]
    generalize (fun b => if b = a then some (.frz { cls := .type "list", data := .seq vs.toArray } (.lst (ns.map V.int))) else if b ∈ cs.map (·.2) then some (.tbl #[]) else none : Hp) = H at at_ on off
    refine law_atT (cs := cs) kin G.T.g G.T.b G.T.builtins G.T.nolimit hgen G.T.bmain (fun q hq => (hT q hq).2.2) hobj hr hF bd ⟨fun b z => ?_, fun _ => hk, tb, on⟩ (fun b => ?_) (fun b v z => ?_) (hsp H a ns hlen (fun q hq => on _ (inT q hq)) (.inl (.inr ⟨_, at_⟩)))
    · by_cases c : b = a
      · exact .inl c
      · by_cases hb : b ∈ cs.map (·.2)
        · exact .inr hb
        · exact absurd (off b c hb) z
    · by_cases c : b = a
      · rw [c]
        exact .inr (.inr ⟨_, _, at_⟩)
      · by_cases hb : b ∈ cs.map (·.2)
        · exact .inr (.inl hb)
        · exact .inl (off b c hb)
    · by_cases c : b = a
      · rw [c, at_] at z
        cases z
        rw [c]
        exact ⟨hobj, by rw [List.length_map]; exact hz, vs, _, rv, hobj⟩
      · by_cases hb : b ∈ cs.map (·.2)
        · rw [on b hb] at z
          cases z
          exact (tb b hb).1
        · rw [off b c hb] at z
          cases z
end L2
set_option Elab.async false
set_option linter.all false
set_option maxRecDepth 100000
set_option maxHeartbeats 8000000
/-! the head's facts put together -/
namespace Q
open PySem L2 PySem.Spec PyProof.Rows PySem.Calls PySem.OwnX LamX LamY
abbrev sTin : Stmt := top 150
abbrev sVof : Stmt := top 131
theorem cls_of {K : PySem.W.Frag} {C : Addr} (h : PySem.W.subIn K (.ref C) (.type "BaseException") = some true) : (PySem.W.clsIn K C).isSome = true := by
  have z : PySem.W.mroIn K C (.type "BaseException") = some true := h
  unfold PySem.W.mroIn at z
  cases q : PySem.W.clsIn K C with
  | none =>
    rw [q] at z
    cases z
  | some _ => rfl
theorem exm_of {K : PySem.W.Frag} {B C : Addr} {b : Bool} (hC : PySem.W.subIn K (.ref C) (.type "BaseException") = some true) (t : PySem.W.typeIn K (.ref C) = some (.type "type")) (m : PySem.W.subIn K (.ref B) (.ref C) = some b) : PySem.W.exmOne K (.ref B) (.ref C) = some b := by
  have hc := cls_of hC
  show (if (PySem.W.subIn K (.ref C) (.type "BaseException") == some true) = true then (if ((PySem.W.clsIn K C).isSome && PySem.W.typeIn K (.ref C) == some (.type "type")) = true then PySem.W.subIn K (.ref B) (.ref C) else none) else none) = _
  rw [hC, if_pos (by rfl), hc, t, if_pos (by simp), m]
def ixT : List Value := [.type "IndexError", .type "LookupError", .type "Exception", .type "BaseException", .type "object"]
def ovT : List Value := [.type "OverflowError", .type "ArithmeticError", .type "Exception", .type "BaseException", .type "object"]
section
open PySem.W PySem.HandSPX
variable {prog : Program} {w : World} {A : Around} {R : Result → Shared → Prop} {s : Shared} {K : PySem.W.Frag} {C fI : Addr} {bmB : List Value} {newId B : String}
theorem init_limit (SF : StoreFacts B bmB "object.__setattr__" "object") (T : OwnTxt K C fI bmB newId) {qual : Str} (noN : PySem.W.findIn K (.ref C) "limit" = some none)
    (fn : IsInit K fI qual (fun a => ∃ p1 p2, a = iArgs [argOf "self" p1, argOf "limit" p2]) (fun b => ∃ q1 q2 q3 q4, b = [putSt "limit" "limit" q1 q2 q3 q4]) (iScope ["self", "limit"]))
    {x t0 : Addr} {v : Value} (X : K.In s.heap) (hlim : s.heap.NoLimit) (hx : s.heap.get? x = some (excO C t0)) (hnx : K.lookup x = none) (hroom : A.depth < recursionLimit)
    (hq : ∀ h' tk dx, Kept s.heap h' x C dx t0 (fun y => if y = "limit" then some v else none) → R (.ok (.ret .none)) { s with heap := h', toks := tk }) :
    codeAny (model prog w) A (.call (.ref fI) ⟨[.ref x, v], []⟩) R s := by
  obtain ⟨oc, od, doc, pm, an, cdv, ct, osl, a, b, ho, hcd, ⟨p1, p2, rfl⟩, ⟨q1, q2, q3, q4, rfl⟩⟩ := fn
  refine Att.call_fn (binds := [("self", .ref x), ("limit", v)]) X hlim ho hcd hroom (BindsTo.of_eq (by first | rfl | with_unfolding_all rfl)) (by first | rfl | decide | with_unfolding_all rfl) (fun s₁ IC => ?_) rfl rfl rfl
  obtain ⟨h₁, tk₁, rfl⟩ := IC.toInCall.same
  have k : ∀ b o, s.heap.get? b = some o → h₁.get? b = some o := IC.toInCall.keep
  have hn := IC.toInCall.ns
  have X₁ : K.In h₁ := X.keeps k
  have hx₁ := k _ _ hx
  show wpAny _ _ (execs _ _) _ _ _
  refine wpAny_execs_cons (plainObj_wpAny_Assign_Attribute ?_)
  refine loadL (v := v) hn (by first | rfl | with_unfolding_all rfl | kernel_rfl) (loadL (v := .ref x) hn (by first | rfl | with_unfolding_all rfl | kernel_rfl) ?_)
  refine PySem.W.set_plain X₁ (ox := excO C t0) (od := none) ⟨hx₁, rfl, rfl, trivial⟩ T.sa ?_
  refine keep_first SF T X₁ hx₁ noN (fun h₃ tk₃ dx k₃ dn dne hx₃ hn₃ => ?_)
  show wpAny _ _ (execs _ _) _ _ _
  have z : s.heap.objs.size < h₁.objs.size := hn.lt
  exact wpAny_execs_nil (hq h₃ tk₃ dx ⟨fun b o hb e => k₃ b o hb (k b o e), hx₃, Nat.le_of_lt (Nat.lt_of_lt_of_le z dn), dne, hn₃⟩)
theorem keeps_value {P : Program} (SF : StoreFacts B bmB "object.__setattr__" "object") (T : OwnTxt K C fI bmB newId) {qual : Str} (noN : PySem.W.findIn K (.ref C) "value" = some none)
    (fn : IsInit K fI qual (fun a => ∃ p1 p2, a = iArgs [argOf "self" p1, argOf "value" p2]) (fun b => ∃ q1 q2 q3 q4, b = [putSt "value" "value" q1 q2 q3 q4]) (iScope ["self", "value"])) : Keeps P w K C fI 1 (fldA "value") := by
  intro vs us r ln
  match vs, us, r, ln with
  | [v], [u], .cons rv .nil, _ =>
    refine ⟨fun y => if y = "value" then some u else none, fun f => ?_, fun X hl hx hnx hd hq => init_value SF T noN fn X hl hx hnx hd hq⟩
    show RelO (List.lookup f [("value", v)]) (if f = "value" then some u else none)
    by_cases hf : f = "value"
    · subst hf
      rw [if_pos rfl]
      have e : List.lookup ("value" : Str) [(("value" : Str), v)] = some v := by simp [List.lookup]
      rw [e]
      exact rv
    · rw [if_neg hf]
      have q : (f == ("value" : Str)) = false := by simpa using hf
      have e : List.lookup f [(("value" : Str), v)] = none := by simp [List.lookup, q]
      rw [e]
      trivial
theorem keeps_limit {P : Program} (SF : StoreFacts B bmB "object.__setattr__" "object") (T : OwnTxt K C fI bmB newId) {qual : Str} (noN : PySem.W.findIn K (.ref C) "limit" = some none)
    (fn : IsInit K fI qual (fun a => ∃ p1 p2, a = iArgs [argOf "self" p1, argOf "limit" p2]) (fun b => ∃ q1 q2 q3 q4, b = [putSt "limit" "limit" q1 q2 q3 q4]) (iScope ["self", "limit"])) : Keeps P w K C fI 1 (fldA "limit") := by
  intro vs us r ln
  match vs, us, r, ln with
  | [v], [u], .cons rv .nil, _ =>
    refine ⟨fun y => if y = "limit" then some u else none, fun f => ?_, fun X hl hx hnx hd hq => init_limit SF T noN fn X hl hx hnx hd hq⟩
    show RelO (List.lookup f [("limit", v)]) (if f = "limit" then some u else none)
    by_cases hf : f = "limit"
    · subst hf
      rw [if_pos rfl]
      have e : List.lookup ("limit" : Str) [(("limit" : Str), v)] = some v := by simp [List.lookup]
      rw [e]
      exact rv
    · rw [if_neg hf]
      have q : (f == ("limit" : Str)) = false := by simpa using hf
      have e : List.lookup f [(("limit" : Str), v)] = none := by simp [List.lookup, q]
      rw [e]
      trivial
end
section
variable {K : PySem.W.Frag} {nm q : Str} {C N : Addr} {bs bm : List Value} {sn : List Str} {sub : List Value} {ab : Bool} {col : Option Bool} {dd : Option Addr} {k0 k1 k2 k3 k5 : Option Value} {newId : String}
theorem own_of {fI : Addr} {bmB : List Value} (e : K.lookup C = some (excClassObj nm q C N bs bm true sn sub ab col dd k0 k1 k2 k3 k5 newId)) (hx : PySem.W.excTail bmB bm = true) (be : PySem.W.subIn K (.ref C) (.type "BaseException") = some true)
    (sa : PySem.W.findIn K (.ref C) "__setattr__" = some (some (.builtin "object.__setattr__"))) (ga : PySem.W.findIn K (.ref C) "__getattribute__" = some (some (.builtin "BaseException.__getattribute__"))) (gg : PySem.W.findIn K (.ref C) "__getattr__" = some none)
    (iC : PySem.W.findIn K (.ref C) "__init__" = some (some (.ref fI))) (tC : PySem.W.typeIn K (.ref fI) = some (.type "function")) (kC : PySem.W.keepIn K (.ref C) = true) (tyC : PySem.W.typeIn K (.ref C) = some (.type "type")) (hd : PySem.W.hasDictIn K C = true) : OwnTxt K C fI bmB newId :=
  ⟨⟨nm, q, N, bs, bm, sn, sub, ab, col, dd, k0, k1, k2, k3, k5, e, hx⟩, sa, ga, gg, iC, tC, kC, be, tyC, hd⟩
end
theorem fn_none {P : Program} {w : World} {K : PySem.W.Frag} {mg : Str → Option Value} {base : Heap} {f : Addr} {fd : FuncData} {ps : List Str} {sp : Sp} (k : Nat) (no : ∀ vs H Q E, ¬ sp vs H Q E) : FnOk P w K mg base CX0 k f fd ps sp :=
  ⟨fun vs H Q E h => absurd h (no vs H Q E), fun A outer s H args us vs Q E _ _ _ _ h => absurd h (no vs H Q E)⟩
theorem all_mk {l : PySem.W.OpenLaw} {w : World} {K : PySem.W.Frag} {h : Heap} {mg : Str → Option Value} {fa : Addr} (XX : K.In h) (GG : h.Ns mainGlobals mg) (hfa : mg "law" = some (.ref fa))
    {C CS cT cW cC cN cM cE pE cL pL aK : Addr} {odE odL odK : Option Addr} {slE slL slK : Array (Option Value)} {vE vL : Array Value} {nK : Nat} {tk1 tk2 tk3 tk8 tk60 tk40 tkp tkd : Nat} {fIN NXN : Addr} {nmxN qnxN : Str} {bsN sbN : List Value} {snN : List Str} {abN : Bool} {coN : Option Bool} {ddN : Option Addr} {kaN kbN kcN kdN keN : Option Value} {ocIN dcIN pmIN cdIN ctIN : Value} {odIN anIN : Option Addr} {slIN : Array (Option Value)} {paN pbN qaN qbN qcN qdN : Pos} {fIM NXM : Addr} {nmxM qnxM : Str} {bsM sbM : List Value} {snM : List Str} {abM : Bool} {coM : Option Bool} {ddM : Option Addr} {kaM kbM kcM kdM keM : Option Value} {ocIM dcIM pmIM cdIM ctIM : Value} {odIM anIM : Option Addr} {slIM : Array (Option Value)} {paM pbM qaM qbM qcM qdM : Pos} {g13 : Addr} {oc13 kV13 dc13 pm13 cd13 ct13 : Value} {od13 an13 : Option Addr} {sl13 : Array (Option Value)} {g14 : Addr} {oc14 kV14 dc14 pm14 cd14 ct14 : Value} {od14 an14 : Option Addr} {sl14 : Array (Option Value)} {g15 : Addr} {oc15 kV15 dc15 pm15 cd15 ct15 : Value} {od15 an15 : Option Addr} {sl15 : Array (Option Value)} {g126 : Addr} {oc126 kV126 dc126 pm126 cd126 ct126 : Value} {od126 an126 : Option Addr} {sl126 : Array (Option Value)} {g127 : Addr} {oc127 kV127 dc127 pm127 cd127 ct127 : Value} {od127 an127 : Option Addr} {sl127 : Array (Option Value)} {g129 : Addr} {oc129 kV129 dc129 pm129 cd129 ct129 : Value} {od129 an129 : Option Addr} {sl129 : Array (Option Value)} {g130 : Addr} {oc130 kV130 dc130 pm130 cd130 ct130 : Value} {od130 an130 : Option Addr} {sl130 : Array (Option Value)} {g131 : Addr} {oc131 kV131 dc131 pm131 cd131 ct131 : Value} {od131 an131 : Option Addr} {sl131 : Array (Option Value)} {g134 : Addr} {oc134 kV134 dc134 pm134 cd134 ct134 : Value} {od134 an134 : Option Addr} {sl134 : Array (Option Value)} {g139 : Addr} {oc139 kV139 dc139 pm139 cd139 ct139 : Value} {od139 an139 : Option Addr} {sl139 : Array (Option Value)} {g140 : Addr} {oc140 kV140 dc140 pm140 cd140 ct140 : Value} {od140 an140 : Option Addr} {sl140 : Array (Option Value)} {g141 : Addr} {oc141 kV141 dc141 pm141 cd141 ct141 : Value} {od141 an141 : Option Addr} {sl141 : Array (Option Value)} {g142 : Addr} {oc142 kV142 dc142 pm142 cd142 ct142 : Value} {od142 an142 : Option Addr} {sl142 : Array (Option Value)} {g143 : Addr} {oc143 kV143 dc143 pm143 cd143 ct143 : Value} {od143 an143 : Option Addr} {sl143 : Array (Option Value)} {g144 : Addr} {oc144 kV144 dc144 pm144 cd144 ct144 : Value} {od144 an144 : Option Addr} {sl144 : Array (Option Value)} {g145 : Addr} {oc145 kV145 dc145 pm145 cd145 ct145 : Value} {od145 an145 : Option Addr} {sl145 : Array (Option Value)} {g146 : Addr} {oc146 kV146 dc146 pm146 cd146 ct146 : Value} {od146 an146 : Option Addr} {sl146 : Array (Option Value)} {g147 : Addr} {oc147 kV147 dc147 pm147 cd147 ct147 : Value} {od147 an147 : Option Addr} {sl147 : Array (Option Value)} {g148 : Addr} {oc148 kV148 dc148 pm148 cd148 ct148 : Value} {od148 an148 : Option Addr} {sl148 : Array (Option Value)} {g150 : Addr} {oc150 kV150 dc150 pm150 cd150 ct150 : Value} {od150 an150 : Option Addr} {sl150 : Array (Option Value)} {g154 : Addr} {oc154 kV154 dc154 pm154 cd154 ct154 : Value} {od154 an154 : Option Addr} {sl154 : Array (Option Value)} {g155 : Addr} {oc155 kV155 dc155 pm155 cd155 ct155 : Value} {od155 an155 : Option Addr} {sl155 : Array (Option Value)} {g156 : Addr} {oc156 kV156 dc156 pm156 cd156 ct156 : Value} {od156 an156 : Option Addr} {sl156 : Array (Option Value)} {g157 : Addr} {oc157 kV157 dc157 pm157 cd157 ct157 : Value} {od157 an157 : Option Addr} {sl157 : Array (Option Value)} {g158 : Addr} {oc158 kV158 dc158 pm158 ct158 : Value} {od158 an158 : Option Addr} {sl158 : Array (Option Value)} {g159 : Addr} {oc159 kV159 dc159 pm159 ct159 : Value} {od159 an159 : Option Addr} {sl159 : Array (Option Value)} {gMInit : Addr} {ocMInit kVMInit dcMInit pmMInit cdMInit ctMInit : Value} {odMInit anMInit : Option Addr} {slMInit : Array (Option Value)} {gMKinds : Addr} {ocMKinds kVMKinds dcMKinds pmMKinds cdMKinds ctMKinds : Value} {odMKinds anMKinds : Option Addr} {slMKinds : Array (Option Value)} {pMKinds : Addr} {rMKinds : List Value} {gMCont : Addr} {ocMCont kVMCont dcMCont pmMCont cdMCont ctMCont : Value} {odMCont anMCont : Option Addr} {slMCont : Array (Option Value)} {gMLen : Addr} {ocMLen kVMLen dcMLen pmMLen cdMLen ctMLen : Value} {odMLen anMLen : Option Addr} {slMLen : Array (Option Value)} {gMThere : Addr} {ocMThere kVMThere dcMThere pmMThere cdMThere ctMThere : Value} {odMThere anMThere : Option Addr} {slMThere : Array (Option Value)} {gMVals : Addr} {ocMVals kVMVals dcMVals pmMVals cdMVals ctMVals : Value} {odMVals anMVals : Option Addr} {slMVals : Array (Option Value)} {gMRow : Addr} {ocMRow kVMRow dcMRow pmMRow cdMRow ctMRow : Value} {odMRow anMRow : Option Addr} {slMRow : Array (Option Value)} {gMChange : Addr} {ocMChange kVMChange dcMChange pmMChange cdMChange ctMChange : Value} {odMChange anMChange : Option Addr} {slMChange : Array (Option Value)} {gMWith : Addr} {ocMWith kVMWith dcMWith pmMWith cdMWith ctMWith : Value} {odMWith anMWith : Option Addr} {slMWith : Array (Option Value)} {gMPut : Addr} {ocMPut kVMPut dcMPut pmMPut cdMPut ctMPut : Value} {odMPut anMPut : Option Addr} {slMPut : Array (Option Value)} {gMWout : Addr} {ocMWout kVMWout dcMWout pmMWout cdMWout ctMWout : Value} {odMWout anMWout : Option Addr} {slMWout : Array (Option Value)}
    (aC : PySem.W.nsIn K mainGlobals "Table" = some (some (.ref C)))
    (pg : PySem.W.plainGet K C Str.empty = true)
    (hd : PySem.W.hasDictIn K C = true)
    (po : PySem.W.plainOver K C = true)
    (sa : PySem.W.findIn K (.ref C) "__setattr__" = some (some (.builtin "object.__setattr__")))
    (nF : PySem.W.findIn K (.ref C) "_kinds" = some none)
    (nR : PySem.W.findIn K (.ref C) "_rows" = some none)
    (nN : PySem.W.findIn K (.ref C) "_next_number" = some none)
    (kC : PySem.W.keepIn K (.ref C) = true)
    (iha : PySem.W.findIn K (.ref C) "__class__" = some (some (.builtin "object.__class__")))
    (ihn : PySem.W.specialIn K (.builtin "object.__class__") "__get__" = some (some (.builtin "getset_descriptor.__get__")))
    (ihtk : PySem.W.takesIn K (.builtin "object.__class__") = some true)
    (ihm : PySem.W.mroIn K C (.type "object") = some true)
    (ime : PySem.W.kitOne K (.ref C) (.ref C) = some true)
    (mk : PySem.W.makesIn K C = true)
    (ktnon : PySem.W.kitOne K (.type "NoneType") (.ref C) = some false)
    (ktbl : PySem.W.kitOne K (.type "bool") (.ref C) = some false)
    (ktint : PySem.W.kitOne K (.type "int") (.ref C) = some false)
    (ktstr : PySem.W.kitOne K (.type "str") (.ref C) = some false)
    (ktlst : PySem.W.kitOne K (.type "list") (.ref C) = some false)
    (kttup : PySem.W.kitOne K (.type "tuple") (.ref C) = some false)
    (ktdct : PySem.W.kitOne K (.type "dict") (.ref C) = some false)
    (aS : PySem.W.nsIn K mainGlobals "Shape" = some (some (.ref CS)))
    (ksnon : PySem.W.kitOne K (.type "NoneType") (.ref CS) = some false)
    (ksbl : PySem.W.kitOne K (.type "bool") (.ref CS) = some false)
    (ksint : PySem.W.kitOne K (.type "int") (.ref CS) = some false)
    (ksstr : PySem.W.kitOne K (.type "str") (.ref CS) = some false)
    (kslst : PySem.W.kitOne K (.type "list") (.ref CS) = some false)
    (kstup : PySem.W.kitOne K (.type "tuple") (.ref CS) = some false)
    (ksdct : PySem.W.kitOne K (.type "dict") (.ref CS) = some false)
    (gK : PySem.W.nsIn K mainGlobals "KINDS" = some (some (.ref aK)))
    (lK : K.lookup aK = some ⟨.type "tuple", odK, .seq (#[.str "number" tk1, .str "shape" tk2, .str "text" tk3] : Array Value) nK, slK⟩)
    (g_MAX_COLUMNS : PySem.W.nsIn K mainGlobals "MAX_COLUMNS" = some (some (.int 8 tk8)))
    (g_MAX_ROWS : PySem.W.nsIn K mainGlobals "MAX_ROWS" = some (some (.int 60 tk60)))
    (g_MAX_TEXT : PySem.W.nsIn K mainGlobals "MAX_TEXT" = some (some (.int 40 tk40)))
    (g_MAX_PARTS : PySem.W.nsIn K mainGlobals "MAX_PARTS" = some (some (.int 60 tkp)))
    (g_MAX_DEPTH : PySem.W.nsIn K mainGlobals "MAX_DEPTH" = some (some (.int 8 tkd)))
    (AT : PySem.W.nsIn K mainGlobals "InvalidTable" = some (some (.ref cT)))
    (TT : PySem.W.typeIn K (.ref cT) = some (.type "type"))
    (KT : PySem.W.keepIn K (.ref cT) = true)
    (ST : PySem.W.subIn K (.ref cT) (.type "BaseException") = some true)
    (AW : PySem.W.nsIn K mainGlobals "InvalidRow" = some (some (.ref cW)))
    (TW : PySem.W.typeIn K (.ref cW) = some (.type "type"))
    (KW : PySem.W.keepIn K (.ref cW) = true)
    (SW : PySem.W.subIn K (.ref cW) (.type "BaseException") = some true)
    (AC : PySem.W.nsIn K mainGlobals "InvalidCondition" = some (some (.ref cC)))
    (TC : PySem.W.typeIn K (.ref cC) = some (.type "type"))
    (KC : PySem.W.keepIn K (.ref cC) = true)
    (SC : PySem.W.subIn K (.ref cC) (.type "BaseException") = some true)
    (AN : PySem.W.nsIn K mainGlobals "InvalidNumber" = some (some (.ref cN)))
    (TNn : PySem.W.typeIn K (.ref cN) = some (.type "type"))
    (KN : PySem.W.keepIn K (.ref cN) = true)
    (SN : PySem.W.subIn K (.ref cN) (.type "BaseException") = some true)
    (AM : PySem.W.nsIn K mainGlobals "TooMany" = some (some (.ref cM)))
    (TM : PySem.W.typeIn K (.ref cM) = some (.type "type"))
    (KM : PySem.W.keepIn K (.ref cM) = true)
    (SM : PySem.W.subIn K (.ref cM) (.type "BaseException") = some true)
    (PT : PySem.W.excIn K cT [.type "ValueError", .type "Exception", .type "BaseException", .type "object"] "ValueError.__new__" = true)
    (PW : PySem.W.excIn K cW [.type "ValueError", .type "Exception", .type "BaseException", .type "object"] "ValueError.__new__" = true)
    (PC : PySem.W.excIn K cC [.type "ValueError", .type "Exception", .type "BaseException", .type "object"] "ValueError.__new__" = true)
    (xTT : PySem.W.subIn K (.ref cT) (.ref cT) = some true)
    (xWT : PySem.W.subIn K (.ref cW) (.ref cT) = some false)
    (xWW : PySem.W.subIn K (.ref cW) (.ref cW) = some true)
    (xCT : PySem.W.subIn K (.ref cC) (.ref cT) = some false)
    (xCW : PySem.W.subIn K (.ref cC) (.ref cW) = some false)
    (xCC : PySem.W.subIn K (.ref cC) (.ref cC) = some true)
    (xNT : PySem.W.subIn K (.ref cN) (.ref cT) = some false)
    (xNW : PySem.W.subIn K (.ref cN) (.ref cW) = some false)
    (xNC : PySem.W.subIn K (.ref cN) (.ref cC) = some false)
    (xNN : PySem.W.subIn K (.ref cN) (.ref cN) = some true)
    (xMT : PySem.W.subIn K (.ref cM) (.ref cT) = some false)
    (xMW : PySem.W.subIn K (.ref cM) (.ref cW) = some false)
    (xMC : PySem.W.subIn K (.ref cM) (.ref cC) = some false)
    (xMN : PySem.W.subIn K (.ref cM) (.ref cN) = some false)
    (xMM : PySem.W.subIn K (.ref cM) (.ref cM) = some true)
    (XN : K.lookup cN = some (excClassObj nmxN qnxN cN NXN bsN [.type "IndexError", .type "LookupError", .type "Exception", .type "BaseException", .type "object"] true snN sbN abN coN ddN kaN kbN kcN kdN keN "IndexError.__new__"))
    (GN : PySem.W.findIn K (.ref cN) "__getattribute__" = some (some (.builtin "BaseException.__getattribute__")))
    (HN : PySem.W.findIn K (.ref cN) "__getattr__" = some none)
    (EN : PySem.W.findIn K (.ref cN) "__setattr__" = some (some (.builtin "object.__setattr__")))
    (IN : PySem.W.findIn K (.ref cN) "__init__" = some (some (.ref fIN)))
    (FN : PySem.W.typeIn K (.ref fIN) = some (.type "function"))
    (LN : K.lookup fIN = some ⟨ocIN, odIN, .func (PySem.W.fnOf "__init__" "InvalidNumber.__init__" (iArgs [argOf "self" paN, argOf "value" pbN]) [putSt "value" "value" qaN qbN qcN qdN] (iScope ["self", "value"]) .none .none dcIN pmIN anIN cdIN ctIN), slIN⟩)
    (DN : PySem.W.codeIn K cdIN "InvalidNumber.__init__" = true)
    (YN : PySem.W.hasDictIn K cN = true)
    (NNx : PySem.W.findIn K (.ref cN) "value" = some none)
    (XM : K.lookup cM = some (excClassObj nmxM qnxM cM NXM bsM [.type "OverflowError", .type "ArithmeticError", .type "Exception", .type "BaseException", .type "object"] true snM sbM abM coM ddM kaM kbM kcM kdM keM "OverflowError.__new__"))
    (GM : PySem.W.findIn K (.ref cM) "__getattribute__" = some (some (.builtin "BaseException.__getattribute__")))
    (HM : PySem.W.findIn K (.ref cM) "__getattr__" = some none)
    (EM : PySem.W.findIn K (.ref cM) "__setattr__" = some (some (.builtin "object.__setattr__")))
    (IM : PySem.W.findIn K (.ref cM) "__init__" = some (some (.ref fIM)))
    (FM : PySem.W.typeIn K (.ref fIM) = some (.type "function"))
    (LM : K.lookup fIM = some ⟨ocIM, odIM, .func (PySem.W.fnOf "__init__" "TooMany.__init__" (iArgs [argOf "self" paM, argOf "limit" pbM]) [putSt "limit" "limit" qaM qbM qcM qdM] (iScope ["self", "limit"]) .none .none dcIM pmIM anIM cdIM ctIM), slIM⟩)
    (DM : PySem.W.codeIn K cdIM "TooMany.__init__" = true)
    (YM : PySem.W.hasDictIn K cM = true)
    (NMx : PySem.W.findIn K (.ref cM) "limit" = some none)
    (gc0 : PySem.W.nsIn K mainGlobals "gcd" = some (some (.builtin "math.gcd")))
    (a13 : PySem.W.nsIn K mainGlobals "is_integer" = some (some (.ref g13)))
    (l13 : K.lookup g13 = some ⟨oc13, od13, .func (PySem.W.fnOf "is_integer" "is_integer" (defArgs sIsInt) (defBody sIsInt) (defScope sIsInt) .none kV13 dc13 pm13 an13 cd13 ct13), sl13⟩)
    (c13d : PySem.W.codeIn K cd13 "is_integer" = true)
    (k13 : PySem.W.keepIn K (.ref g13) = true)
    (a14 : PySem.W.nsIn K mainGlobals "is_name" = some (some (.ref g14)))
    (l14 : K.lookup g14 = some ⟨oc14, od14, .func (PySem.W.fnOf "is_name" "is_name" (defArgs sIsName) (defBody sIsName) (defScope sIsName) .none kV14 dc14 pm14 an14 cd14 ct14), sl14⟩)
    (c14d : PySem.W.codeIn K cd14 "is_name" = true)
    (k14 : PySem.W.keepIn K (.ref g14) = true)
    (a15 : PySem.W.nsIn K mainGlobals "is_fraction" = some (some (.ref g15)))
    (l15 : K.lookup g15 = some ⟨oc15, od15, .func (PySem.W.fnOf "is_fraction" "is_fraction" (defArgs sIsFr) (defBody sIsFr) (defScope sIsFr) .none kV15 dc15 pm15 an15 cd15 ct15), sl15⟩)
    (c15d : PySem.W.codeIn K cd15 "is_fraction" = true)
    (k15 : PySem.W.keepIn K (.ref g15) = true)
    (a126 : PySem.W.nsIn K mainGlobals "kind_of_value" = some (some (.ref g126)))
    (l126 : K.lookup g126 = some ⟨oc126, od126, .func (PySem.W.fnOf "kind_of_value" "kind_of_value" (defArgs sKov) (defBody sKov) (defScope sKov) .none kV126 dc126 pm126 an126 cd126 ct126), sl126⟩)
    (c126d : PySem.W.codeIn K cd126 "kind_of_value" = true)
    (k126 : PySem.W.keepIn K (.ref g126) = true)
    (a127 : PySem.W.nsIn K mainGlobals "check_table" = some (some (.ref g127)))
    (l127 : K.lookup g127 = some ⟨oc127, od127, .func (PySem.W.fnOf "check_table" "check_table" (defArgs sChkT) (defBody sChkT) (defScope sChkT) .none kV127 dc127 pm127 an127 cd127 ct127), sl127⟩)
    (c127d : PySem.W.codeIn K cd127 "check_table" = true)
    (k127 : PySem.W.keepIn K (.ref g127) = true)
    (a129 : PySem.W.nsIn K mainGlobals "kind_of_term" = some (some (.ref g129)))
    (l129 : K.lookup g129 = some ⟨oc129, od129, .func (PySem.W.fnOf "kind_of_term" "kind_of_term" (defArgs sKot) (defBody sKot) (defScope sKot) .none kV129 dc129 pm129 an129 cd129 ct129), sl129⟩)
    (c129d : PySem.W.codeIn K cd129 "kind_of_term" = true)
    (k129 : PySem.W.keepIn K (.ref g129) = true)
    (a130 : PySem.W.nsIn K mainGlobals "terms_within" = some (some (.ref g130)))
    (l130 : K.lookup g130 = some ⟨oc130, od130, .func (PySem.W.fnOf "terms_within" "terms_within" (defArgs sTwi) (defBody sTwi) (defScope sTwi) .none kV130 dc130 pm130 an130 cd130 ct130), sl130⟩)
    (c130d : PySem.W.codeIn K cd130 "terms_within" = true)
    (k130 : PySem.W.keepIn K (.ref g130) = true)
    (a131 : PySem.W.nsIn K mainGlobals "value_of_term" = some (some (.ref g131)))
    (l131 : K.lookup g131 = some ⟨oc131, od131, .func (PySem.W.fnOf "value_of_term" "value_of_term" (defArgs sVof) (defBody sVof) (defScope sVof) .none kV131 dc131 pm131 an131 cd131 ct131), sl131⟩)
    (c131d : PySem.W.codeIn K cd131 "value_of_term" = true)
    (k131 : PySem.W.keepIn K (.ref g131) = true)
    (a134 : PySem.W.nsIn K mainGlobals "_kind_of_plain_term" = some (some (.ref g134)))
    (l134 : K.lookup g134 = some ⟨oc134, od134, .func (PySem.W.fnOf "_kind_of_plain_term" "_kind_of_plain_term" (defArgs sPlain) (defBody sPlain) (defScope sPlain) .none kV134 dc134 pm134 an134 cd134 ct134), sl134⟩)
    (c134d : PySem.W.codeIn K cd134 "_kind_of_plain_term" = true)
    (k134 : PySem.W.keepIn K (.ref g134) = true)
    (a139 : PySem.W.nsIn K mainGlobals "is_term" = some (some (.ref g139)))
    (l139 : K.lookup g139 = some ⟨oc139, od139, .func (PySem.W.fnOf "is_term" "is_term" (defArgs sIsT) (defBody sIsT) (defScope sIsT) .none kV139 dc139 pm139 an139 cd139 ct139), sl139⟩)
    (c139d : PySem.W.codeIn K cd139 "is_term" = true)
    (k139 : PySem.W.keepIn K (.ref g139) = true)
    (a140 : PySem.W.nsIn K mainGlobals "is_condition" = some (some (.ref g140)))
    (l140 : K.lookup g140 = some ⟨oc140, od140, .func (PySem.W.fnOf "is_condition" "is_condition" (defArgs sIsC) (defBody sIsC) (defScope sIsC) .none kV140 dc140 pm140 an140 cd140 ct140), sl140⟩)
    (c140d : PySem.W.codeIn K cd140 "is_condition" = true)
    (k140 : PySem.W.keepIn K (.ref g140) = true)
    (a141 : PySem.W.nsIn K mainGlobals "term_value" = some (some (.ref g141)))
    (l141 : K.lookup g141 = some ⟨oc141, od141, .func (PySem.W.fnOf "term_value" "term_value" (defArgs sTVal) (defBody sTVal) (defScope sTVal) .none kV141 dc141 pm141 an141 cd141 ct141), sl141⟩)
    (c141d : PySem.W.codeIn K cd141 "term_value" = true)
    (k141 : PySem.W.keepIn K (.ref g141) = true)
    (a142 : PySem.W.nsIn K mainGlobals "truth" = some (some (.ref g142)))
    (l142 : K.lookup g142 = some ⟨oc142, od142, .func (PySem.W.fnOf "truth" "truth" (defArgs sTruth) (defBody sTruth) (defScope sTruth) .none kV142 dc142 pm142 an142 cd142 ct142), sl142⟩)
    (c142d : PySem.W.codeIn K cd142 "truth" = true)
    (k142 : PySem.W.keepIn K (.ref g142) = true)
    (a143 : PySem.W.nsIn K mainGlobals "truths" = some (some (.ref g143)))
    (l143 : K.lookup g143 = some ⟨oc143, od143, .func (PySem.W.fnOf "truths" "truths" (defArgs sTruths) (defBody sTruths) (defScope sTruths) .none kV143 dc143 pm143 an143 cd143 ct143), sl143⟩)
    (c143d : PySem.W.codeIn K cd143 "truths" = true)
    (k143 : PySem.W.keepIn K (.ref g143) = true)
    (a144 : PySem.W.nsIn K mainGlobals "moved_inwards" = some (some (.ref g144)))
    (l144 : K.lookup g144 = some ⟨oc144, od144, .func (PySem.W.fnOf "moved_inwards" "moved_inwards" (defArgs sMoved) (defBody sMoved) (defScope sMoved) .none kV144 dc144 pm144 an144 cd144 ct144), sl144⟩)
    (c144d : PySem.W.codeIn K cd144 "moved_inwards" = true)
    (k144 : PySem.W.keepIn K (.ref g144) = true)
    (a145 : PySem.W.nsIn K mainGlobals "check_condition" = some (some (.ref g145)))
    (l145 : K.lookup g145 = some ⟨oc145, od145, .func (PySem.W.fnOf "check_condition" "check_condition" (defArgs sChkC) (defBody sChkC) (defScope sChkC) .none kV145 dc145 pm145 an145 cd145 ct145), sl145⟩)
    (c145d : PySem.W.codeIn K cd145 "check_condition" = true)
    (k145 : PySem.W.keepIn K (.ref g145) = true)
    (a146 : PySem.W.nsIn K mainGlobals "_has_form" = some (some (.ref g146)))
    (l146 : K.lookup g146 = some ⟨oc146, od146, .func (PySem.W.fnOf "_has_form" "_has_form" (defArgs sForm) (defBody sForm) (defScope sForm) .none kV146 dc146 pm146 an146 cd146 ct146), sl146⟩)
    (c146d : PySem.W.codeIn K cd146 "_has_form" = true)
    (k146 : PySem.W.keepIn K (.ref g146) = true)
    (a147 : PySem.W.nsIn K mainGlobals "_conditions_of" = some (some (.ref g147)))
    (l147 : K.lookup g147 = some ⟨oc147, od147, .func (PySem.W.fnOf "_conditions_of" "_conditions_of" (defArgs sCof) (defBody sCof) (defScope sCof) .none kV147 dc147 pm147 an147 cd147 ct147), sl147⟩)
    (c147d : PySem.W.codeIn K cd147 "_conditions_of" = true)
    (k147 : PySem.W.keepIn K (.ref g147) = true)
    (a148 : PySem.W.nsIn K mainGlobals "_terms_of" = some (some (.ref g148)))
    (l148 : K.lookup g148 = some ⟨oc148, od148, .func (PySem.W.fnOf "_terms_of" "_terms_of" (defArgs sTof) (defBody sTof) (defScope sTof) .none kV148 dc148 pm148 an148 cd148 ct148), sl148⟩)
    (c148d : PySem.W.codeIn K cd148 "_terms_of" = true)
    (k148 : PySem.W.keepIn K (.ref g148) = true)
    (a150 : PySem.W.nsIn K mainGlobals "truth_in" = some (some (.ref g150)))
    (l150 : K.lookup g150 = some ⟨oc150, od150, .func (PySem.W.fnOf "truth_in" "truth_in" (defArgs sTin) (defBody sTin) (defScope sTin) .none kV150 dc150 pm150 an150 cd150 ct150), sl150⟩)
    (c150d : PySem.W.codeIn K cd150 "truth_in" = true)
    (k150 : PySem.W.keepIn K (.ref g150) = true)
    (a154 : PySem.W.nsIn K mainGlobals "_law_bag" = some (some (.ref g154)))
    (l154 : K.lookup g154 = some ⟨oc154, od154, .func (PySem.W.fnOf "_law_bag" "_law_bag" (defArgs sBag) (defBody sBag) (defScope sBag) .none kV154 dc154 pm154 an154 cd154 ct154), sl154⟩)
    (c154d : PySem.W.codeIn K cd154 "_law_bag" = true)
    (k154 : PySem.W.keepIn K (.ref g154) = true)
    (a155 : PySem.W.nsIn K mainGlobals "_law_draw" = some (some (.ref g155)))
    (l155 : K.lookup g155 = some ⟨oc155, od155, .func (PySem.W.fnOf "_law_draw" "_law_draw" (defArgs sDraw) (defBody sDraw) (defScope sDraw) .none kV155 dc155 pm155 an155 cd155 ct155), sl155⟩)
    (c155d : PySem.W.codeIn K cd155 "_law_draw" = true)
    (k155 : PySem.W.keepIn K (.ref g155) = true)
    (a156 : PySem.W.nsIn K mainGlobals "_law_one_of" = some (some (.ref g156)))
    (l156 : K.lookup g156 = some ⟨oc156, od156, .func (PySem.W.fnOf "_law_one_of" "_law_one_of" (defArgs sOne) (defBody sOne) (defScope sOne) .none kV156 dc156 pm156 an156 cd156 ct156), sl156⟩)
    (c156d : PySem.W.codeIn K cd156 "_law_one_of" = true)
    (k156 : PySem.W.keepIn K (.ref g156) = true)
    (a157 : PySem.W.nsIn K mainGlobals "_law_met" = some (some (.ref g157)))
    (l157 : K.lookup g157 = some ⟨oc157, od157, .func (PySem.W.fnOf "_law_met" "_law_met" (defArgs sMet) (defBody sMet) (defScope sMet) .none kV157 dc157 pm157 an157 cd157 ct157), sl157⟩)
    (c157d : PySem.W.codeIn K cd157 "_law_met" = true)
    (k157 : PySem.W.keepIn K (.ref g157) = true)
    (a158 : PySem.W.nsIn K mainGlobals "_law_errors" = some (some (.ref g158)))
    (l158 : K.lookup g158 = some ⟨oc158, od158, .func (PySem.W.fnOf "_law_errors" "_law_errors" (defArgs sErr) (defBody sErr) (defScope sErr) .none kV158 dc158 pm158 an158 (.ref cE) ct158), sl158⟩)
    (c158d : PySem.W.codeIn K (.ref cE) "_law_errors" = true)
    (k158 : PySem.W.keepIn K (.ref g158) = true)
    (a159 : PySem.W.nsIn K mainGlobals "law" = some (some (.ref g159)))
    (l159 : K.lookup g159 = some ⟨oc159, od159, .func (PySem.W.fnOf "law" "law" (defArgs sLaw) (defBody sLaw) (defScope sLaw) .none kV159 dc159 pm159 an159 (.ref cL) ct159), sl159⟩)
    (c159d : PySem.W.codeIn K (.ref cL) "law" = true)
    (k159 : PySem.W.keepIn K (.ref g159) = true)
    (aMInit : PySem.W.findIn K (.ref C) "__init__" = some (some (.ref gMInit)))
    (iMInit : PySem.W.isFn K (.ref gMInit) = true)
    (lMInit : K.lookup gMInit = some ⟨ocMInit, odMInit, .func (PySem.W.fnOf "__init__" "Table.__init__" (defArgs sInit) (defBody sInit) (defScope sInit) .none kVMInit dcMInit pmMInit anMInit cdMInit ctMInit), slMInit⟩)
    (cMInitd : PySem.W.codeIn K cdMInit "Table.__init__" = true)
    (kMInit : PySem.W.keepIn K (.ref gMInit) = true)
    (atMKinds : PySem.W.findIn K (.ref C) "kinds" = some (some (.ref pMKinds)))
    (geMKinds : PySem.W.specialIn K (.ref pMKinds) "__get__" = some (some (.builtin "property.__get__")))
    (tkMKinds : PySem.W.takesIn K (.ref pMKinds) = some true)
    (rcMKinds : PySem.W.recIn K pMKinds "property" = some (.ref gMKinds :: rMKinds))
    (lMKinds : K.lookup gMKinds = some ⟨ocMKinds, odMKinds, .func (PySem.W.fnOf "kinds" "Table.kinds" (defArgs sKinds) (defBody sKinds) (defScope sKinds) .none kVMKinds dcMKinds pmMKinds anMKinds cdMKinds ctMKinds), slMKinds⟩)
    (cMKindsd : PySem.W.codeIn K cdMKinds "Table.kinds" = true)
    (kMKinds : PySem.W.keepIn K (.ref gMKinds) = true)
    (aMCont : PySem.W.findIn K (.ref C) "__contains__" = some (some (.ref gMCont)))
    (iMCont : PySem.W.isFn K (.ref gMCont) = true)
    (lMCont : K.lookup gMCont = some ⟨ocMCont, odMCont, .func (PySem.W.fnOf "__contains__" "Table.__contains__" (defArgs sCont) (defBody sCont) (defScope sCont) .none kVMCont dcMCont pmMCont anMCont cdMCont ctMCont), slMCont⟩)
    (cMContd : PySem.W.codeIn K cdMCont "Table.__contains__" = true)
    (kMCont : PySem.W.keepIn K (.ref gMCont) = true)
    (aMLen : PySem.W.findIn K (.ref C) "__len__" = some (some (.ref gMLen)))
    (iMLen : PySem.W.isFn K (.ref gMLen) = true)
    (lMLen : K.lookup gMLen = some ⟨ocMLen, odMLen, .func (PySem.W.fnOf "__len__" "Table.__len__" (defArgs sLen) (defBody sLen) (defScope sLen) .none kVMLen dcMLen pmMLen anMLen cdMLen ctMLen), slMLen⟩)
    (cMLend : PySem.W.codeIn K cdMLen "Table.__len__" = true)
    (kMLen : PySem.W.keepIn K (.ref gMLen) = true)
    (aMThere : PySem.W.findIn K (.ref C) "_check_there" = some (some (.ref gMThere)))
    (iMThere : PySem.W.isFn K (.ref gMThere) = true)
    (lMThere : K.lookup gMThere = some ⟨ocMThere, odMThere, .func (PySem.W.fnOf "_check_there" "Table._check_there" (defArgs sThere) (defBody sThere) (defScope sThere) .none kVMThere dcMThere pmMThere anMThere cdMThere ctMThere), slMThere⟩)
    (cMThered : PySem.W.codeIn K cdMThere "Table._check_there" = true)
    (kMThere : PySem.W.keepIn K (.ref gMThere) = true)
    (aMVals : PySem.W.findIn K (.ref C) "_check_values" = some (some (.ref gMVals)))
    (iMVals : PySem.W.isFn K (.ref gMVals) = true)
    (lMVals : K.lookup gMVals = some ⟨ocMVals, odMVals, .func (PySem.W.fnOf "_check_values" "Table._check_values" (defArgs sVals) (defBody sVals) (defScope sVals) .none kVMVals dcMVals pmMVals anMVals cdMVals ctMVals), slMVals⟩)
    (cMValsd : PySem.W.codeIn K cdMVals "Table._check_values" = true)
    (kMVals : PySem.W.keepIn K (.ref gMVals) = true)
    (aMRow : PySem.W.findIn K (.ref C) "row" = some (some (.ref gMRow)))
    (iMRow : PySem.W.isFn K (.ref gMRow) = true)
    (lMRow : K.lookup gMRow = some ⟨ocMRow, odMRow, .func (PySem.W.fnOf "row" "Table.row" (defArgs sRow) (defBody sRow) (defScope sRow) .none kVMRow dcMRow pmMRow anMRow cdMRow ctMRow), slMRow⟩)
    (cMRowd : PySem.W.codeIn K cdMRow "Table.row" = true)
    (kMRow : PySem.W.keepIn K (.ref gMRow) = true)
    (aMChange : PySem.W.findIn K (.ref C) "change" = some (some (.ref gMChange)))
    (iMChange : PySem.W.isFn K (.ref gMChange) = true)
    (lMChange : K.lookup gMChange = some ⟨ocMChange, odMChange, .func (PySem.W.fnOf "change" "Table.change" (defArgs sChange) (defBody sChange) (defScope sChange) .none kVMChange dcMChange pmMChange anMChange cdMChange ctMChange), slMChange⟩)
    (cMChanged : PySem.W.codeIn K cdMChange "Table.change" = true)
    (kMChange : PySem.W.keepIn K (.ref gMChange) = true)
    (aMWith : PySem.W.findIn K (.ref C) "_with" = some (some (.ref gMWith)))
    (iMWith : PySem.W.isFn K (.ref gMWith) = true)
    (lMWith : K.lookup gMWith = some ⟨ocMWith, odMWith, .func (PySem.W.fnOf "_with" "Table._with" (defArgs sWith) (defBody sWith) (defScope sWith) .none kVMWith dcMWith pmMWith anMWith cdMWith ctMWith), slMWith⟩)
    (cMWithd : PySem.W.codeIn K cdMWith "Table._with" = true)
    (kMWith : PySem.W.keepIn K (.ref gMWith) = true)
    (aMPut : PySem.W.findIn K (.ref C) "put" = some (some (.ref gMPut)))
    (iMPut : PySem.W.isFn K (.ref gMPut) = true)
    (lMPut : K.lookup gMPut = some ⟨ocMPut, odMPut, .func (PySem.W.fnOf "put" "Table.put" (defArgs sPut) (defBody sPut) (defScope sPut) .none kVMPut dcMPut pmMPut anMPut cdMPut ctMPut), slMPut⟩)
    (cMPutd : PySem.W.codeIn K cdMPut "Table.put" = true)
    (kMPut : PySem.W.keepIn K (.ref gMPut) = true)
    (aMWout : PySem.W.findIn K (.ref C) "without" = some (some (.ref gMWout)))
    (iMWout : PySem.W.isFn K (.ref gMWout) = true)
    (lMWout : K.lookup gMWout = some ⟨ocMWout, odMWout, .func (PySem.W.fnOf "without" "Table.without" (defArgs sWout) (defBody sWout) (defScope sWout) .none kVMWout dcMWout pmMWout anMWout cdMWout ctMWout), slMWout⟩)
    (cMWoutd : PySem.W.codeIn K cdMWout "Table.without" = true)
    (kMWout : PySem.W.keepIn K (.ref gMWout) = true)
    (z_isinstance : PySem.W.nsIn K mainGlobals "isinstance" = some none)
    (z_int : PySem.W.nsIn K mainGlobals "int" = some none)
    (z_bool : PySem.W.nsIn K mainGlobals "bool" = some none)
    (z_str : PySem.W.nsIn K mainGlobals "str" = some none)
    (z_tuple : PySem.W.nsIn K mainGlobals "tuple" = some none)
    (z_dict : PySem.W.nsIn K mainGlobals "dict" = some none)
    (z_list : PySem.W.nsIn K mainGlobals "list" = some none)
    (z_len : PySem.W.nsIn K mainGlobals "len" = some none)
    (z_all : PySem.W.nsIn K mainGlobals "all" = some none)
    (z_sorted : PySem.W.nsIn K mainGlobals "sorted" = some none)
    (z_range : PySem.W.nsIn K mainGlobals "range" = some none)
    (z_max : PySem.W.nsIn K mainGlobals "max" = some none)
    (z_min : PySem.W.nsIn K mainGlobals "min" = some none)
    (z_repr : PySem.W.nsIn K mainGlobals "repr" = some none)
    (z_sum : PySem.W.nsIn K mainGlobals "sum" = some none)
    (z_abs : PySem.W.nsIn K mainGlobals "abs" = some none)
    (ccE : K.lookup cE = some ⟨.type "code", odE, .fields vE, slE⟩)
    (cpE : vE[11]? = some (.ref pE))
    (chE : PySem.W.codeHdIn K cE pE = true)
    (cnE : K.lookup pE = none)
    (ctE : h.get? pE = some { cls := .none, data := .fields #[] })
    (ccL : K.lookup cL = some ⟨.type "code", odL, .fields vL, slL⟩)
    (cpL : vL[11]? = some (.ref pL))
    (chL : PySem.W.codeHdIn K cL pL = true)
    (cnL : K.lookup pL = none)
    (ctL : h.get? pL = some { cls := .none, data := .fields #[] })
    (ne : pE ≠ pL)
    : ∃ fd cs sp, EndT l w K mg 12 63 "script" fa h fd cs sp := by
  have e := hfa.symm.trans (PySem.W.mg_of XX GG a159)
  cases e
  have mgn : ∀ {x : Str}, PySem.W.nsIn K mainGlobals x = some none → mg x = none := fun e => PySem.W.mg_none_of XX GG e
  have TB1 : TB mg := ⟨mgn z_len, mgn z_sum, mgn z_int, mgn z_abs, mgn z_max, mgn z_range, mgn z_list⟩
  have TN1 : TN mg := ⟨mgn z_isinstance, mgn z_int, mgn z_bool, mgn z_str, mgn z_tuple, mgn z_dict, mgn z_list, mgn z_len, mgn z_all, mgn z_sorted, mgn z_range, mgn z_max, mgn z_min, mgn z_repr, PySem.W.mg_of XX GG gc0⟩
  have CL1 : Cls K C := ⟨pg, hd, po, sa⟩
  have TC1 : TbC K mg C := ⟨CL1, nF, nR, nN, PySem.W.mg_of XX GG aC, ⟨CL1, iha, ihn, ihtk, ihm, ime⟩, fun k => match k with | .non => ktnon | .bl => ktbl | .int => ktint | .str => ktstr | .lst => ktlst | .tup => kttup | .dct => ktdct⟩
  have NS1 : NoI K CS := fun k => match k with | .non => ksnon | .bl => ksbl | .int => ksint | .str => ksstr | .lst => kslst | .tup => kstup | .dct => ksdct
  have TG1 : TG K mg aK := ⟨PySem.W.mg_of XX GG gK, fun H => .inr ⟨_, _, _, lK, rfl, rfl, size_few _ (show 3 ≤ 5 by decide), .cons ⟨_, rfl⟩ (.cons ⟨_, rfl⟩ (.cons ⟨_, rfl⟩ .nil))⟩, ⟨_, PySem.W.mg_of XX GG g_MAX_COLUMNS⟩⟩
  have g60 := PySem.W.mg_of XX GG g_MAX_ROWS
  have g40 := PySem.W.mg_of XX GG g_MAX_TEXT
  have gpp := PySem.W.mg_of XX GG g_MAX_PARTS
  have gdd := PySem.W.mg_of XX GG g_MAX_DEPTH
  have ET : ErrE "InvalidTable" K mg cT := ⟨PT, PySem.W.mg_of XX GG AT, KT, ST, TT⟩
  have EW : ErrE "InvalidRow" K mg cW := ⟨PW, PySem.W.mg_of XX GG AW, KW, SW, TW⟩
  have EC : ErrE "InvalidCondition" K mg cC := ⟨PC, PySem.W.mg_of XX GG AC, KC, SC, TC⟩
  have oN : OwnTxt K cN fIN ixT "IndexError.__new__" := own_of XN (show PySem.W.excTail ixT [.type "IndexError", .type "LookupError", .type "Exception", .type "BaseException", .type "object"] = true by decide +kernel) SN EN GN HN IN FN KN TNn YN
  have oM : OwnTxt K cM fIM ovT "OverflowError.__new__" := own_of XM (show PySem.W.excTail ovT [.type "OverflowError", .type "ArithmeticError", .type "Exception", .type "BaseException", .type "object"] = true by decide +kernel) SM EM GM HM IM FM KM TM YM
  have NN : NumE "InvalidNumber" "value" l.prog w K mg cN := ⟨PySem.W.mg_of XX GG AN, ⟨fIN, "IndexError.__new__", _, ixT, oN, ⟨_, _, PySem.F.excBase_IndexError⟩, ⟨rfl, rfl, rfl⟩, keeps_value PySem.F.store_IndexError oN NNx ⟨_, _, _, _, _, _, _, _, _, _, LN, DN, ⟨_, _, rfl⟩, ⟨_, _, _, _, rfl⟩⟩⟩, NNx⟩
  have NM : NumE "TooMany" "limit" l.prog w K mg cM := ⟨PySem.W.mg_of XX GG AM, ⟨fIM, "OverflowError.__new__", _, ovT, oM, ⟨_, _, PySem.F.excBase_OverflowError⟩, ⟨rfl, rfl, rfl⟩, keeps_limit PySem.F.store_OverflowError oM NMx ⟨_, _, _, _, _, _, _, _, _, _, LM, DM, ⟨_, _, rfl⟩, ⟨_, _, _, _, rfl⟩⟩⟩, NMx⟩
  have EX1 : Exm K ⟨cT, cW, cC, cN, cM⟩ := ⟨exm_of ST TT xTT, exm_of ST TT xWT, exm_of SW TW xWW, exm_of ST TT xCT, exm_of SW TW xCW, exm_of SC TC xCC, exm_of ST TT xNT, exm_of SW TW xNW, exm_of SC TC xNC, exm_of SN TNn xNN, exm_of ST TT xMT, exm_of SW TW xMW, exm_of SC TC xMC, exm_of SN TNn xMN, exm_of SM TM xMM⟩
  have g13_ := PySem.W.mg_of XX GG a13
  have F13_ := fun_mk (st := sIsInt) l13 c13d k13
  have b13_ := F13_.binds (ps := ["value"]) fun _ _ _ _ _ _ us hl => match us, hl with | [_], _ => rfl
  have g14_ := PySem.W.mg_of XX GG a14
  have F14_ := fun_mk (st := sIsName) l14 c14d k14
  have b14_ := F14_.binds (ps := ["value"]) fun _ _ _ _ _ _ us hl => match us, hl with | [_], _ => rfl
  have g15_ := PySem.W.mg_of XX GG a15
  have F15_ := fun_mk (st := sIsFr) l15 c15d k15
  have b15_ := F15_.binds (ps := ["value"]) fun _ _ _ _ _ _ us hl => match us, hl with | [_], _ => rfl
  have g126_ := PySem.W.mg_of XX GG a126
  have F126_ := fun_mk (st := sKov) l126 c126d k126
  have b126_ := F126_.binds (ps := ["value"]) fun _ _ _ _ _ _ us hl => match us, hl with | [_], _ => rfl
  have g127_ := PySem.W.mg_of XX GG a127
  have F127_ := fun_mk (st := sChkT) l127 c127d k127
  have b127_ := F127_.binds (ps := ["value"]) fun _ _ _ _ _ _ us hl => match us, hl with | [_], _ => rfl
  have g129_ := PySem.W.mg_of XX GG a129
  have F129_ := fun_mk (st := sKot) l129 c129d k129
  have b129_ := F129_.binds (ps := ["kinds", "term"]) fun _ _ _ _ _ _ us hl => match us, hl with | [_, _], _ => rfl
  have g130_ := PySem.W.mg_of XX GG a130
  have F130_ := fun_mk (st := sTwi) l130 c130d k130
  have b130_ := F130_.binds (ps := ["term"]) fun _ _ _ _ _ _ us hl => match us, hl with | [_], _ => rfl
  have g131_ := PySem.W.mg_of XX GG a131
  have F131_ := fun_mk (st := sVof) l131 c131d k131
  have b131_ := F131_.binds (ps := ["row", "term"]) fun _ _ _ _ _ _ us hl => match us, hl with | [_, _], _ => rfl
  have g134_ := PySem.W.mg_of XX GG a134
  have F134_ := fun_mk (st := sPlain) l134 c134d k134
  have b134_ := F134_.binds (ps := ["kinds", "term"]) fun _ _ _ _ _ _ us hl => match us, hl with | [_, _], _ => rfl
  have g139_ := PySem.W.mg_of XX GG a139
  have F139_ := fun_mk (st := sIsT) l139 c139d k139
  have b139_ := F139_.binds (ps := ["table", "value"]) fun _ _ _ _ _ _ us hl => match us, hl with | [_, _], _ => rfl
  have g140_ := PySem.W.mg_of XX GG a140
  have F140_ := fun_mk (st := sIsC) l140 c140d k140
  have b140_ := F140_.binds (ps := ["table", "value"]) fun _ _ _ _ _ _ us hl => match us, hl with | [_, _], _ => rfl
  have g141_ := PySem.W.mg_of XX GG a141
  have F141_ := fun_mk (st := sTVal) l141 c141d k141
  have b141_ := F141_.binds (ps := ["table", "term", "number"]) fun _ _ _ _ _ _ us hl => match us, hl with | [_, _, _], _ => rfl
  have g142_ := PySem.W.mg_of XX GG a142
  have F142_ := fun_mk (st := sTruth) l142 c142d k142
  have b142_ := F142_.binds (ps := ["table", "condition", "number"]) fun _ _ _ _ _ _ us hl => match us, hl with | [_, _, _], _ => rfl
  have g143_ := PySem.W.mg_of XX GG a143
  have F143_ := fun_mk (st := sTruths) l143 c143d k143
  have b143_ := F143_.binds (ps := ["table", "condition"]) fun _ _ _ _ _ _ us hl => match us, hl with | [_, _], _ => rfl
  have g144_ := PySem.W.mg_of XX GG a144
  have F144_ := fun_mk (st := sMoved) l144 c144d k144
  have b144_ := F144_.binds (ps := ["table", "condition"]) fun _ _ _ _ _ _ us hl => match us, hl with | [_, _], _ => rfl
  have g145_ := PySem.W.mg_of XX GG a145
  have F145_ := fun_mk (st := sChkC) l145 c145d k145
  have b145_ := F145_.binds (ps := ["table", "value"]) fun _ _ _ _ _ _ us hl => match us, hl with | [_, _], _ => rfl
  have g146_ := PySem.W.mg_of XX GG a146
  have F146_ := fun_mk (st := sForm) l146 c146d k146
  have b146_ := F146_.binds (ps := ["kinds", "value"]) fun _ _ _ _ _ _ us hl => match us, hl with | [_, _], _ => rfl
  have g147_ := PySem.W.mg_of XX GG a147
  have F147_ := fun_mk (st := sCof) l147 c147d k147
  have b147_ := F147_.binds (ps := ["condition"]) fun _ _ _ _ _ _ us hl => match us, hl with | [_], _ => rfl
  have g148_ := PySem.W.mg_of XX GG a148
  have F148_ := fun_mk (st := sTof) l148 c148d k148
  have b148_ := F148_.binds (ps := ["condition"]) fun _ _ _ _ _ _ us hl => match us, hl with | [_], _ => rfl
  have g150_ := PySem.W.mg_of XX GG a150
  have F150_ := fun_mk (st := sTin) l150 c150d k150
  have b150_ := F150_.binds (ps := ["row", "condition"]) fun _ _ _ _ _ _ us hl => match us, hl with | [_, _], _ => rfl
  have g154_ := PySem.W.mg_of XX GG a154
  have F154_ := fun_mk (st := sBag) l154 c154d k154
  have b154_ := F154_.binds (ps := ["script", "at"]) fun _ _ _ _ _ _ us hl => match us, hl with | [_, _], _ => rfl
  have g155_ := PySem.W.mg_of XX GG a155
  have F155_ := fun_mk (st := sDraw) l155 c155d k155
  have b155_ := F155_.binds (ps := ["bag", "total"]) fun _ _ _ _ _ _ us hl => match us, hl with | [_, _], _ => rfl
  have g156_ := PySem.W.mg_of XX GG a156
  have F156_ := fun_mk (st := sOne) l156 c156d k156
  have b156_ := F156_.binds (ps := ["bag", "items"]) fun _ _ _ _ _ _ us hl => match us, hl with | [_, _], _ => rfl
  have g157_ := PySem.W.mg_of XX GG a157
  have F157_ := fun_mk (st := sMet) l157 c157d k157
  have b157_ := F157_.binds (ps := ["call"]) fun _ _ _ _ _ _ us hl => match us, hl with | [_], _ => rfl
  have g158_ := PySem.W.mg_of XX GG a158
  have g159_ := PySem.W.mg_of XX GG a159
  have FMInit_ := fun_mk (st := sInit) lMInit cMInitd kMInit
  have bMInit_ := FMInit_.binds (ps := ["self", "kinds"]) fun _ _ _ _ _ _ us hl => match us, hl with | [_, _], _ => rfl
  have FMKinds_ := fun_mk (st := sKinds) lMKinds cMKindsd kMKinds
  have bMKinds_ := FMKinds_.binds (ps := ["self"]) fun _ _ _ _ _ _ us hl => match us, hl with | [_], _ => rfl
  have FMCont_ := fun_mk (st := sCont) lMCont cMContd kMCont
  have bMCont_ := FMCont_.binds (ps := ["self", "value"]) fun _ _ _ _ _ _ us hl => match us, hl with | [_, _], _ => rfl
  have FMLen_ := fun_mk (st := sLen) lMLen cMLend kMLen
  have bMLen_ := FMLen_.binds (ps := ["self"]) fun _ _ _ _ _ _ us hl => match us, hl with | [_], _ => rfl
  have FMThere_ := fun_mk (st := sThere) lMThere cMThered kMThere
  have bMThere_ := FMThere_.binds (ps := ["self", "number"]) fun _ _ _ _ _ _ us hl => match us, hl with | [_, _], _ => rfl
  have FMVals_ := fun_mk (st := sVals) lMVals cMValsd kMVals
  have bMVals_ := FMVals_.binds (ps := ["self", "values"]) fun _ _ _ _ _ _ us hl => match us, hl with | [_, _], _ => rfl
  have FMRow_ := fun_mk (st := sRow) lMRow cMRowd kMRow
  have bMRow_ := FMRow_.binds (ps := ["self", "number"]) fun _ _ _ _ _ _ us hl => match us, hl with | [_, _], _ => rfl
  have FMChange_ := fun_mk (st := sChange) lMChange cMChanged kMChange
  have bMChange_ := FMChange_.binds (ps := ["self", "number", "values"]) fun _ _ _ _ _ _ us hl => match us, hl with | [_, _, _], _ => rfl
  have FMWith_ := fun_mk (st := sWith) lMWith cMWithd kMWith
  have bMWith_ := FMWith_.binds (ps := ["self", "rows", "next_number"]) fun _ _ _ _ _ _ us hl => match us, hl with | [_, _, _], _ => rfl
  have FMPut_ := fun_mk (st := sPut) lMPut cMPutd kMPut
  have bMPut_ := FMPut_.binds (ps := ["self", "values"]) fun _ _ _ _ _ _ us hl => match us, hl with | [_, _], _ => rfl
  have FMWout_ := fun_mk (st := sWout) lMWout cMWoutd kMWout
  refine ⟨PySem.W.fnOf "law" "law" (defArgs sLaw) (defBody sLaw) (defScope sLaw) .none kV159 dc159 pm159 an159 (.ref cL) ct159, [(cE, pE), (cL, pL)], spLaw K pE pL, ⟨?_, fun s v => .of_eq rfl, fun base _ _ tb => ?_, ?_⟩⟩
  · intro q hq
    rcases List.mem_cons.mp hq with rfl | hq
    · exact ⟨ctE, cnE, PySem.W.codeHd_of_K XX chE⟩
    · rw [List.mem_singleton.mp hq]
      exact ⟨ctL, cnL, PySem.W.codeHd_of_K XX chL⟩
  case refine_3 =>
    intro H a ns hl hT hS
    refine ⟨a, ns, rfl, hS, hl, fun p hp => ?_, fun _ => rfl⟩
    rcases List.mem_cons.mp hp with rfl | hp
    · exact TabS.nil (hT (cE, pE) List.mem_cons_self)
    · rw [List.mem_singleton.mp hp]
      exact TabS.nil (hT (cL, pL) (List.mem_cons_of_mem _ List.mem_cons_self))
  have tE := tb (cE, pE) List.mem_cons_self
  have tL := tb (cL, pL) (List.mem_cons_of_mem _ List.mem_cons_self)
  have K1 : Cl l.prog w K mg base 1 "is_integer" _ := ⟨⟨_, _, _, ok_isint F13_ TN1, g13_, k13, b13_⟩⟩
  have K2 : Cl l.prog w K mg base 1 "is_name" _ := ⟨⟨_, _, _, ok_isname F14_ TN1, g14_, k14, b14_⟩⟩
  have K3 : Cl l.prog w K mg base 2 "is_fraction" _ := ⟨⟨_, _, _, ok_isfr F15_ TN1, g15_, k15, b15_⟩⟩
  have K4 : Cl l.prog w K mg base 2 "kind_of_value" _ := ⟨⟨_, _, _, ok_kov F126_ TN1 (PySem.W.mg_of XX GG aS) NS1 g40 K1, g126_, k126, b126_⟩⟩
  have K5 : ClX l.prog w K mg base 1 "check_table" _ := ⟨⟨_, _, _, ok_chkT F127_ TN1 TC1 ET, g127_, k127, b127_⟩⟩
  have MQ : MqX l.prog w K mg base 2 C (spInit C cT) := ⟨⟨_, _, _, ⟨mk, aMInit, iMInit, kC⟩, ok_init FMInit_ TN1 TC1 TG1 ET K2, bMInit_⟩⟩
  have PK : Pq l.prog w K mg base 1 C "kinds" (spKinds C) := ⟨⟨_, _, _, _, CL1, ⟨atMKinds, geMKinds, tkMKinds, ⟨_, rcMKinds⟩⟩, ok_kinds FMKinds_ TN1 TC1, bMKinds_⟩⟩
  have M_MCont : Mt l.prog w K mg base 2 C "__contains__" (spCont C) := ⟨⟨_, _, _, CL1, ⟨aMCont, iMCont, kMCont⟩, ok_cont FMCont_ TN1 TC1 K1, bMCont_⟩⟩
  have M_MLen : Mt l.prog w K mg base 1 C "__len__" (spLen C) := ⟨⟨_, _, _, CL1, ⟨aMLen, iMLen, kMLen⟩, ok_len FMLen_ TN1 TC1, bMLen_⟩⟩
  have M_MThere : MtX l.prog w K mg base 3 C "_check_there" (spThere C cN) := ⟨⟨_, _, _, CL1, ⟨aMThere, iMThere, kMThere⟩, ok_there FMThere_ NN M_MCont, bMThere_⟩⟩
  have M_MRow : MtX l.prog w K mg base 4 C "row" (spRow C cN) := ⟨⟨_, _, _, CL1, ⟨aMRow, iMRow, kMRow⟩, ok_row FMRow_ M_MThere, bMRow_⟩⟩
  have M_MVals : MtX l.prog w K mg base 3 C "_check_values" (spVals C cW) := ⟨⟨_, _, _, CL1, ⟨aMVals, iMVals, kMVals⟩, ok_vals FMVals_ TN1 TC1 EW K4, bMVals_⟩⟩
  have M_MChange : MtX l.prog w K mg base 4 C "change" (spChange C cN cW) := ⟨⟨_, _, _, CL1, ⟨aMChange, iMChange, kMChange⟩, ok_change FMChange_ M_MThere M_MVals, bMChange_⟩⟩
  have M_MWith : MtX l.prog w K mg base 4 C "_with" (spWith C) := ⟨⟨_, _, _, CL1, ⟨aMWith, iMWith, kMWith⟩, ok_with FMWith_ TC1 MQ, bMWith_⟩⟩
  have M_MPut : MtX l.prog w K mg base 5 C "put" (spPut C cW cM) := ⟨⟨_, _, _, CL1, ⟨aMPut, iMPut, kMPut⟩, ok_put FMPut_ TN1 TC1 g60 NM M_MVals M_MWith, bMPut_⟩⟩
  have M_MWout : MtR l.prog w K mg base 6 C "without" (spWout C cN) := ⟨⟨_, CL1, ⟨aMWout, iMWout, kMWout⟩, ok_wout FMWout_ TN1 TC1 M_MThere M_MWith⟩⟩
  have K6 : Cl l.prog w K mg base 3 "_kind_of_plain_term" _ := ⟨⟨_, _, _, ok_plain F134_ TN1 K2 K3 K4, g134_, k134, b134_⟩⟩
  have K7 : Cl l.prog w K mg base 4 "kind_of_term" _ := ⟨⟨_, _, _, ok_kot F129_ TN1 K6, g129_, k129, b129_⟩⟩
  have K8 : Cl l.prog w K mg base 1 "terms_within" _ := ⟨⟨_, _, _, ok_twi F130_, g130_, k130, b130_⟩⟩
  have K9 : Cl l.prog w K mg base 1 "_conditions_of" _ := ⟨⟨_, _, _, ok_cof F147_, g147_, k147, b147_⟩⟩
  have K10 : Cl l.prog w K mg base 2 "_terms_of" _ := ⟨⟨_, _, _, ok_tof F148_ TN1 K8, g148_, k148, b148_⟩⟩
  have K11 : Cl l.prog w K mg base 5 "_has_form" _ := ⟨⟨_, _, _, ok_form F146_ TN1 K7, g146_, k146, b146_⟩⟩
  have K12 : ClX l.prog w K mg base 6 "is_condition" _ := ⟨⟨_, _, _, ok_isc F140_ TN1 gpp gdd K5 PK K11 K10 K9, g140_, k140, b140_⟩⟩
  have K13 : ClX l.prog w K mg base 7 "check_condition" _ := ⟨⟨_, _, _, ok_chkc F145_ EC K12, g145_, k145, b145_⟩⟩
  have K14 : ClX l.prog w K mg base 5 "is_term" _ := ⟨⟨_, _, _, ok_ist F139_ K5 PK K7, g139_, k139, b139_⟩⟩
  have K15 : Cl l.prog w K mg base 0 "truth_in" spNone := ⟨⟨_, _, _, fn_none (f := g150) 0 (fun _ _ _ _ h => h), g150_, k150, b150_⟩⟩
  have K16 : Cl l.prog w K mg base 0 "value_of_term" spNone := ⟨⟨_, _, _, fn_none (f := g131) 0 (fun _ _ _ _ h => h), g131_, k131, b131_⟩⟩
  have K17 : ClX l.prog w K mg base 6 "term_value" _ := ⟨⟨_, _, _, ok_tval F141_ EC K14 M_MRow K16, g141_, k141, b141_⟩⟩
  have K18 : ClX l.prog w K mg base 8 "truth" _ := ⟨⟨_, _, _, ok_truth F142_ K13 M_MRow K15, g142_, k142, b142_⟩⟩
  have K19 : ClX l.prog w K mg base 8 "truths" _ := ⟨⟨_, _, _, ok_truths F143_ K13, g143_, k143, b143_⟩⟩
  have K20 : ClX l.prog w K mg base 8 "moved_inwards" _ := ⟨⟨_, _, _, ok_moved F144_ K13, g144_, k144, b144_⟩⟩
  have K21 : Cl l.prog w K mg base 1 "_law_bag" _ := ⟨⟨_, _, _, ok_bag F154_ TB1, g154_, k154, b154_⟩⟩
  have D1 := ok_draw (P := l.prog) (w := w) (base := base) F155_ TB1
  have K22 : Cl l.prog w K mg base 2 "_law_one_of" _ := ⟨⟨_, _, _, ok_one F156_ TB1 D1 b155_ g155_ k155, g156_, k156, b156_⟩⟩
  have MF1 : MF l.prog w K mg ⟨cT, cW, cC, cN, cM⟩ := ⟨TN1, ET, EW, EC, NN, NM, EX1, ⟨_, _, _, _, _, _, _, _, _, _, g157_, k157, l157, c157d, b157_⟩⟩
  have CE : ClG l.prog w K mg base 11 "_law_errors" (spErr C pE pL) := ⟨⟨_, _, _, ok_err l158 c158d MF1 TC1 ne tE K22 MQ M_MPut M_MRow M_MChange M_MWout K14 K12 K17 K18 K19 K20, g158_, k158, Binds.all fun us hl => match us, hl with | [_, _], _ => rfl⟩⟩
  exact ok_law l159 c159d MF1 TC1 ne tL K21 CE MQ M_MPut M_MWout M_MLen
end Q
set_option Elab.async false
set_option linter.all false
set_option maxRecDepth 100000
open PySem PySem.W PyProof.Rows
set_option maxRecDepth 100000 in
set_option maxHeartbeats 0 in
theorem PySem.Challenge.cw_wherebase_k59_errors_of_tables_and_condi_holds : PySem.Challenge.rw_wherebase_k59_errors_of_tables_and_condi.Holds := by
  w_on; o_law
  refine HandSHeadRun.head_imp (r := OpenLaw.row PySem.Challenge.rw_wherebase_k59_errors_of_tables_and_condi) (q := Q.viewA) (H := Q.hkA) (ob := Q.obA) (M := 9000) (loose := Q.looseA) (d := HandSHeadRun.topDef (OpenLaw.row PySem.Challenge.rw_wherebase_k59_errors_of_tables_and_condi).prog 159) (kwd := []) Q.ob_eq Q.runA
    (by kernel_rfl) (by kernel_rfl) (by kernel_rfl) (by rfl) (by first | assumption | decide +kernel) (by decide +kernel) ⟨rfl, rfl, rfl, rfl, rfl, by decide +kernel⟩ ?hw ?hc
  case hw => w_witness2
  case hc =>
  unfold Q.hkA
  k_fill
  refine L2.walk_GT (l := PySem.Challenge.rw_wherebase_k59_errors_of_tables_and_condi) (n := 63) (k := 12) (x := "script") rfl (by decide) (by kernel_rfl) ⟨rfl, by decide, by decide⟩ (fun w h Y => PySem.W.km_in_of Y) ?F
  case F =>
    intro w mg fa h Y KX G hmg0
    have hmg : mg ("law" : PySem.Str) = some (.ref fa) := by
      have e : (HandSHeadRun.topDef (OpenLaw.row PySem.Challenge.rw_wherebase_k59_errors_of_tables_and_condi).prog 159).name = ("law" : PySem.Str) := by kernel_rfl
      rw [← e]
      exact hmg0
    refine' Q.all_mk KX G hmg ?aC ?pg ?hd ?po ?sa ?nF ?nR ?nN ?kC ?iha ?ihn ?ihtk ?ihm ?ime ?mk ?ktnon ?ktbl ?ktint ?ktstr ?ktlst ?kttup ?ktdct ?aS ?ksnon ?ksbl ?ksint ?ksstr ?kslst ?kstup ?ksdct ?gK ?lK ?g_MAX_COLUMNS ?g_MAX_ROWS ?g_MAX_TEXT ?g_MAX_PARTS ?g_MAX_DEPTH ?AT ?TT ?KT ?ST ?AW ?TW ?KW ?SW ?AC ?TC ?KC ?SC ?AN ?TNn ?KN ?SN ?AM ?TM ?KM ?SM ?PT ?PW ?PC ?xTT ?xWT ?xWW ?xCT ?xCW ?xCC ?xNT ?xNW ?xNC ?xNN ?xMT ?xMW ?xMC ?xMN ?xMM ?XN ?GN ?HN ?EN ?IN ?FN ?LN ?DN ?YN ?NNx ?XM ?GM ?HM ?EM ?IM ?FM ?LM ?DM ?YM ?NMx ?gc0 ?a13 ?l13 ?c13d ?k13 ?a14 ?l14 ?c14d ?k14 ?a15 ?l15 ?c15d ?k15 ?a126 ?l126 ?c126d ?k126 ?a127 ?l127 ?c127d ?k127 ?a129 ?l129 ?c129d ?k129 ?a130 ?l130 ?c130d ?k130 ?a131 ?l131 ?c131d ?k131 ?a134 ?l134 ?c134d ?k134 ?a139 ?l139 ?c139d ?k139 ?a140 ?l140 ?c140d ?k140 ?a141 ?l141 ?c141d ?k141 ?a142 ?l142 ?c142d ?k142 ?a143 ?l143 ?c143d ?k143 ?a144 ?l144 ?c144d ?k144 ?a145 ?l145 ?c145d ?k145 ?a146 ?l146 ?c146d ?k146 ?a147 ?l147 ?c147d ?k147 ?a148 ?l148 ?c148d ?k148 ?a150 ?l150 ?c150d ?k150 ?a154 ?l154 ?c154d ?k154 ?a155 ?l155 ?c155d ?k155 ?a156 ?l156 ?c156d ?k156 ?a157 ?l157 ?c157d ?k157 ?a158 ?l158 ?c158d ?k158 ?a159 ?l159 ?c159d ?k159 ?aMInit ?iMInit ?lMInit ?cMInitd ?kMInit ?atMKinds ?geMKinds ?tkMKinds ?rcMKinds ?lMKinds ?cMKindsd ?kMKinds ?aMCont ?iMCont ?lMCont ?cMContd ?kMCont ?aMLen ?iMLen ?lMLen ?cMLend ?kMLen ?aMThere ?iMThere ?lMThere ?cMThered ?kMThere ?aMVals ?iMVals ?lMVals ?cMValsd ?kMVals ?aMRow ?iMRow ?lMRow ?cMRowd ?kMRow ?aMChange ?iMChange ?lMChange ?cMChanged ?kMChange ?aMWith ?iMWith ?lMWith ?cMWithd ?kMWith ?aMPut ?iMPut ?lMPut ?cMPutd ?kMPut ?aMWout ?iMWout ?lMWout ?cMWoutd ?kMWout ?z_isinstance ?z_int ?z_bool ?z_str ?z_tuple ?z_dict ?z_list ?z_len ?z_all ?z_sorted ?z_range ?z_max ?z_min ?z_repr ?z_sum ?z_abs ?ccE ?cpE ?chE ?cnE ?ctE ?ccL ?cpL ?chL ?cnL ?ctL ?ne
    (case aC => k_is)
    (case pg => k_is)
    (case hd => k_is)
    (case po => k_is)
    (case sa => k_is)
    (case nF => k_is)
    (case nR => k_is)
    (case nN => k_is)
    (case kC => k_is)
    (case iha => k_is)
    (case ihn => k_is)
    (case ihtk => k_is)
    (case ihm => k_is)
    (case ime => kit_is)
    (case mk => k_is)
    (case ktnon => kit_is)
    (case ktbl => kit_is)
    (case ktint => kit_is)
    (case ktstr => kit_is)
    (case ktlst => kit_is)
    (case kttup => kit_is)
    (case ktdct => kit_is)
    (case aS => k_is)
    (case ksnon => kit_is)
    (case ksbl => kit_is)
    (case ksint => kit_is)
    (case ksstr => kit_is)
    (case kslst => kit_is)
    (case kstup => kit_is)
    (case ksdct => kit_is)
    (case gK => k_is)
    (case lK => k_is)
    (case g_MAX_COLUMNS => k_is)
    (case g_MAX_ROWS => k_is)
    (case g_MAX_TEXT => k_is)
    (case g_MAX_PARTS => k_is)
    (case g_MAX_DEPTH => k_is)
    (case AT => k_is)
    (case TT => k_is)
    (case KT => k_is)
    (case ST => k_is)
    (case AW => k_is)
    (case TW => k_is)
    (case KW => k_is)
    (case SW => k_is)
    (case AC => k_is)
    (case TC => k_is)
    (case KC => k_is)
    (case SC => k_is)
    (case AN => k_is)
    (case TNn => k_is)
    (case KN => k_is)
    (case SN => k_is)
    (case AM => k_is)
    (case TM => k_is)
    (case KM => k_is)
    (case SM => k_is)
    (case PT => k_exc)
    (case PW => k_exc)
    (case PC => k_exc)
    (case xTT => k_is)
    (case xWT => k_is)
    (case xWW => k_is)
    (case xCT => k_is)
    (case xCW => k_is)
    (case xCC => k_is)
    (case xNT => k_is)
    (case xNW => k_is)
    (case xNC => k_is)
    (case xNN => k_is)
    (case xMT => k_is)
    (case xMW => k_is)
    (case xMC => k_is)
    (case xMN => k_is)
    (case xMM => k_is)
    (case XN => k_is)
    (case GN => k_is)
    (case HN => k_is)
    (case EN => k_is)
    (case IN => k_is)
    (case FN => k_is)
    (case LN => k_is)
    (case DN => k_is)
    (case YN => k_is)
    (case NNx => k_is)
    (case XM => k_is)
    (case GM => k_is)
    (case HM => k_is)
    (case EM => k_is)
    (case IM => k_is)
    (case FM => k_is)
    (case LM => k_is)
    (case DM => k_is)
    (case YM => k_is)
    (case NMx => k_is)
    (case gc0 => k_is)
    (case a13 => k_is)
    (case l13 => k_is)
    (case c13d => k_is)
    (case k13 => k_is)
    (case a14 => k_is)
    (case l14 => k_is)
    (case c14d => k_is)
    (case k14 => k_is)
    (case a15 => k_is)
    (case l15 => k_is)
    (case c15d => k_is)
    (case k15 => k_is)
    (case a126 => k_is)
    (case l126 => k_is)
    (case c126d => k_is)
    (case k126 => k_is)
    (case a127 => k_is)
    (case l127 => k_is)
    (case c127d => k_is)
    (case k127 => k_is)
    (case a129 => k_is)
    (case l129 => k_is)
    (case c129d => k_is)
    (case k129 => k_is)
    (case a130 => k_is)
    (case l130 => k_is)
    (case c130d => k_is)
    (case k130 => k_is)
    (case a131 => k_is)
    (case l131 => k_is)
    (case c131d => k_is)
    (case k131 => k_is)
    (case a134 => k_is)
    (case l134 => k_is)
    (case c134d => k_is)
    (case k134 => k_is)
    (case a139 => k_is)
    (case l139 => k_is)
    (case c139d => k_is)
    (case k139 => k_is)
    (case a140 => k_is)
    (case l140 => k_is)
    (case c140d => k_is)
    (case k140 => k_is)
    (case a141 => k_is)
    (case l141 => k_is)
    (case c141d => k_is)
    (case k141 => k_is)
    (case a142 => k_is)
    (case l142 => k_is)
    (case c142d => k_is)
    (case k142 => k_is)
    (case a143 => k_is)
    (case l143 => k_is)
    (case c143d => k_is)
    (case k143 => k_is)
    (case a144 => k_is)
    (case l144 => k_is)
    (case c144d => k_is)
    (case k144 => k_is)
    (case a145 => k_is)
    (case l145 => k_is)
    (case c145d => k_is)
    (case k145 => k_is)
    (case a146 => k_is)
    (case l146 => k_is)
    (case c146d => k_is)
    (case k146 => k_is)
    (case a147 => k_is)
    (case l147 => k_is)
    (case c147d => k_is)
    (case k147 => k_is)
    (case a148 => k_is)
    (case l148 => k_is)
    (case c148d => k_is)
    (case k148 => k_is)
    (case a150 => k_is)
    (case l150 => k_is)
    (case c150d => k_is)
    (case k150 => k_is)
    (case a154 => k_is)
    (case l154 => k_is)
    (case c154d => k_is)
    (case k154 => k_is)
    (case a155 => k_is)
    (case l155 => k_is)
    (case c155d => k_is)
    (case k155 => k_is)
    (case a156 => k_is)
    (case l156 => k_is)
    (case c156d => k_is)
    (case k156 => k_is)
    (case a157 => k_is)
    (case l157 => k_is)
    (case c157d => k_is)
    (case k157 => k_is)
    (case a158 => k_is)
    (case l158 => k_is)
    (case c158d => k_is)
    (case k158 => k_is)
    (case a159 => k_is)
    (case l159 => k_is)
    (case c159d => k_is)
    (case k159 => k_is)
    (case aMInit => k_is)
    (case iMInit => k_is)
    (case lMInit => k_is)
    (case cMInitd => k_is)
    (case kMInit => k_is)
    (case atMKinds => k_is)
    (case geMKinds => k_is)
    (case tkMKinds => k_is)
    (case rcMKinds => k_is)
    (case lMKinds => k_is)
    (case cMKindsd => k_is)
    (case kMKinds => k_is)
    (case aMCont => k_is)
    (case iMCont => k_is)
    (case lMCont => k_is)
    (case cMContd => k_is)
    (case kMCont => k_is)
    (case aMLen => k_is)
    (case iMLen => k_is)
    (case lMLen => k_is)
    (case cMLend => k_is)
    (case kMLen => k_is)
    (case aMThere => k_is)
    (case iMThere => k_is)
    (case lMThere => k_is)
    (case cMThered => k_is)
    (case kMThere => k_is)
    (case aMVals => k_is)
    (case iMVals => k_is)
    (case lMVals => k_is)
    (case cMValsd => k_is)
    (case kMVals => k_is)
    (case aMRow => k_is)
    (case iMRow => k_is)
    (case lMRow => k_is)
    (case cMRowd => k_is)
    (case kMRow => k_is)
    (case aMChange => k_is)
    (case iMChange => k_is)
    (case lMChange => k_is)
    (case cMChanged => k_is)
    (case kMChange => k_is)
    (case aMWith => k_is)
    (case iMWith => k_is)
    (case lMWith => k_is)
    (case cMWithd => k_is)
    (case kMWith => k_is)
    (case aMPut => k_is)
    (case iMPut => k_is)
    (case lMPut => k_is)
    (case cMPutd => k_is)
    (case kMPut => k_is)
    (case aMWout => k_is)
    (case iMWout => k_is)
    (case lMWout => k_is)
    (case cMWoutd => k_is)
    (case kMWout => k_is)
    (case z_isinstance => k_is)
    (case z_int => k_is)
    (case z_bool => k_is)
    (case z_str => k_is)
    (case z_tuple => k_is)
    (case z_dict => k_is)
    (case z_list => k_is)
    (case z_len => k_is)
    (case z_all => k_is)
    (case z_sorted => k_is)
    (case z_range => k_is)
    (case z_max => k_is)
    (case z_min => k_is)
    (case z_repr => k_is)
    (case z_sum => k_is)
    (case z_abs => k_is)
    (case ccE => k_is)
    (case cpE => rfl)
    (case chE => kernel_rfl)
    (case cnE => kernel_rfl)
    (case ctE => exact PySem.W.km_tabs_of Y _ (by k_mem))
    (case ccL => k_is)
    (case cpL => rfl)
    (case chL => kernel_rfl)
    (case cnL => kernel_rfl)
    (case ctL => exact PySem.W.km_tabs_of Y _ (by k_mem))
    (case ne => decide)
